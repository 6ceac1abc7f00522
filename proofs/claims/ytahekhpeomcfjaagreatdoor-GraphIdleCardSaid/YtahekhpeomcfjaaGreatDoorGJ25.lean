/- -/
import Derived.Test.YtahekhpeomcfjaaGreatDoorGJ24
open Go.Lib (hid)
open Nat (le_refl lt_of_succ_lt lt_succ_self)
set_option linter.unusedVariables false
set_option linter.unusedSimpArgs false
set_option maxRecDepth 100000
set_option maxHeartbeats 16000000
namespace Go.Proofs.YtahekhpeomcfjaaGreatDoor
open Go Go.ChangeShapes Go.WideShapes Go.ChangeAt Go.RowKit
section
namespace CGemm
open Plain
def zct (g a b c d:Nat) (w:World):Prop:=w.cell? ⟨g,0,none⟩=some (.int .i64 (a:Int))∧w.cell? ⟨g,1,none⟩=some (.int .i64 (b:Int))∧w.cell? ⟨g,2,none⟩=some (.int .i64 (c:Int))∧w.cell? ⟨g,3,none⟩=some (.int .i64 (d:Int))
theorem zct.new (a b c d:Nat) (T:TypeId) (w:World):zct w.heap.size a b c d (w.alloc (.cells #[.int .i64 (a:Int),.int .i64 (b:Int),.int .i64 (c:Int),.int .i64 (d:Int)] T)) :=
 ⟨Kit.zaf _ _ _ _,Kit.zaf _ _ _ _,Kit.zaf _ _ _ _,Kit.zaf _ _ _ _⟩
theorem zct.drewN {g a b c d:Nat} {w:World} (h:zct g a b c d w) (n:Nat):zct g a b c d (w.drewN n):=h
theorem zct.set {g a b c d b' o:Nat} {w:World} (h:zct g a b c d w) (hne:b'≠g) (v:Value):zct g a b c d (w.setCell ⟨b',o,none⟩ v) :=
 ⟨(World.cell?_setCell_far _ _ _ _ hne).trans h.1,(World.cell?_setCell_far _ _ _ _ hne).trans h.2.1,(World.cell?_setCell_far _ _ _ _ hne).trans h.2.2.1,(World.cell?_setCell_far _ _ _ _ hne).trans h.2.2.2⟩
def Owned (w:World) (T n:Nat) (xs:List Value) (e:Ending) (w':World):Prop :=
 ∃ v,e=.returned v∧w'.ownsRow w.heap.size T 1 v n xs∧Below w.heap.size w w'
theorem info_i32:(Tryz.prog.info? 21).map (fun i=>(i.zero,i.size,i.bytes))=some (some (.int .i32 0),1,4):=by kernel_rfl
theorem info_parts {T:Nat} {z:Value} {a b:Nat} (h:(Tryz.prog.info? T).map (fun i=>(i.zero,i.size,i.bytes))=some (some z,a,b)):∃ i,Tryz.prog.info? T=some i∧i.zero=some z∧i.size=a∧i.bytes=b:=by
 cases hi:Tryz.prog.info? T with
 | none=>rw [hi] at h;cases h
 | some i=>rw [hi] at h;simp at h;exact⟨i,rfl,h.1,h.2.1,h.2.2⟩
theorem mul_yes (A B:Option Addr) (xs ys:List Int) (n1 n2 c1 c2 r m c N:Nat) (hx:xs.length=n1) (hy:ys.length=n2) (h1:zci n1 r m=true) (h2:zci n2 c m=true) (hN:r * c=N) (hN1:N≤1000000)
  (hnc1:n1≤c1) (hnc2:n2≤c2) (hc1:c1≤maxLen) (hc2:c2≤maxLen) (hxb:I16b xs) (hyb:I8b ys) (F:Nat→Int) (hF:F=mulF xs ys m c) (w:World)
  (hr:Kit.Rd w w.heap.size A (xs.map (.int .i16))) (hs:Kit.Rd w w.heap.size B (ys.map (.int .i8))) :
  Calls Tryz.prog 142 #[.slice A n1 c1,.slice B n2 c2,.int .i64 (r:Int),.int .i64 (m:Int),.int .i64 (c:Int)] w (Owned w 21 N (I32v (rowL F N))):=by
 have H1:=hid h1
 have H2:=hid h2
 obtain⟨g1,g2,g3,g4,g5⟩:=holdsB_yes h1
 obtain⟨g6,g7, -, -,g8⟩:=holdsB_yes h2
 have hn1:n1=r * m:=by have:=g5;rw [← Int.natCast_mul] at this;exact Int.ofNat.inj this
 have hn2:n2=c * m:=by have:=g8;rw [← Int.natCast_mul] at this;exact Int.ofNat.inj this
 obtain⟨q1,q2⟩:=small_mul g1 g2 g6 g7
 have hrc:(r:Int) * (c:Int)=(N:Int):=by rw [← hN];simp
 have hrcw:IntKind.i64.wrap ((r:Int) * (c:Int))=(N:Int):=by rw [hrc];exact IntWalk.i64_in _ (by omega)
 have hm0:0 < m:=by omega
 have hc0:0 < c:=by omega
 have hr0:0 < r:=by omega
 have hpa:0 < n1:=by rw [hn1];exact Nat.mul_pos hr0 hm0
 have hpb:0 < n2:=by rw [hn2];exact Nat.mul_pos hc0 hm0
 have hp1:0 < xs.length:=by omega
 have hp2:0 < ys.length:=by omega
 obtain⟨b1,o1,rfl,hb1, -⟩:=zav hr (j:=0) hp1
 obtain⟨b2,o2,rfl,hb2, -⟩:=zav hs (j:=0) hp2
 obtain⟨T,hT⟩:∃ T,(r+31) / 32 * ((c+31) / 32)=T:=⟨_,rfl⟩
 obtain⟨a,ha⟩:∃ a,(c+31) / 32=a:=⟨_,rfl⟩
 have ha1:a≤512:=by omega
 have hr2:(r+31) / 32≤512:=by omega
 have hT2:T≤262144:=by rw [← hT,ha];exact Nat.le_trans (Nat.mul_le_mul hr2 ha1) (by omega)
 have htt:IntKind.i64.wrap ((((r+31) / 32:Nat):Int) * (a:Int))=(T:Int):=by
  rw [← Int.natCast_mul, ← ha,hT];exact IntWalk.i64_in _ (by omega)
 have HX:=hid hx
 have HY:=hid hy
 have HF:=hid hF
 have HR:=hid hr
 have HS:=hid hs
 have HXB:=hid hxb
 have HYB:=hid hyb
 have HN1:=hid hn1
 have HN2:=hid hn2
 have HNN:=hid hN
 have HTT:=hid hT
 have HA:=hid ha
 clear h1 h2 hx hy hF hr hs hxb hyb hn1 hn2 hN hT g5 g8 hrc q1 q2
 generalize hrq:(r+31) / 32=rq at htt hr2 HTT
 have HRQ:=hid hrq
 clear hrq
 go_enter Tryz.func142,Tryz.ntmps142
 obtain⟨i0,hi0,hi1,hi2,hi3⟩:=info_parts info_i32
 go_wp2
 go_step3
 go_wp2_with (first
  | (go_at_call 156;(refine (holds_to _ _ _ _ H1.out _).mono ?_);rintro e w1 ⟨rfl,rfl⟩;clear H1)
  | (go_at_call 156;(refine (holds_to _ _ _ _ H2.out _).mono ?_);rintro e w1 ⟨rfl,rfl⟩;clear H2)
  | (go_at_call 157;(refine (tiles_to c (by omega) _).mono ?_);rintro e w1 ⟨rfl,rfl⟩;rw [HA.out])
  | (at_make;refine wpList_make_full _ rfl (.tmp 33) (.tmp 33) _ rfl w.heap.size 21 i0 (.int .i32 0) 1 Tryz.underlying40 hi0 hi1 hi2 .i64 .i64 _ _ N rfl rfl rfl rfl (by rw [hi3];omega) (by unfold maxLen;omega) (by omega) ?_;intro w2 hown hg2))
 rw [show (madeCells (Value.int IntKind.i32 0).cells (N * 1)).toList=I32v (List.replicate N 0) by rw [Nat.mul_one];show (madeCells #[Value.int .i32 0] N).toList=_;rw [toList_madeCells_one];simp [I32v]] at hown
 have HOWN:=hid hown
 have HB2:Hid (Below w.heap.size w w2):=hid ((Below.refl w.heap.size w).grown hg2 (le_refl _) (fun q hq=>by cases hq))
 clear hown hg2 hi0 hi1 hi2 hi3
 go_step3
 go_wp2_with (go_at_call 157;(refine (tiles_to r (by omega) _).mono ?_);rintro e w1 ⟨rfl,rfl⟩;rw [HRQ.out])
 go_loopw [41] (fun i wr=>∃ (k:Nat) (P:List Int),k≤T∧i=.int .i64 k∧Hid (wr.ownsRow w.heap.size 21 1 (.slice (some ⟨w.heap.size,0,none⟩) N N) N (I32v P))∧Hid (zcj N (Done1 c k) F P)∧Hid (Below w.heap.size w wr)) (fun i _=>T - (intOf i).toNat)
 case atStart=>exact⟨0,_,Nat.zero_le _,rfl,HOWN,hid (zcj.none (fun i _ h=>by simp [Done1] at h)),HB2⟩
 case round =>
  obtain⟨k,P,hk,rfl,HO1,HF1,HB1⟩:=hrel
  clear HOWN HB2
  by_cases hlt:k < T
  ·have hkI:(k:Int) < (T:Int):=by omega
   obtain⟨p,hp⟩:∃ p,k / a=p:=⟨_,rfl⟩
   obtain⟨q,hq⟩:∃ q,k % a=q:=⟨_,rfl⟩
   have ha0:0 < a:=by omega
   have hpr:p < rq:=by
    have hTT:=HTT.out
    rw [HA.out] at hTT
    rw [← hp];exact Nat.div_lt_of_lt_mul (by rw [Nat.mul_comm,hTT];exact hlt)
   have hqa:q < a:=by rw [← hq];exact Nat.mod_lt _ ha0
   have hp32:p * 32 < r:=by have:=HRQ.out;omega
   have hq32:q * 32 < c:=by omega
   obtain⟨e0,he0⟩:∃ e,p * 32=e:=⟨_,rfl⟩
   obtain⟨e1,he1⟩:∃ e,(p+1) * 32=e:=⟨_,rfl⟩
   obtain⟨e2,he2⟩:∃ e,q * 32=e:=⟨_,rfl⟩
   obtain⟨e3,he3⟩:∃ e,(q+1) * 32=e:=⟨_,rfl⟩
   rw [he0] at hp32
   rw [he2] at hq32
   have HE0:=hid he0
   have HE1:=hid he1
   have HE2:=hid he2
   have HE3:=hid he3
   clear he0 he1 he2 he3
   have ha9:¬ a=0:=by omega
   have d1:(k:Int).tdiv (a:Int)=(p:Int):=by rw [Int.tdiv_eq_ediv_of_nonneg (by omega), ← hp];simp
   have d2:(k:Int).tmod (a:Int)=(q:Int):=by rw [Int.tmod_eq_emod_of_nonneg (by omega), ← hq];simp
   have d3:IntKind.i64.wrap (p:Int)=(p:Int):=IntWalk.i64_in _ (by omega)
   have d4:IntKind.i64.wrap (q:Int)=(q:Int):=IntWalk.i64_in _ (by omega)
   have HP:=hid hp
   have HQ:=hid hq
   clear hp hq
   have hgw:w.heap.size < wr.heap.size:=Kit.zao HO1.out
   go_wp2_with fail
   go_cut [14,41] from 41 to 98 (fun s14 s41 wx=>∃ ge:Nat,s14=.pointer (some ⟨ge,0,none⟩)∧s41=.int .i64 (k:Int)∧w.heap.size < ge∧zct ge e0 e1 e2 e3 wx∧Below wr.heap.size wr wx)
   case first =>
    refine wp_region_held_drew (S:=fun _=>True) (by kernel_rfl) trivial (fun hHeld=>?_)
    refine Tk.x 0 rfl ?_
    try simp only [Tk.put]
    refine Tk.x 1 rfl ?_
    try simp only [Tk.put]
    refine Tk.x 2 rfl ?_
    try simp only [Tk.put]
    refine Tk.x 3 rfl ?_
    try simp only [Tk.put]
    refine Tk.x 4 rfl ?_
    try simp only [Tk.put]
    refine Tk.x 5 rfl ?_
    try simp only [Tk.put]
    refine wpAnyH_ready (rs:=[6,7]) (by kernel_rfl) (by simp) ?_
    refine Tk.c rfl (fun K hK=>?_) ?_
    ·go_simp
     go_at_call 158
     refine (bounds_to p q e0 e1 e2 e3 (by omega) (by omega) HE0.out HE1.out HE2.out HE3.out _).mono ?_
     rintro e w3 ⟨rfl,hb3⟩
     have hs3:=hb3.size
     dsimp only
     refine hK.out _ _ ?_ (fun hHeld=>?_)
     ·trivial
     clear hK K
     try simp only [Tk.put]
     refine Tk.s 7 rfl (fun K hK=>?_)
     go_simp
     refine hK.out _ _ ?_ (fun hHeld=>?_)
     ·trivial
     clear hK K
     try simp only [Tk.put]
     refine Tk.s 8 rfl (fun K hK=>?_)
     go_simp
     refine hK.out _ _ ?_ (fun hHeld=>?_)
     ·trivial
     clear hK K
     try simp only [Tk.put]
     refine wpAnyH_done (by kernel_rfl) ?_ _
     go_wp2_with fail
     go_meet
     exact⟨_,rfl,rfl,by have:=hs3;simp at this;omega,zct.new _ _ _ _ _ _,(Below.refl _ _).drew.trans (hb3.alloc hb3.size _)⟩
    refine Tk.c rfl (fun K hK=>?_) ?_
    ·go_simp
     refine hK.out _ _ ?_ (fun hHeld=>?_)
     ·trivial
     clear hK K
     try simp only [Tk.put]
     refine Tk.s 6 rfl (fun K hK=>?_)
     go_simp
     go_at_call 158
     refine (bounds_to p q e0 e1 e2 e3 (by omega) (by omega) HE0.out HE1.out HE2.out HE3.out _).mono ?_
     rintro e w3 ⟨rfl,hb3⟩
     have hs3:=hb3.size
     simp at hs3
     have z0:=(hb3.cell (p:=⟨wr.heap.size,0,none⟩) (by simp)).trans (Kit.zaf _ _ _ _)
     have z1:=(hb3.cell (p:=⟨wr.heap.size,1,none⟩) (by simp)).trans (Kit.zaf _ _ _ _)
     have z2:=(hb3.cell (p:=⟨wr.heap.size,2,none⟩) (by simp)).trans (Kit.zaf _ _ _ _)
     have z3:=(hb3.cell (p:=⟨wr.heap.size,3,none⟩) (by simp)).trans (Kit.zaf _ _ _ _)
     have y0:=(hb3.frozen (p:=⟨wr.heap.size,0,none⟩) (by simp)).trans (World.frozen?_alloc_at _ _ _ _ rfl)
     have y1:=(hb3.frozen (p:=⟨wr.heap.size,1,none⟩) (by simp)).trans (World.frozen?_alloc_at _ _ _ _ rfl)
     have y2:=(hb3.frozen (p:=⟨wr.heap.size,2,none⟩) (by simp)).trans (World.frozen?_alloc_at _ _ _ _ rfl)
     have y3:=(hb3.frozen (p:=⟨wr.heap.size,3,none⟩) (by simp)).trans (World.frozen?_alloc_at _ _ _ _ rfl)
     simp at z0 z1 z2 z3
     dsimp only
     refine hK.out _ _ ?_ (fun hHeld=>?_)
     ·trivial
     clear hK K
     try simp only [Tk.put]
     refine Tk.s 8 rfl (fun K hK=>?_)
     go_simp
     refine hK.out _ _ ?_ (fun hHeld=>?_)
     ·trivial
     clear hK K
     try simp only [Tk.put]
     refine wpAnyH_done (by kernel_rfl) ?_ _
     go_wp2_with fail
     go_meet
     exact⟨_,rfl,rfl,hgw,⟨by go_cell,by go_cell,by go_cell,by go_cell⟩,(((((((Below.refl _ _).drew.alloc (le_refl _) _).trans (hb3.mono (by simp))).setCell (by simp) _).setCell (by simp) _).setCell (by simp) _).setCell (by simp) _)⟩
    exact AllReadyH.nil
   case rest =>
    obtain⟨ge,rfl,rfl,hge,hE,hbx⟩:=hcut
    have HO2:=hid (Kit.own_below HO1.out hbx)
    have HB2:Hid (Below w.heap.size w wc):=hid (HB1.out.trans (hbx.mono (by omega)))
    have HE:=hid hE
    have hne:w.heap.size≠ge:=by omega
    clear HO1 HB1 hE hbx hge d1 d2 d3 d4 hgw
    obtain⟨ec0,ec1,ec2,ec3⟩:=HE.out
    go_wp2_with fail
    clear ec0 ec1 ec2 ec3
    go_loopw [15] (fun u wr=>∃ (i:Nat) (P:List Int),u=.int .i64 i∧e0≤i∧i≤r∧i≤e1∧Hid (wr.ownsRow w.heap.size 21 1 (.slice (some ⟨w.heap.size,0,none⟩) N N) N (I32v P))∧Hid (zcj N (Done2 c k i) F P)∧Hid (Below w.heap.size w wr)∧Hid (zct ge e0 e1 e2 e3 wr)) (fun u _=>e1 - (intOf u).toNat)
    case atStart=>exact⟨e0,P,rfl,le_refl _,by omega,by have:=HE0.out;have:=HE1.out;omega,HO2,hid (HF1.out.mono (fun j _ h=>to21 hc0 HA.out HP.out HE0.out h)),HB2,HE⟩
    case round =>
     clear HO2 HB2 HE HF1
     obtain⟨i,P,rfl,hi0,hir,hi1,HO2,HF2,HB2,HE⟩:=hrel
     obtain⟨ec0,ec1,ec2,ec3⟩:=HE.out
     by_cases hie:i < e1
     ·by_cases hrr:i < r
      ·have hiI:(i:Int) < (e1:Int):=by omega
       have hirI:¬ i=r:=by omega
       have hirb:((i:Int) == (r:Int))=false:=by simp;omega
       go_wp2_with fail
       clear ec0 ec1 ec2 ec3
       go_loopw [16] (fun u wr=>∃ (j:Nat) (P:List Int),u=.int .i64 j∧e2≤j∧j≤c∧j≤e3∧Hid (wr.ownsRow w.heap.size 21 1 (.slice (some ⟨w.heap.size,0,none⟩) N N) N (I32v P))∧Hid (zcj N (Done3 c k i j) F P)∧Hid (Below w.heap.size w wr)∧Hid (zct ge e0 e1 e2 e3 wr)) (fun u _=>e3 - (intOf u).toNat)
       case atStart=>exact⟨e2,P,rfl,le_refl _,by omega,by have:=HE2.out;have:=HE3.out;omega,HO2,hid (HF2.out.mono (fun j _ h=>to32 hc0 HA.out HQ.out HE2.out h)),HB2,HE⟩
       case round =>
        clear HO2 HB2 HE HF2
        obtain⟨j,P,rfl,hj0,hjc,hj3,HO3,HF3,HB3,HE⟩:=hrel
        obtain⟨ec0,ec1,ec2,ec3⟩:=HE.out
        rcases (show (e3≤c)∨(c < e3) by omega) with hmin | hmin
        all_goals
         by_cases hje:j < e3∧j < c
         ·obtain⟨hj1,hj2⟩:=hje
          have hj1I:(j:Int) < (e3:Int):=by omega
          have hj2I:(j:Int) < (c:Int):=by omega
          obtain⟨I1,hI1⟩:∃ I1,i * c=I1:=⟨_,rfl⟩
          obtain⟨I2,hI2⟩:∃ I2,I1+j=I2:=⟨_,rfl⟩
          obtain⟨A1,hA1⟩:∃ A1,i * m=A1:=⟨_,rfl⟩
          obtain⟨A2,hA2⟩:∃ A2,A1+m=A2:=⟨_,rfl⟩
          obtain⟨B1,hB1⟩:∃ B1,j * m=B1:=⟨_,rfl⟩
          obtain⟨B2,hB2⟩:∃ B2,B1+m=B2:=⟨_,rfl⟩
          have hIN:I2 < N:=by rw [← HNN.out, ← hI2, ← hI1];exact place_lt hrr hj2
          have hAn:A2≤n1:=by rw [HN1.out, ← hA2, ← hA1];have:=Nat.mul_le_mul_right m (show i+1≤r by omega);rwa [Nat.add_mul,Nat.one_mul] at this
          have hBn:B2≤n2:=by rw [HN2.out, ← hB2, ← hB1];have:=Nat.mul_le_mul_right m (show j+1≤c by omega);rwa [Nat.add_mul,Nat.one_mul] at this
          have hcm1:c1≤9223372036854775807:=by unfold maxLen at hc1;omega
          have hcm2:c2≤9223372036854775807:=by unfold maxLen at hc2;omega
          obtain⟨i',hi'⟩:∃ i',i+1=i':=⟨_,rfl⟩
          obtain⟨j',hj'⟩:∃ j',j+1=j':=⟨_,rfl⟩
          have w1:IntKind.i64.wrap ((i:Int) * (c:Int))=(I1:Int):=by rw [← Int.natCast_mul,hI1];exact IntWalk.i64_in _ (by omega)
          have w2':IntKind.i64.wrap ((I1:Int)+(j:Int))=(I2:Int):=by rw [← Int.natCast_add,hI2];exact IntWalk.i64_in _ (by omega)
          have w3:IntKind.i64.wrap ((i:Int) * (m:Int))=(A1:Int):=by rw [← Int.natCast_mul,hA1];exact IntWalk.i64_in _ (by omega)
          have w4:IntKind.i64.wrap ((i:Int)+1)=(i':Int):=by rw [IntWalk.i64_in _ (by omega)];omega
          have w5:IntKind.i64.wrap ((i':Int) * (m:Int))=(A2:Int):=by rw [← Int.natCast_mul, ← hi',Nat.add_mul,Nat.one_mul,hA1,hA2];exact IntWalk.i64_in _ (by omega)
          have w6:IntKind.i64.wrap ((j:Int) * (m:Int))=(B1:Int):=by rw [← Int.natCast_mul,hB1];exact IntWalk.i64_in _ (by omega)
          have w7:IntKind.i64.wrap ((j:Int)+1)=(j':Int):=by rw [IntWalk.i64_in _ (by omega)];omega
          have w8:IntKind.i64.wrap ((j':Int) * (m:Int))=(B2:Int):=by rw [← Int.natCast_mul, ← hj',Nat.add_mul,Nat.one_mul,hB1,hB2];exact IntWalk.i64_in _ (by omega)
          have s1:(0:Int)≤(A1:Int):=by omega
          have s2:(A1:Int)≤(A2:Int):=by omega
          have s3:(A2:Int)≤(c1:Int):=by omega
          have s4:¬ c1=A1:=by omega
          have s5:(0:Int)≤(B1:Int):=by omega
          have s6:(B1:Int)≤(B2:Int):=by omega
          have s7:(B2:Int)≤(c2:Int):=by omega
          have s8:¬ c2=B1:=by omega
          have s9:(0:Int)≤(I2:Int):=by omega
          have s0:(I2:Int) < (N:Int):=by omega
          have sA:A2 - A1=m:=by omega
          have sB:B2 - B1=m:=by omega
          have HI1:=hid hI1
          have HI2:=hid hI2
          have HA1:=hid hA1
          have HBB:=hid hB1
          have HJ':=hid hj'
          have hfr:wr.frozen? ⟨w.heap.size,I2,none⟩=false:=HO3.out.frozenAt I2
          have hcl:∃ v,wr.cell? ⟨w.heap.size,I2,none⟩=some v:=⟨_,(HO3.out.cellAt I2 (by omega)).trans (List.getElem?_eq_getElem (by rw [I32v_len,HF3.out.1];exact hIN))⟩
          obtain⟨vold,hcl⟩:=hcl
          go_wp2_with fail
          clear ec0 ec1 ec2 ec3 hI1 hI2 hA1 hA2 hB1 hB2 hi' hj'
          refine wp_region_held_drew (S:=fun _=>True) (by kernel_rfl) trivial (fun hHeld=>?_)
          refine Tk.x 0 rfl ?_
          try simp only [Tk.put]
          refine Tk.x 1 rfl ?_
          try simp only [Tk.put]
          refine Tk.x 2 rfl ?_
          try simp only [Tk.put]
          refine Tk.x 3 rfl ?_
          try simp only [Tk.put]
          refine Tk.x 4 rfl ?_
          try simp only [Tk.put]
          refine Tk.x 5 rfl ?_
          try simp only [Tk.put]
          refine Tk.x 6 rfl ?_
          try simp only [Tk.put]
          refine Tk.x 7 rfl ?_
          try simp only [Tk.put]
          refine Tk.x 8 rfl ?_
          try simp only [Tk.put]
          refine Tk.x 9 rfl ?_
          try simp only [Tk.put]
          refine Tk.x 10 rfl ?_
          try simp only [Tk.put]
          refine Tk.x 11 rfl ?_
          try simp only [Tk.put]
          refine Tk.x 12 rfl ?_
          try simp only [Tk.put]
          refine Tk.x 13 rfl ?_
          try simp only [Tk.put]
          refine Tk.x 14 rfl ?_
          try simp only [Tk.put]
          refine Tk.x 15 rfl ?_
          try simp only [Tk.put]
          refine Tk.x 16 rfl ?_
          try simp only [Tk.put]
          refine Tk.x 17 rfl ?_
          try simp only [Tk.put]
          refine Tk.x 18 rfl ?_
          try simp only [Tk.put]
          refine Tk.x 19 rfl ?_
          try simp only [Tk.put]
          refine Tk.x 20 rfl ?_
          try simp only [Tk.put]
          refine Tk.x 21 rfl ?_
          try simp only [Tk.put]
          refine Tk.x 22 rfl ?_
          try simp only [Tk.put]
          refine Tk.x 23 rfl ?_
          try simp only [Tk.put]
          refine Tk.s 24 rfl (fun K hK=>?_)
          go_simp
          go_at_call 159
          refine (dot_to (some ⟨b1,o1+A1,none⟩) (some ⟨b2,o2+B1,none⟩) ((xs.drop A1).take m) ((ys.drop B1).take m) m m (c1 - A1) (c2 - B1) m (cut_len HX.out (by omega)) (cut_len HY.out (by omega)) (by omega) (by omega) (by omega) (by omega) (by unfold maxLen;omega) (by unfold maxLen;omega) (cut_I16 HXB.out _ _) (cut_I8 HYB.out _ _) _ (cut_rd (HR.out.below HB3.out).drew A1 m) (cut_rd (HS.out.below HB3.out).drew B1 m) (F I2) (mul_at xs ys HI1.out HI2.out hj2 HA1.out HBB.out HF.out)).mono ?_
          rintro e w4 ⟨rfl,nq,rfl⟩
          dsimp only
          refine hK.out _ _ ?_ (fun hHeld=>?_)
          ·trivial
          clear hK K
          try simp only [Tk.put]
          refine Tk.x 25 rfl ?_
          try simp only [Tk.put]
          refine Tk.s 26 rfl (fun K hK=>?_)
          go_simp
          refine hK.out _ _ ?_ (fun hHeld=>?_)
          ·trivial
          clear hK K
          try simp only [Tk.put]
          refine wpAnyH_done (by kernel_rfl) ?_ _
          have HO4:=hid ((Kit.own_below HO3.out (Kit.below_drewN (Below.refl wr.heap.size wr) (1+nq))).stored I2 (.int .i32 (F I2))).1
          have HB4:Hid (Below w.heap.size w ((wr.drewN (1+nq)).setCell ⟨w.heap.size,I2,none⟩ (.int .i32 (F I2)))):=hid ((Kit.below_drewN HB3.out (1+nq)).setCell (by simp) _)
          have HE4:Hid (zct ge e0 e1 e2 e3 ((wr.drewN (1+nq)).setCell ⟨w.heap.size,I2,none⟩ (.int .i32 (F I2)))):=hid ((HE.out.drewN (1+nq)).set hne _)
          rw [I32v_set] at HO4
          clear HO3 HB3 HE hfr hcl
          go_wp2_with fail
          go_roundw
          case rel=>exact⟨j',P.set I2 (F I2),rfl,by have:=HJ'.out;omega,by have:=HJ'.out;omega,by have:=HJ'.out;omega,HO4,hid (HF3.out.set rfl (fun l _ h=>by rw [← HI2.out, ← HI1.out];rw [← HJ'.out] at h;exact done33 h)),HB4,HE4⟩
          case measure=>have:=HJ'.out;simp [intOf];omega
         ·have hj9:j=c∨e3≤j:=by omega
          go_wp2_with fail
          go_roundw
          case rel=>exact⟨i+1,P,by go_num,by omega,by omega,by omega,HO3,hid (HF3.out.mono (fun l _ h=>to23 hc0 HA.out HQ.out HE3.out hj9 h)),HB3,HE⟩
          case measure=>simp [intOf];omega
      ·obtain rfl:i=r:=by omega
       have hiI:(i:Int) < (e1:Int):=by omega
       go_wp2_with fail
       go_roundw
       case rel=>exact⟨k+1,P,by omega,by go_num,HO2,hid (HF2.out.mono (fun j hj h=>to12 hc0 HA.out HP.out HE1.out (by rw [HNN.out];exact hj) (.inl rfl) h)),HB2⟩
       case measure=>simp [intOf];omega
     ·obtain rfl:i=e1:=by omega
      go_wp2_with fail
      go_roundw
      case rel=>exact⟨k+1,P,by omega,by go_num,HO2,hid (HF2.out.mono (fun j hj h=>to12 hc0 HA.out HP.out HE1.out (by rw [HNN.out];exact hj) (.inr (le_refl _)) h)),HB2⟩
      case measure=>simp [intOf];omega
  ·obtain rfl:k=T:=by omega
   have hfin:P=rowL F N:=HF1.out.all (fun j hj=>by
    have:=tile_last (rows:=r) hc0 (show j < r * c by rw [HNN.out];exact hj)
    rw [HRQ.out,HTT.out] at this
    exact this)
   subst hfin
   go_wp2_with fail
   rw [Exit.noGoto_ret]
   go_ret
   exact⟨_,rfl,HO1.out,HB1.out⟩
end CGemm
end
end Go.Proofs.YtahekhpeomcfjaaGreatDoor
