/- Texts of this seat, one behind the other: PoolEachMax, PoolEachAvg. -/
import Derived.Laws.MakeOwn
import Derived.Test.YtkpngknbiecdiaaGreatDoorGB40
import Derived.Test.YtkpngknbiecdiaaGreatDoorGB46
import Derived.Test.YtkpngknbiecdiaaGreatDoorGB47
section
namespace Go.Proofs.YtkpngknbiecdiaaGreatDoor.CPool
open Go Go.ChangeShapes Go.WideShapes Go.ChangeAt Go.RowKit
open Plain CSat CShape CTensor CConv
set_option linter.unusedVariables false
def greatF (zs:List Int) (H W C S P:Int) (kk:Nat) (h v o:Nat):Int:=maxL (windowL zs H W C ((h:Int) * S - P) ((v:Int) * S - P) kk o)
set_option maxRecDepth 100000 in
set_option maxHeartbeats 8000000 in
theorem eachMax_yes (H W C:Int) (A:Option Addr) (zs:List Int) (n c:Nat) (hn:zs.length=n) (ht:tensB H W C n=true) (hz:I8b zs) (x0 x1 x2 x8 x11 x12 x13 x14 x15 x16 x17 x18:Value) (K S P O Z:Int) (WA BA:Option Addr) (nW cW nB cB:Nat) (a b d kk:Nat) (he:slideE H W C K S P C=0) (ha:stepsM H K S P=(a:Int)) (hb:stepsM W K S P=(b:Int)) (hd:C=(d:Int)) (hk:K=(kk:Int)) (N:Nat) (hN:a * b * d=N)
  (w:World) (hr:Kit.Rd w w.heap.size A (I8s zs)) :
  Calls Tryz.prog 53 #[.agg #[.int .i64 H,.int .i64 W,.int .i64 C,.slice A n c],.agg #[x0,x1,x2,.int .i64 K,.int .i64 S,.int .i64 P,.int .i64 O,.int .i8 Z,x8,.slice WA nW cW,.slice BA nB cB,x11,x12,x13,x14,x15,x16,x17,x18],.func (.func 54) #[] #[]] w (MadeP w (a:Int) (b:Int) C N (rowL (gridF b d (greatF zs H W C S P kk)) N) (.int .i64 0)):=by
 obtain⟨hs0,har1,har2, -, -,hsr⟩:=slide_ok he
 obtain⟨-, -,k1,k2,st1,st2,pd1,pd2, -⟩:=argsB_yes har1
 have hS:slideS H W C K S P C=#[.int .i64 (a:Int),.int .i64 (b:Int),.int .i64 C]:=by unfold slideS;rw [he,if_pos rfl,ha,hb]
 rw [ha,hb] at hsr
 obtain⟨q1,q2,q3,q4,q5,q6,q7⟩:=shapeB_yes hsr
 have hNI:(a:Int) * (b:Int) * C=(N:Int):=by rw [hd, ← hN];simp
 have hN2:N≤1024:=by rw [hNI] at q7;omega
 have hel:elemsZ (a:Int) (b:Int) C=(N:Int):=by rw [elemsZ_yes hsr];exact hNI
 obtain⟨F,hF⟩:∃ F,F=gridF b d (greatF zs H W C S P kk):=⟨_,rfl⟩
 have hFF:∀ i j k:Nat,j < b→k < d→F ((i * b+j) * d+k)=greatF zs H W C S P kk i j k:=fun i j k hj hk=>by rw [hF,grid_at b d _ hj hk]
 rw [← hF]
 have hn1:0 < n:=by
  obtain⟨hs1,hn1⟩:shapeB H W C=true∧(n:Int)=H * W * C:=by simpa [tensB] using ht
  obtain⟨g1,g2,g3,g4,g5,g6,g7⟩:=shapeB_yes hs1
  have:0 < H * W * C:=Int.mul_pos (Int.mul_pos (by omega) (by omega)) (by omega)
  omega
 obtain⟨bb,ob,rfl,hbb,hcb⟩:=ints_getD hr (j:=0) (by omega)
 obtain⟨i0,hi0,hi1,hi2,hi3⟩:=info_parts32 info_i8p
 have hmk:∀ w:World,(Instr.makeSlice 23 (.int .i64 0) (.int .i64 (N:Int))).run Tryz.prog w=.ok (.slice (some ⟨w.heap.size,0,none⟩) 0 N) (w.alloc (.cells (madeCells #[.int .i8 0] N) 22)):=fun w=>by
  have h:=run_make (P:=Tryz.prog) w 23 22 i0 (.int .i8 0) Tryz.underlying23 hi0 hi1 .i64 .i64 0 N (Int.le_refl _) (by omega) (by rw [hi3];omega) (by omega)
  rw [hi2,Nat.mul_one,show (Value.int .i8 0).cells=#[.int .i8 0] from rfl] at h
  simpa using h
 have hkk1:1≤kk:=by omega
 have hkk7:kk≤7:=by omega
 subst hk
 have HT:=Lib.hid ht
 have HE:=Lib.hid he
 have HS:=Lib.hid hS
 have HEL:=Lib.hid hel
 have HFF:=Lib.hid hFF
 have HN:=Lib.hid hn
 have HZ:=Lib.hid hz
 have HD:=Lib.hid hd
 have HNN:=Lib.hid hN
 have HCB:=Lib.hid hcb
 clear hcb ht he hS hel hFF hn hz hd hN hr hs0 har1 har2 hsr q7 hNI hF ha hb
 go_enter Tryz.func53,Tryz.ntmps53
 go_wp2_with (first
  | (go_at_call 17
     have hal:Below w.heap.size w (((w.alloc (.cells #[.int .i64 H,.int .i64 W,.int .i64 C,.slice (some ⟨bb,ob,none⟩) n c] 32)).alloc (.cells #[x0,x1,x2,.int .i64 (kk:Int),.int .i64 S,.int .i64 P,.int .i64 O,.int .i8 Z,x8,.slice WA nW cW,.slice BA nB cB,x11,x12,x13,x14,x15,x16,x17,x18] 28)).alloc (.cells #[.int .i64 0,.int .i64 0,.int .i64 0,.slice none 0 0] 32)):=(((Below.refl _ _).alloc (by first | exact Nat.le_refl _ | (simp;done) | (simp;omega)) _).alloc (by first | exact Nat.le_refl _ | (simp;done) | (simp;omega)) _).alloc (by first | exact Nat.le_refl _ | (simp;done) | (simp;omega)) _
     refine (right_to H W C (some ⟨bb,ob,none⟩) n c true HT.out _).mono ?_
     rintro e w1 ⟨rfl,hb⟩
     have hh:Below w.heap.size w w1:=hal.trans (hb.mono hal.size)
     have qTB:=(boxNew H W C (some ⟨bb,ob,none⟩) n c 32) w
     try simp only [World.size_alloc] at qTB
     have TB:=Lib.hid ((qTB.below (B':=w.heap.size+1) (by omega) ((((Below.refl _ _).alloc (by first | exact Nat.le_refl _ | (simp;done) | (simp;omega)) _).alloc (by first | exact Nat.le_refl _ | (simp;done) | (simp;omega)) _).mono (by simp))).below (by first | (simp;done) | (simp;omega)) hb)
     have yTB:w.heap.size < w1.heap.size:=by have:=hb.size;simp at this;omega
     clear qTB
     have qTN:=(NodeAt.new x0 x1 x2 x8 x11 x12 x13 x14 x15 x16 x17 x18 (kk:Int) S P O Z WA BA nW cW nB cB 28) (w.alloc (.cells #[.int .i64 H,.int .i64 W,.int .i64 C,.slice (some ⟨bb,ob,none⟩) n c] 32))
     try simp only [World.size_alloc] at qTN
     have TN:=Lib.hid ((qTN.below (B':=w.heap.size+2) (by omega) (((Below.refl _ _).alloc (by first | exact Nat.le_refl _ | (simp;done) | (simp;omega)) _).mono (by simp))).below (by first | (simp;done) | (simp;omega)) hb)
     have yTN:w.heap.size+1 < w1.heap.size:=by have:=hb.size;simp at this;omega
     clear qTN
     have qFR:=(freshNew 32) ((w.alloc (.cells #[.int .i64 H,.int .i64 W,.int .i64 C,.slice (some ⟨bb,ob,none⟩) n c] 32)).alloc (.cells #[x0,x1,x2,.int .i64 (kk:Int),.int .i64 S,.int .i64 P,.int .i64 O,.int .i8 Z,x8,.slice WA nW cW,.slice BA nB cB,x11,x12,x13,x14,x15,x16,x17,x18] 28))
     try simp only [World.size_alloc] at qFR
     have FR:=Lib.hid (qFR.below (by first | (simp;done) | (simp;omega)) hb)
     have yFR:w.heap.size+2 < w1.heap.size:=by have:=hb.size;simp at this;omega
     clear qFR
     have HBW:Hid (Below w.heap.size w w1):=Lib.hid hh
     obtain⟨tbp0,tbp1,tbp2,tbp3⟩:=TB.out
     have n3:=TN.out.at 3 _ rfl
     have n4:=TN.out.at 4 _ rfl
     have n5:=TN.out.at 5 _ rfl
     clear hb hh hal)
  | (go_at_call 102
     have hal:Below w1.heap.size w1 w1:=Below.refl _ _
     refine (slide_to H W C (kk:Int) S P C 0 _ HE.out HS.out _).mono ?_
     rintro e w2 ⟨rfl,hb⟩
     have hh:Below w1.heap.size w1 w2:=hal.trans (hb.mono hal.size)
     replace TB:=Lib.hid (TB.out.below yTB hh)
     replace yTB:=Nat.lt_of_lt_of_le yTB hh.size
     replace TN:=Lib.hid (TN.out.below yTN hh)
     replace yTN:=Nat.lt_of_lt_of_le yTN hh.size
     replace FR:=Lib.hid (FR.out.below yFR hh)
     replace yFR:=Nat.lt_of_lt_of_le yFR hh.size
     replace HBW:=Lib.hid (HBW.out.trans (hh.mono HBW.out.size))
     clear tbp0 tbp1 tbp2 tbp3 n3 n4 n5
     have hg2:w.heap.size+3≤w2.heap.size:=yFR
     obtain⟨tbp0,tbp1,tbp2,tbp3⟩:=TB.out
     have n3:=TN.out.at 3 _ rfl
     have n4:=TN.out.at 4 _ rfl
     have n5:=TN.out.at 5 _ rfl
     clear hb hh hal)
  | (go_at_call 52
     have hal:Below w2.heap.size w2 (w2.alloc (.cells #[.int .i64 (a:Int),.int .i64 (b:Int),.int .i64 C] 30)):=(Below.refl _ _).alloc (by first | exact Nat.le_refl _ | (simp;done) | (simp;omega)) _
     refine (elems_to (a:Int) (b:Int) C N HEL.out _).mono ?_
     rintro e w3 ⟨rfl,hb⟩
     have hh:Below w2.heap.size w2 w3:=hal.trans (hb.mono hal.size)
     have qTS:=(shapeNew (a:Int) (b:Int) C 30) w2
     try simp only [World.size_alloc] at qTS
     have TS:=Lib.hid (qTS.below (by first | (simp;done) | (simp;omega)) hb)
     have yTS:w2.heap.size < w3.heap.size:=by have:=hb.size;simp at this;omega
     clear qTS
     replace TB:=Lib.hid (TB.out.below yTB hh)
     replace yTB:=Nat.lt_of_lt_of_le yTB hh.size
     replace TN:=Lib.hid (TN.out.below yTN hh)
     replace yTN:=Nat.lt_of_lt_of_le yTN hh.size
     replace FR:=Lib.hid (FR.out.below yFR hh)
     replace yFR:=Nat.lt_of_lt_of_le yFR hh.size
     replace HBW:=Lib.hid (HBW.out.trans (hh.mono HBW.out.size))
     clear tbp0 tbp1 tbp2 tbp3 n3 n4 n5
     obtain⟨tbp0,tbp1,tbp2,tbp3⟩:=TB.out
     have n3:=TN.out.at 3 _ rfl
     have n4:=TN.out.at 4 _ rfl
     have n5:=TN.out.at 5 _ rfl
     obtain⟨tsp0,tsp1,tsp2⟩:=TS.out
     clear hb hh hal))
 have hal:Below w3.heap.size w3 (w3.alloc (.cells (madeCells #[.int .i8 0] N) 22)):=(Below.refl _ _).alloc (Nat.le_refl _) _
 have h63:w.heap.size+3≤w2.heap.size:=hg2
 have hOA:Hid (OfAt w H W C (some ⟨bb,ob,none⟩) n c x0 x1 x2 x8 x11 x12 x13 x14 x15 x16 x17 x18 (kk:Int) S P O Z WA BA nW cW nB cB (a:Int) (b:Int) C w2.heap.size (w3.alloc (.cells (madeCells #[.int .i8 0] N) 22))):=Lib.hid ⟨TB.out.below yTB hal,TN.out.below yTN hal,FR.out.below yFR hal,TS.out.below yTS hal,HBW.out.trans (hal.mono HBW.out.size),by simp;omega⟩
 have hW:Hid ((w3.alloc (.cells (madeCells #[.int .i8 0] N) 22)).ownsRow (w2.heap.size+1) 22 1 (.slice (some ⟨w3.heap.size,0,none⟩) 0 N) 0 (I8s (rowL F 0))):=Lib.hid (World.ownsRow_made (e:=22) w3 _ N (by omega) (by unfold maxLen;omega) (by rw [size_madeCells];simp))
 clear TB TN FR TS yTB yTN yFR yTS hal tbp0 tbp1 tbp2 tbp3 n3 n4 n5 tsp0 tsp1 tsp2 HBW hg2
 generalize (w3.alloc (.cells (madeCells #[.int .i8 0] N) 22))=Wm at hOA hW ⊢
 generalize w2.heap.size=g6 at hOA hW h63 ⊢
 generalize (⟨w3.heap.size,0,none⟩:Addr)=ad at hW ⊢
 go_loopw [10,42] (fun v u wr=>∃ i:Nat,i≤a∧u=.int .i64 i∧Hid (OfAt w H W C (some ⟨bb,ob,none⟩) n c x0 x1 x2 x8 x11 x12 x13 x14 x15 x16 x17 x18 (kk:Int) S P O Z WA BA nW cW nB cB (a:Int) (b:Int) C g6 wr)∧Hid (wr.ownsRow (g6+1) 22 1 v (i * b * d) (I8s (rowL F (i * b * d))))) (fun _ u _=>a - (intOf u).toNat)
 case atStart=>exact⟨0,Nat.zero_le _,rfl,hOA,by simpa using hW⟩
 case round =>
  obtain⟨i,hi,rfl,hA0,hW0⟩:=hrel
  clear hOA hW
  obtain⟨Av0,cv0,rfl, -, -, -⟩:=Kit.own_rd hW0.out
  obtain⟨-, -, -,⟨s1,s2,s3⟩, -, -⟩:=hA0.out
  by_cases hlt:i < a
  ·have hiI:(i:Int) < (a:Int):=by omega
   go_wp2_with fail
   go_loopw [10,47] (fun v u wr=>∃ j:Nat,j≤b∧u=.int .i64 j∧Hid (OfAt w H W C (some ⟨bb,ob,none⟩) n c x0 x1 x2 x8 x11 x12 x13 x14 x15 x16 x17 x18 (kk:Int) S P O Z WA BA nW cW nB cB (a:Int) (b:Int) C g6 wr)∧Hid (wr.ownsRow (g6+1) 22 1 v ((i * b+j) * d) (I8s (rowL F ((i * b+j) * d))))) (fun _ u _=>b - (intOf u).toNat)
   case atStart=>exact⟨0,Nat.zero_le _,rfl,hA0,by simpa using hW0⟩
   case round =>
    obtain⟨j,hj,rfl,hA1,hW1⟩:=hrel
    clear hA0 hW0 s1 s2 s3
    obtain⟨Av1,cv1,rfl, -, -, -⟩:=Kit.own_rd hW1.out
    obtain⟨-, -, -,⟨s1,s2,s3⟩, -, -⟩:=hA1.out
    by_cases hltj:j < b
    ·have hjI:(j:Int) < (b:Int):=by omega
     obtain⟨o,ho⟩:∃ o,(i * b+j) * d=o:=⟨_,rfl⟩
     rw [ho] at hW1 ⊢
     have HOO:=Lib.hid ho
     clear ho
     go_wp2_with fail
     go_loopw [10,52] (fun v u wr=>∃ k:Nat,k≤d∧u=.int .i64 k∧Hid (OfAt w H W C (some ⟨bb,ob,none⟩) n c x0 x1 x2 x8 x11 x12 x13 x14 x15 x16 x17 x18 (kk:Int) S P O Z WA BA nW cW nB cB (a:Int) (b:Int) C g6 wr)∧Hid (wr.ownsRow (g6+1) 22 1 v (o+k) (I8s (rowL F (o+k))))) (fun _ u _=>d - (intOf u).toNat)
     case atStart=>exact⟨0,Nat.zero_le _,rfl,hA1,hW1⟩
     case round =>
      obtain⟨k,hk,rfl,hA2,hW2⟩:=hrel
      clear hA1 hW1 s1 s2 s3
      obtain⟨Av,cv,rfl, -, -, -⟩:=Kit.own_rd hW2.out
      obtain⟨hbx,hnd, -,⟨s1,s2,s3⟩,hbw,hsz⟩:=hA2.out
      have HBW:=Lib.hid hbw
      clear hbw
      by_cases hltk:k < d
      ·have hkI:(k:Int) < C:=by have:=HD.out;omega
       have hk0:(0:Int)≤(k:Int):=by omega
       have hom:o+k < N:=by rw [← HOO.out, ← HNN.out];exact at_lt hlt hltj hltk
       obtain⟨hs,hhs⟩:∃ hs,(i:Int) * S=hs:=⟨_,rfl⟩
       obtain⟨vs,hvs⟩:∃ vs,(j:Int) * S=vs:=⟨_,rfl⟩
       have b1:0≤hs∧hs≤64:=by
        rw [← hhs]
        exact⟨Int.mul_nonneg (by omega) (by omega),Int.le_trans (Int.mul_le_mul (show (i:Int)≤16 by omega) st2 (by omega) (by omega)) (by omega)⟩
       have b2:0≤vs∧vs≤64:=by
        rw [← hvs]
        exact⟨Int.mul_nonneg (by omega) (by omega),Int.le_trans (Int.mul_le_mul (show (j:Int)≤16 by omega) st2 (by omega) (by omega)) (by omega)⟩
       have e1:IntKind.i64.wrap hs=hs:=IntWalk.i64_in _ (by omega)
       have e2:IntKind.i64.wrap vs=vs:=IntWalk.i64_in _ (by omega)
       obtain⟨top,htop⟩:∃ top,hs - P=top:=⟨_,rfl⟩
       obtain⟨left,hleft⟩:∃ left,vs - P=left:=⟨_,rfl⟩
       have e3:IntKind.i64.wrap (hs - P)=top:=by rw [IntWalk.i64_in _ (by omega),htop]
       have e4:IntKind.i64.wrap (vs - P)=left:=by rw [IntWalk.i64_in _ (by omega),hleft]
       have hF1:=HFF.out i j k hltj hltk
       unfold greatF windowL at hF1
       rw [HOO.out,hhs,hvs,htop,hleft] at hF1
       obtain⟨x,hx⟩:∃ x,F (o+k)=x:=⟨_,rfl⟩
       rw [hx] at hF1
       have HX1:Hid (maxL ((rowsI H W C top left kk k kk).map (fun q=>zs.getD q 0))=x):=Lib.hid (by rw [← rowsI_L];exact hF1.symm)
       have HXX:=Lib.hid hx
       have t1 : -1000≤top:=by omega
       have t2:top≤1000:=by omega
       have l1 : -1000≤left:=by omega
       have l2:left≤1000:=by omega
       obtain⟨k0,k1_,k2_,k3_⟩:=hbx
       have n3:=hnd.at 3 _ rfl
       have n4:=hnd.at 4 _ rfl
       have n5:=hnd.at 5 _ rfl
       clear hx hF1 htop hleft hnd
       go_wp2_with (first
        | (go_at_call 103;(refine (pwin_to H W C (some ⟨bb,ob,none⟩) n c (kk:Int) top left (k:Int) _).mono ?_);(rintro e w4 ⟨rfl,hcap,hb4,hs4⟩;have HCAP:=Lib.hid hcap;have HB4:=Lib.hid hb4;have HS4:=Lib.hid hs4;have hz4:w.heap.size≤w4.heap.size:=Nat.le_trans HBW.out.size hb4.size;clear hcap hb4 hs4))
        | (go_at_call 54;(refine (maxC_to wr.heap.size bb ob H W C n c kk k d top left (fun q=>zs.getD q 0) HZ.out HT.out HD.out hltk hkk7 t1 t2 l1 l2 x HX1.out w4 (by have:=HS4.out;omega) (by omega) HCAP.out (fun j hj=>((HBW.out.trans (HB4.out.mono HBW.out.size)).cell (p:=⟨bb,ob+j,none⟩) hbb).trans (HCB.out j (by rw [HN.out];exact hj)))).mono ?_);(rintro e w5 ⟨rfl,hb5⟩;have HB5:=Lib.hid ((HB4.out.trans (hb5.mono HB4.out.size)).alloc (Nat.le_trans HB4.out.size hb5.size) (.cells #[.int .i8 x] 22));have HO5:=Lib.hid (Kit.own_below hW2.out HB5.out);have hz5:g6+1≤(w5.alloc (.cells #[.int .i8 x] 22)).heap.size:=Nat.le_trans hsz HB5.out.size;clear hb5))
        | (at_builtin;refine Kit.wpList_append_rd _ rfl (.tmp 55) (.tmp 77) _ rfl (g6+1) 22 i0 (.int .i8 0) 1 1 Tryz.underlying23 hi0 hi1 hi2 hi3 rfl (by decide) _ (o+k) (I8s (rowL F (o+k))) rfl HO5.out _ _ 1 1 [.int .i8 x] rfl rfl (Kit.Rd.new _ _ _ (Nat.lt_succ_self _)) (Kit.ints_one .i8 [x]) (by unfold maxLen;omega) (by omega) hz5 ?_;(intro v6 w6 hown6 hg7 _;obtain⟨A6,c6,rfl, -, -, -⟩:=Kit.own_rd hown6;have hb6:Below (g6+1) _ w6:=(Below.refl _ _).grown hg7 hz5 (Kit.own_block_ge HO5.out);rw [rowL_succ8 F (o+k) x HXX.out] at hown6;have HW6:=Lib.hid hown6;have HA6:=Lib.hid ((hA2.out.below h63 (show g6 < wr.heap.size by omega) HB5.out).below h63 (Nat.lt_succ_self _) hb6);clear hown6 hg7 hb6)))
       go_roundw
       case rel=>exact⟨k+1,by omega,by go_num,HA6,HW6⟩
       case measure=>simp [intOf];omega
      ·obtain rfl:k=d:=by omega
       have hkI:¬ (k:Int) < C:=by have:=HD.out;omega
       have e:(i * b+(j+1)) * k=o+k:=by rw [← HOO.out, ← Nat.add_assoc,Nat.add_mul _ 1,Nat.one_mul]
       have hW3:Hid (wr.ownsRow (g6+1) 22 1 (.slice Av (o+k) cv) ((i * b+(j+1)) * k) (I8s (rowL F ((i * b+(j+1)) * k)))):=by rw [e];exact hW2
       go_wp2_with fail
       go_roundw
       case rel=>exact⟨j+1,by omega,by go_num,hA2,hW3⟩
       case measure=>simp [intOf];omega
    ·obtain rfl:j=b:=by omega
     have e:(i+1) * j * d=(i * j+j) * d:=by rw [Nat.add_mul i 1,Nat.one_mul]
     have hW3:Hid (wr.ownsRow (g6+1) 22 1 (.slice Av1 ((i * j+j) * d) cv1) ((i+1) * j * d) (I8s (rowL F ((i+1) * j * d)))):=by rw [e];exact hW1
     go_wp2_with fail
     go_roundw
     case rel=>exact⟨i+1,by omega,by go_num,hA1,hW3⟩
     case measure=>simp [intOf];omega
  ·obtain rfl:i=a:=by omega
   rw [HNN.out] at hW0
   clear s1 s2 s3
   obtain⟨-, -,⟨⟨z0,z1,z2,z3⟩,z4,z5,z6,z7⟩,⟨s1,s2,s3⟩,hbw,hsz⟩:=hA0.out
   have HBW:=Lib.hid hbw
   clear hbw
   rw [HNN.out]
   go_wp2_with fail
   refine bodyPost_ret (Kit.results_ct rfl _ _ (w.heap.size+2) 0 [.int .i64 (i:Int),.int .i64 (b:Int),.int .i64 C,.slice Av0 N cv0] _ rfl (range_4 (by go_cell) (by go_cell) (by go_cell) (by go_cell)) Tryz.underlying32 rfl (by kernel_rfl)) rfl ?_
   refine⟨_,rfl,Kit.own_base (own_set4 hW0.out ?_) ?_,?_⟩
   any_goals (first | omega | (simp;done) | (simp;omega))
   exact (((HBW.out.setCell (p:=⟨w.heap.size+2,0,none⟩) (by simp) _).setCell (p:=⟨w.heap.size+2,1,none⟩) (by simp) _).setCell (p:=⟨w.heap.size+2,2,none⟩) (by simp) _).setCell (p:=⟨w.heap.size+2,3,none⟩) (by simp) _
end Go.Proofs.YtkpngknbiecdiaaGreatDoor.CPool
end
section
namespace Go.Proofs.YtkpngknbiecdiaaGreatDoor.CPool
open Go Go.ChangeShapes Go.WideShapes Go.ChangeAt Go.RowKit
open Plain CSat CShape CTensor CConv
set_option linter.unusedVariables false
set_option maxRecDepth 100000 in
set_option maxHeartbeats 8000000 in
theorem eachAvg_yes (H W C:Int) (A:Option Addr) (zs:List Int) (n c:Nat) (hn:zs.length=n) (ht:tensB H W C n=true) (hz:I8b zs) (x0 x1 x2 x8 x11 x12 x13 x14 x15 x16 x17 x18:Value) (K S P O Z:Int) (WA BA:Option Addr) (nW cW nB cB:Nat) (a b d kk:Nat) (he:slideE H W C K S P C=0) (ha:stepsM H K S P=(a:Int)) (hb:stepsM W K S P=(b:Int)) (hd:C=(d:Int)) (hk:K=(kk:Int)) (N:Nat) (hN:a * b * d=N)
  (w:World) (hr:Kit.Rd w w.heap.size A (I8s zs)) :
  Calls Tryz.prog 53 #[.agg #[.int .i64 H,.int .i64 W,.int .i64 C,.slice A n c],.agg #[x0,x1,x2,.int .i64 K,.int .i64 S,.int .i64 P,.int .i64 O,.int .i8 Z,x8,.slice WA nW cW,.slice BA nB cB,x11,x12,x13,x14,x15,x16,x17,x18],.func (.func 55) #[] #[]] w (MadeP w (a:Int) (b:Int) C N (rowL (gridF b d (meanF zs H W C S P kk)) N) (.int .i64 0)):=by
 obtain⟨hs0,har1,har2, -, -,hsr⟩:=slide_ok he
 obtain⟨-, -,k1,k2,st1,st2,pd1,pd2, -⟩:=argsB_yes har1
 have hS:slideS H W C K S P C=#[.int .i64 (a:Int),.int .i64 (b:Int),.int .i64 C]:=by unfold slideS;rw [he,if_pos rfl,ha,hb]
 rw [ha,hb] at hsr
 obtain⟨q1,q2,q3,q4,q5,q6,q7⟩:=shapeB_yes hsr
 have hNI:(a:Int) * (b:Int) * C=(N:Int):=by rw [hd, ← hN];simp
 have hN2:N≤1024:=by rw [hNI] at q7;omega
 have hel:elemsZ (a:Int) (b:Int) C=(N:Int):=by rw [elemsZ_yes hsr];exact hNI
 obtain⟨F,hF⟩:∃ F,F=gridF b d (meanF zs H W C S P kk):=⟨_,rfl⟩
 have hFF:∀ i j k:Nat,j < b→k < d→F ((i * b+j) * d+k)=meanF zs H W C S P kk i j k:=fun i j k hj hk=>by rw [hF,grid_at b d _ hj hk]
 rw [← hF]
 have hn1:0 < n:=by
  obtain⟨hs1,hn1⟩:shapeB H W C=true∧(n:Int)=H * W * C:=by simpa [tensB] using ht
  obtain⟨g1,g2,g3,g4,g5,g6,g7⟩:=shapeB_yes hs1
  have:0 < H * W * C:=Int.mul_pos (Int.mul_pos (by omega) (by omega)) (by omega)
  omega
 obtain⟨bb,ob,rfl,hbb,hcb⟩:=ints_getD hr (j:=0) (by omega)
 obtain⟨i0,hi0,hi1,hi2,hi3⟩:=info_parts32 info_i8p
 have hmk:∀ w:World,(Instr.makeSlice 23 (.int .i64 0) (.int .i64 (N:Int))).run Tryz.prog w=.ok (.slice (some ⟨w.heap.size,0,none⟩) 0 N) (w.alloc (.cells (madeCells #[.int .i8 0] N) 22)):=fun w=>by
  have h:=run_make (P:=Tryz.prog) w 23 22 i0 (.int .i8 0) Tryz.underlying23 hi0 hi1 .i64 .i64 0 N (Int.le_refl _) (by omega) (by rw [hi3];omega) (by omega)
  rw [hi2,Nat.mul_one,show (Value.int .i8 0).cells=#[.int .i8 0] from rfl] at h
  simpa using h
 have hkk1:1≤kk:=by omega
 have hkk7:kk≤7:=by omega
 subst hk
 have HT:=Lib.hid ht
 have HE:=Lib.hid he
 have HS:=Lib.hid hS
 have HEL:=Lib.hid hel
 have HFF:=Lib.hid hFF
 have HN:=Lib.hid hn
 have HZ:=Lib.hid hz
 have HD:=Lib.hid hd
 have HNN:=Lib.hid hN
 have HCB:=Lib.hid hcb
 clear hcb ht he hS hel hFF hn hz hd hN hr hs0 har1 har2 hsr q7 hNI hF ha hb
 go_enter Tryz.func53,Tryz.ntmps53
 go_wp2_with (first
  | (go_at_call 17
     have hal:Below w.heap.size w (((w.alloc (.cells #[.int .i64 H,.int .i64 W,.int .i64 C,.slice (some ⟨bb,ob,none⟩) n c] 32)).alloc (.cells #[x0,x1,x2,.int .i64 (kk:Int),.int .i64 S,.int .i64 P,.int .i64 O,.int .i8 Z,x8,.slice WA nW cW,.slice BA nB cB,x11,x12,x13,x14,x15,x16,x17,x18] 28)).alloc (.cells #[.int .i64 0,.int .i64 0,.int .i64 0,.slice none 0 0] 32)):=(((Below.refl _ _).alloc (by first | exact Nat.le_refl _ | (simp;done) | (simp;omega)) _).alloc (by first | exact Nat.le_refl _ | (simp;done) | (simp;omega)) _).alloc (by first | exact Nat.le_refl _ | (simp;done) | (simp;omega)) _
     refine (right_to H W C (some ⟨bb,ob,none⟩) n c true HT.out _).mono ?_
     rintro e w1 ⟨rfl,hb⟩
     have hh:Below w.heap.size w w1:=hal.trans (hb.mono hal.size)
     have qTB:=(boxNew H W C (some ⟨bb,ob,none⟩) n c 32) w
     try simp only [World.size_alloc] at qTB
     have TB:=Lib.hid ((qTB.below (B':=w.heap.size+1) (by omega) ((((Below.refl _ _).alloc (by first | exact Nat.le_refl _ | (simp;done) | (simp;omega)) _).alloc (by first | exact Nat.le_refl _ | (simp;done) | (simp;omega)) _).mono (by simp))).below (by first | (simp;done) | (simp;omega)) hb)
     have yTB:w.heap.size < w1.heap.size:=by have:=hb.size;simp at this;omega
     clear qTB
     have qTN:=(NodeAt.new x0 x1 x2 x8 x11 x12 x13 x14 x15 x16 x17 x18 (kk:Int) S P O Z WA BA nW cW nB cB 28) (w.alloc (.cells #[.int .i64 H,.int .i64 W,.int .i64 C,.slice (some ⟨bb,ob,none⟩) n c] 32))
     try simp only [World.size_alloc] at qTN
     have TN:=Lib.hid ((qTN.below (B':=w.heap.size+2) (by omega) (((Below.refl _ _).alloc (by first | exact Nat.le_refl _ | (simp;done) | (simp;omega)) _).mono (by simp))).below (by first | (simp;done) | (simp;omega)) hb)
     have yTN:w.heap.size+1 < w1.heap.size:=by have:=hb.size;simp at this;omega
     clear qTN
     have qFR:=(freshNew 32) ((w.alloc (.cells #[.int .i64 H,.int .i64 W,.int .i64 C,.slice (some ⟨bb,ob,none⟩) n c] 32)).alloc (.cells #[x0,x1,x2,.int .i64 (kk:Int),.int .i64 S,.int .i64 P,.int .i64 O,.int .i8 Z,x8,.slice WA nW cW,.slice BA nB cB,x11,x12,x13,x14,x15,x16,x17,x18] 28))
     try simp only [World.size_alloc] at qFR
     have FR:=Lib.hid (qFR.below (by first | (simp;done) | (simp;omega)) hb)
     have yFR:w.heap.size+2 < w1.heap.size:=by have:=hb.size;simp at this;omega
     clear qFR
     have HBW:Hid (Below w.heap.size w w1):=Lib.hid hh
     obtain⟨tbp0,tbp1,tbp2,tbp3⟩:=TB.out
     have n3:=TN.out.at 3 _ rfl
     have n4:=TN.out.at 4 _ rfl
     have n5:=TN.out.at 5 _ rfl
     clear hb hh hal)
  | (go_at_call 102
     have hal:Below w1.heap.size w1 w1:=Below.refl _ _
     refine (slide_to H W C (kk:Int) S P C 0 _ HE.out HS.out _).mono ?_
     rintro e w2 ⟨rfl,hb⟩
     have hh:Below w1.heap.size w1 w2:=hal.trans (hb.mono hal.size)
     replace TB:=Lib.hid (TB.out.below yTB hh)
     replace yTB:=Nat.lt_of_lt_of_le yTB hh.size
     replace TN:=Lib.hid (TN.out.below yTN hh)
     replace yTN:=Nat.lt_of_lt_of_le yTN hh.size
     replace FR:=Lib.hid (FR.out.below yFR hh)
     replace yFR:=Nat.lt_of_lt_of_le yFR hh.size
     replace HBW:=Lib.hid (HBW.out.trans (hh.mono HBW.out.size))
     clear tbp0 tbp1 tbp2 tbp3 n3 n4 n5
     have hg2:w.heap.size+3≤w2.heap.size:=yFR
     obtain⟨tbp0,tbp1,tbp2,tbp3⟩:=TB.out
     have n3:=TN.out.at 3 _ rfl
     have n4:=TN.out.at 4 _ rfl
     have n5:=TN.out.at 5 _ rfl
     clear hb hh hal)
  | (go_at_call 52
     have hal:Below w2.heap.size w2 (w2.alloc (.cells #[.int .i64 (a:Int),.int .i64 (b:Int),.int .i64 C] 30)):=(Below.refl _ _).alloc (by first | exact Nat.le_refl _ | (simp;done) | (simp;omega)) _
     refine (elems_to (a:Int) (b:Int) C N HEL.out _).mono ?_
     rintro e w3 ⟨rfl,hb⟩
     have hh:Below w2.heap.size w2 w3:=hal.trans (hb.mono hal.size)
     have qTS:=(shapeNew (a:Int) (b:Int) C 30) w2
     try simp only [World.size_alloc] at qTS
     have TS:=Lib.hid (qTS.below (by first | (simp;done) | (simp;omega)) hb)
     have yTS:w2.heap.size < w3.heap.size:=by have:=hb.size;simp at this;omega
     clear qTS
     replace TB:=Lib.hid (TB.out.below yTB hh)
     replace yTB:=Nat.lt_of_lt_of_le yTB hh.size
     replace TN:=Lib.hid (TN.out.below yTN hh)
     replace yTN:=Nat.lt_of_lt_of_le yTN hh.size
     replace FR:=Lib.hid (FR.out.below yFR hh)
     replace yFR:=Nat.lt_of_lt_of_le yFR hh.size
     replace HBW:=Lib.hid (HBW.out.trans (hh.mono HBW.out.size))
     clear tbp0 tbp1 tbp2 tbp3 n3 n4 n5
     obtain⟨tbp0,tbp1,tbp2,tbp3⟩:=TB.out
     have n3:=TN.out.at 3 _ rfl
     have n4:=TN.out.at 4 _ rfl
     have n5:=TN.out.at 5 _ rfl
     obtain⟨tsp0,tsp1,tsp2⟩:=TS.out
     clear hb hh hal))
 have hal:Below w3.heap.size w3 (w3.alloc (.cells (madeCells #[.int .i8 0] N) 22)):=(Below.refl _ _).alloc (Nat.le_refl _) _
 have h63:w.heap.size+3≤w2.heap.size:=hg2
 have hOA:Hid (OfAt w H W C (some ⟨bb,ob,none⟩) n c x0 x1 x2 x8 x11 x12 x13 x14 x15 x16 x17 x18 (kk:Int) S P O Z WA BA nW cW nB cB (a:Int) (b:Int) C w2.heap.size (w3.alloc (.cells (madeCells #[.int .i8 0] N) 22))):=Lib.hid ⟨TB.out.below yTB hal,TN.out.below yTN hal,FR.out.below yFR hal,TS.out.below yTS hal,HBW.out.trans (hal.mono HBW.out.size),by simp;omega⟩
 have hW:Hid ((w3.alloc (.cells (madeCells #[.int .i8 0] N) 22)).ownsRow (w2.heap.size+1) 22 1 (.slice (some ⟨w3.heap.size,0,none⟩) 0 N) 0 (I8s (rowL F 0))):=Lib.hid (World.ownsRow_made (e:=22) w3 _ N (by omega) (by unfold maxLen;omega) (by rw [size_madeCells];simp))
 clear TB TN FR TS yTB yTN yFR yTS hal tbp0 tbp1 tbp2 tbp3 n3 n4 n5 tsp0 tsp1 tsp2 HBW hg2
 generalize (w3.alloc (.cells (madeCells #[.int .i8 0] N) 22))=Wm at hOA hW ⊢
 generalize w2.heap.size=g6 at hOA hW h63 ⊢
 generalize (⟨w3.heap.size,0,none⟩:Addr)=ad at hW ⊢
 go_loopw [10,42] (fun v u wr=>∃ i:Nat,i≤a∧u=.int .i64 i∧Hid (OfAt w H W C (some ⟨bb,ob,none⟩) n c x0 x1 x2 x8 x11 x12 x13 x14 x15 x16 x17 x18 (kk:Int) S P O Z WA BA nW cW nB cB (a:Int) (b:Int) C g6 wr)∧Hid (wr.ownsRow (g6+1) 22 1 v (i * b * d) (I8s (rowL F (i * b * d))))) (fun _ u _=>a - (intOf u).toNat)
 case atStart=>exact⟨0,Nat.zero_le _,rfl,hOA,by simpa using hW⟩
 case round =>
  obtain⟨i,hi,rfl,hA0,hW0⟩:=hrel
  clear hOA hW
  obtain⟨Av0,cv0,rfl, -, -, -⟩:=Kit.own_rd hW0.out
  obtain⟨-, -, -,⟨s1,s2,s3⟩, -, -⟩:=hA0.out
  by_cases hlt:i < a
  ·have hiI:(i:Int) < (a:Int):=by omega
   go_wp2_with fail
   go_loopw [10,47] (fun v u wr=>∃ j:Nat,j≤b∧u=.int .i64 j∧Hid (OfAt w H W C (some ⟨bb,ob,none⟩) n c x0 x1 x2 x8 x11 x12 x13 x14 x15 x16 x17 x18 (kk:Int) S P O Z WA BA nW cW nB cB (a:Int) (b:Int) C g6 wr)∧Hid (wr.ownsRow (g6+1) 22 1 v ((i * b+j) * d) (I8s (rowL F ((i * b+j) * d))))) (fun _ u _=>b - (intOf u).toNat)
   case atStart=>exact⟨0,Nat.zero_le _,rfl,hA0,by simpa using hW0⟩
   case round =>
    obtain⟨j,hj,rfl,hA1,hW1⟩:=hrel
    clear hA0 hW0 s1 s2 s3
    obtain⟨Av1,cv1,rfl, -, -, -⟩:=Kit.own_rd hW1.out
    obtain⟨-, -, -,⟨s1,s2,s3⟩, -, -⟩:=hA1.out
    by_cases hltj:j < b
    ·have hjI:(j:Int) < (b:Int):=by omega
     obtain⟨o,ho⟩:∃ o,(i * b+j) * d=o:=⟨_,rfl⟩
     rw [ho] at hW1 ⊢
     have HOO:=Lib.hid ho
     clear ho
     go_wp2_with fail
     go_loopw [10,52] (fun v u wr=>∃ k:Nat,k≤d∧u=.int .i64 k∧Hid (OfAt w H W C (some ⟨bb,ob,none⟩) n c x0 x1 x2 x8 x11 x12 x13 x14 x15 x16 x17 x18 (kk:Int) S P O Z WA BA nW cW nB cB (a:Int) (b:Int) C g6 wr)∧Hid (wr.ownsRow (g6+1) 22 1 v (o+k) (I8s (rowL F (o+k))))) (fun _ u _=>d - (intOf u).toNat)
     case atStart=>exact⟨0,Nat.zero_le _,rfl,hA1,hW1⟩
     case round =>
      obtain⟨k,hk,rfl,hA2,hW2⟩:=hrel
      clear hA1 hW1 s1 s2 s3
      obtain⟨Av,cv,rfl, -, -, -⟩:=Kit.own_rd hW2.out
      obtain⟨hbx,hnd, -,⟨s1,s2,s3⟩,hbw,hsz⟩:=hA2.out
      have HBW:=Lib.hid hbw
      clear hbw
      by_cases hltk:k < d
      ·have hkI:(k:Int) < C:=by have:=HD.out;omega
       have hk0:(0:Int)≤(k:Int):=by omega
       have hom:o+k < N:=by rw [← HOO.out, ← HNN.out];exact at_lt hlt hltj hltk
       obtain⟨hs,hhs⟩:∃ hs,(i:Int) * S=hs:=⟨_,rfl⟩
       obtain⟨vs,hvs⟩:∃ vs,(j:Int) * S=vs:=⟨_,rfl⟩
       have b1:0≤hs∧hs≤64:=by
        rw [← hhs]
        exact⟨Int.mul_nonneg (by omega) (by omega),Int.le_trans (Int.mul_le_mul (show (i:Int)≤16 by omega) st2 (by omega) (by omega)) (by omega)⟩
       have b2:0≤vs∧vs≤64:=by
        rw [← hvs]
        exact⟨Int.mul_nonneg (by omega) (by omega),Int.le_trans (Int.mul_le_mul (show (j:Int)≤16 by omega) st2 (by omega) (by omega)) (by omega)⟩
       have e1:IntKind.i64.wrap hs=hs:=IntWalk.i64_in _ (by omega)
       have e2:IntKind.i64.wrap vs=vs:=IntWalk.i64_in _ (by omega)
       obtain⟨top,htop⟩:∃ top,hs - P=top:=⟨_,rfl⟩
       obtain⟨left,hleft⟩:∃ left,vs - P=left:=⟨_,rfl⟩
       have e3:IntKind.i64.wrap (hs - P)=top:=by rw [IntWalk.i64_in _ (by omega),htop]
       have e4:IntKind.i64.wrap (vs - P)=left:=by rw [IntWalk.i64_in _ (by omega),hleft]
       have hF1:=HFF.out i j k hltj hltk
       unfold meanF windowL at hF1
       rw [HOO.out,hhs,hvs,htop,hleft] at hF1
       obtain⟨x,hx⟩:∃ x,F (o+k)=x:=⟨_,rfl⟩
       rw [hx] at hF1
       have HX1:Hid (meanZ ((rowsI H W C top left kk k kk).map (fun q=>zs.getD q 0))=x):=Lib.hid (by rw [← rowsI_L];exact hF1.symm)
       have HXX:=Lib.hid hx
       have t1 : -1000≤top:=by omega
       have t2:top≤1000:=by omega
       have l1 : -1000≤left:=by omega
       have l2:left≤1000:=by omega
       obtain⟨k0,k1_,k2_,k3_⟩:=hbx
       have n3:=hnd.at 3 _ rfl
       have n4:=hnd.at 4 _ rfl
       have n5:=hnd.at 5 _ rfl
       clear hx hF1 htop hleft hnd
       go_wp2_with (first
        | (go_at_call 103;(refine (pwin_to H W C (some ⟨bb,ob,none⟩) n c (kk:Int) top left (k:Int) _).mono ?_);(rintro e w4 ⟨rfl,hcap,hb4,hs4⟩;have HCAP:=Lib.hid hcap;have HB4:=Lib.hid hb4;have HS4:=Lib.hid hs4;have hz4:w.heap.size≤w4.heap.size:=Nat.le_trans HBW.out.size hb4.size;clear hcap hb4 hs4))
        | (go_at_call 55;(refine (meanC_to wr.heap.size bb ob H W C n c kk k d top left (fun q=>zs.getD q 0) HZ.out HT.out HD.out hltk hkk7 t1 t2 l1 l2 x HX1.out w4 (by have:=HS4.out;omega) (by omega) HCAP.out (fun j hj=>((HBW.out.trans (HB4.out.mono HBW.out.size)).cell (p:=⟨bb,ob+j,none⟩) hbb).trans (HCB.out j (by rw [HN.out];exact hj)))).mono ?_);(rintro e w5 ⟨rfl,hb5⟩;have HB5:=Lib.hid ((HB4.out.trans (hb5.mono HB4.out.size)).alloc (Nat.le_trans HB4.out.size hb5.size) (.cells #[.int .i8 x] 22));have HO5:=Lib.hid (Kit.own_below hW2.out HB5.out);have hz5:g6+1≤(w5.alloc (.cells #[.int .i8 x] 22)).heap.size:=Nat.le_trans hsz HB5.out.size;clear hb5))
        | (at_builtin;refine Kit.wpList_append_rd _ rfl (.tmp 55) (.tmp 77) _ rfl (g6+1) 22 i0 (.int .i8 0) 1 1 Tryz.underlying23 hi0 hi1 hi2 hi3 rfl (by decide) _ (o+k) (I8s (rowL F (o+k))) rfl HO5.out _ _ 1 1 [.int .i8 x] rfl rfl (Kit.Rd.new _ _ _ (Nat.lt_succ_self _)) (Kit.ints_one .i8 [x]) (by unfold maxLen;omega) (by omega) hz5 ?_;(intro v6 w6 hown6 hg7 _;obtain⟨A6,c6,rfl, -, -, -⟩:=Kit.own_rd hown6;have hb6:Below (g6+1) _ w6:=(Below.refl _ _).grown hg7 hz5 (Kit.own_block_ge HO5.out);rw [rowL_succ8 F (o+k) x HXX.out] at hown6;have HW6:=Lib.hid hown6;have HA6:=Lib.hid ((hA2.out.below h63 (show g6 < wr.heap.size by omega) HB5.out).below h63 (Nat.lt_succ_self _) hb6);clear hown6 hg7 hb6)))
       go_roundw
       case rel=>exact⟨k+1,by omega,by go_num,HA6,HW6⟩
       case measure=>simp [intOf];omega
      ·obtain rfl:k=d:=by omega
       have hkI:¬ (k:Int) < C:=by have:=HD.out;omega
       have e:(i * b+(j+1)) * k=o+k:=by rw [← HOO.out, ← Nat.add_assoc,Nat.add_mul _ 1,Nat.one_mul]
       have hW3:Hid (wr.ownsRow (g6+1) 22 1 (.slice Av (o+k) cv) ((i * b+(j+1)) * k) (I8s (rowL F ((i * b+(j+1)) * k)))):=by rw [e];exact hW2
       go_wp2_with fail
       go_roundw
       case rel=>exact⟨j+1,by omega,by go_num,hA2,hW3⟩
       case measure=>simp [intOf];omega
    ·obtain rfl:j=b:=by omega
     have e:(i+1) * j * d=(i * j+j) * d:=by rw [Nat.add_mul i 1,Nat.one_mul]
     have hW3:Hid (wr.ownsRow (g6+1) 22 1 (.slice Av1 ((i * j+j) * d) cv1) ((i+1) * j * d) (I8s (rowL F ((i+1) * j * d)))):=by rw [e];exact hW1
     go_wp2_with fail
     go_roundw
     case rel=>exact⟨i+1,by omega,by go_num,hA1,hW3⟩
     case measure=>simp [intOf];omega
  ·obtain rfl:i=a:=by omega
   rw [HNN.out] at hW0
   clear s1 s2 s3
   obtain⟨-, -,⟨⟨z0,z1,z2,z3⟩,z4,z5,z6,z7⟩,⟨s1,s2,s3⟩,hbw,hsz⟩:=hA0.out
   have HBW:=Lib.hid hbw
   clear hbw
   rw [HNN.out]
   go_wp2_with fail
   refine bodyPost_ret (Kit.results_ct rfl _ _ (w.heap.size+2) 0 [.int .i64 (i:Int),.int .i64 (b:Int),.int .i64 C,.slice Av0 N cv0] _ rfl (range_4 (by go_cell) (by go_cell) (by go_cell) (by go_cell)) Tryz.underlying32 rfl (by kernel_rfl)) rfl ?_
   refine⟨_,rfl,Kit.own_base (own_set4 hW0.out ?_) ?_,?_⟩
   any_goals (first | omega | (simp;done) | (simp;omega))
   exact (((HBW.out.setCell (p:=⟨w.heap.size+2,0,none⟩) (by simp) _).setCell (p:=⟨w.heap.size+2,1,none⟩) (by simp) _).setCell (p:=⟨w.heap.size+2,2,none⟩) (by simp) _).setCell (p:=⟨w.heap.size+2,3,none⟩) (by simp) _
end Go.Proofs.YtkpngknbiecdiaaGreatDoor.CPool
end
