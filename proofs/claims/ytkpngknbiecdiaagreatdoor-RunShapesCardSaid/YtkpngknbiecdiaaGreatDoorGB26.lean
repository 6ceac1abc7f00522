/- Texts of this seat, one behind the other: LowerRaise, JoinSeq, TensorFlat, TensorAt2. -/
import Derived.RangeFuncBox
import Derived.RangeFuncLeaves
import Derived.RangeFuncCalls
import Derived.RangeFuncNested
import Derived.Shelf.Abstract
import Derived.WalkKit
import Derived.OwnWalkIn
import Derived.TacticsInMore
import Derived.LoopNIn
import Derived.LoopIn
import Derived.Test.YtkpngknbiecdiaaGreatDoorRows
import Derived.Test.YtkpngknbiecdiaaGreatDoorGB1
import Derived.Test.YtkpngknbiecdiaaGreatDoorGB5
import Derived.Test.YtkpngknbiecdiaaGreatDoorGB17
import Derived.Test.YtkpngknbiecdiaaGreatDoorGB20
import Derived.Test.YtkpngknbiecdiaaGreatDoorGB22
section
namespace Go.Proofs.YtkpngknbiecdiaaGreatDoor.CLower
open Go Go.ChangeShapes Go.WideShapes Go.ChangeAt Go.RowKit Go.Shelf Round
open Plain CSat CShape CTensor CConv
set_option linter.unusedVariables false
theorem own_at {w:World} {base g n cap:Nat} {e:TypeId} {xs:List Value} (h:w.ownsRow base e 1 (.slice (some ⟨g,0,none⟩) n cap) n xs) (hn:0 < n) :
  (∀ j u,xs[j]?=some u→w.cell? ⟨g,j,none⟩=some u)∧(∀ j,w.frozen? ⟨g,j,none⟩=false)∧g < w.heap.size:=by
 obtain⟨g',cap',e1,_,h2,_,_,h3,h4⟩:=own_cells h hn
 cases e1
 exact⟨h3,h4,h2⟩
theorem below_of_grown {w w':World} {g B:Nat} (h:w.grownBy w' (some g)) (hg:B≤g) (hB:B≤w.heap.size):Below B w w' :=
 ⟨h.os,h.tape,h.output,h.size,fun k hk=>h.block k (by omega) (by intro e;cases e;omega)⟩
theorem grown_drew (w:World) (r:Option Nat):w.grownBy w.drew r:=⟨rfl,rfl,rfl,Nat.le_refl _,fun _ _ _=>rfl⟩
theorem grown_self (w:World) (r:Option Nat):w.grownBy w r:=⟨rfl,rfl,rfl,Nat.le_refl _,fun _ _ _=>rfl⟩
theorem grown_trans {a b c:World} {r:Option Nat} (h:a.grownBy b r) (k:b.grownBy c r):a.grownBy c r :=
 ⟨k.os.trans h.os,k.tape.trans h.tape,k.output.trans h.output,Nat.le_trans h.size k.size,fun i hi hr=>(k.block i (Nat.lt_of_lt_of_le hi h.size) hr).trans (h.block i hi hr)⟩
theorem grown_cell {a b:World} {g:Nat} (h:a.grownBy b (some g)) {p:Addr} (hp:p.block < a.heap.size) (hg:p.block≠g):b.cell? p=a.cell? p :=
 World.cell?_of_block (h.block p.block hp (by intro e;cases e;exact hg rfl))
theorem grown_frozen {a b:World} {g:Nat} (h:a.grownBy b (some g)) {p:Addr} (hp:p.block < a.heap.size) (hg:p.block≠g):b.frozen? p=a.frozen? p :=
 World.frozen?_of_block (h.block p.block hp (by intro e;cases e;exact hg rfl))
set_option maxRecDepth 100000 in
set_option maxHeartbeats 4000000 in
theorem raise_to (g q d N cap base Bb cB B:Nat) (BA:Option Addr) (bs:List Int) (T M:Nat→Int) (hbs:bs.length=d) (hd:1≤d) (hdm:d≤1024) (hq:q+d≤N) (hN:N≤1000000) (hB:B≤g) (hbg:Bb≠g)
  (hT:∀ j,j < d→IntKind.i32.wrap (M (q+j)+bs.getD j 0)=T (q+j)) (W:World) (hBs:B≤W.heap.size) (ho:W.ownsRow base 21 1 (.slice (some ⟨g,0,none⟩) N cap) N (I32v (CGemm.rowL (mixF T M q) N)))
  (hcb:W.cell? ⟨Bb,0,none⟩=some (.slice BA d cB)) (hbb:Bb < W.heap.size) (hr:Kit.Rd W B BA (I32v bs)) :
  Calls Tryz.prog 131 #[.slice (some ⟨g,q,none⟩) d d,.pointer (some ⟨Bb,0,none⟩)] W fun e W'=>(∃ v,e=.returned v)∧W'.ownsRow base 21 1 (.slice (some ⟨g,0,none⟩) N cap) N (I32v (CGemm.rowL (mixF T M (q+d)) N))∧W.grownBy W' (some g):=by
 have HT:=Lib.hid hT
 have HO:=Lib.hid ho
 have HR:=Lib.hid hr
 have HBS:=Lib.hid hbs
 clear hT ho hr hbs
 go_enter Tryz.func131,Tryz.ntmps131
 go_wp2_with fail
 go_loopw [7] (fun i wr=>∃ j:Nat,j≤d∧i=.int .i64 j∧Hid (wr.ownsRow base 21 1 (.slice (some ⟨g,0,none⟩) N cap) N (I32v (CGemm.rowL (mixF T M (q+j)) N)))∧Hid (W.grownBy wr (some g))) (fun i _=>d - (intOf i).toNat)
 case atStart=>exact⟨0,Nat.zero_le _,rfl,HO,Lib.hid (grown_self _ _)⟩
 case round =>
  obtain⟨j,hj,rfl,hO,hG⟩:=hrel
  by_cases hlt:j < d
  ·obtain⟨bb,ob,rfl, -,hcx⟩:=ints_getD (HR.out.below (below_of_grown hG.out hB hBs)) (j:=j) (by have:=HBS.out;omega)
   have kb:=hcx j (by have:=HBS.out;omega)
   obtain⟨h1,h2,h3⟩:=own_at hO.out (by omega)
   have hjN:q+j < N:=by omega
   have ks:=h1 (q+j) (.int .i32 (M (q+j))) (by unfold I32v;rw [List.getElem?_map,mix_at T M hjN];rfl)
   have fs:=h2 (q+j)
   have ht:=HT.out j hlt
   obtain⟨b1,hb1⟩:∃ b1,bs.getD j 0=b1:=⟨_,rfl⟩
   obtain⟨m1,hm1⟩:∃ m1,M (q+j)=m1:=⟨_,rfl⟩
   obtain⟨t1,ht1⟩:∃ t1,T (q+j)=t1:=⟨_,rfl⟩
   have HT1:=Lib.hid ht1
   rw [hb1] at kb
   rw [hm1] at ks
   rw [hb1,hm1,ht1] at ht
   have hst:=hO.out.stored (q+j) (.int .i32 t1)
   have hset:(I32v (CGemm.rowL (mixF T M (q+j)) N)).set (q+j) (.int .i32 t1)=I32v (CGemm.rowL (mixF T M (q+(j+1))) N):=by
    unfold I32v
    rw [← List.map_set, ← ht1,mix_set T M hjN];rfl
   rw [hset] at hst
   have HO2:=Lib.hid hst.1
   have HG2:=Lib.hid (grown_trans hG.out hst.2)
   have hj0:(0:Int)≤(j:Int):=by omega
   have hjd:(j:Int) < (d:Int):=by omega
   clear hst hset h1 h2 h3 hcx hb1 hm1 ht1
   go_wp2_with fail
   go_roundw
   case rel=>exact⟨j+1,by omega,by go_num,HO2,HG2⟩
   case measure=>simp [intOf];omega
  ·obtain rfl:j=d:=by omega
   go_wp2_with fail
   go_end0
   exact⟨⟨_,rfl⟩,hO.out,hG.out⟩
set_option maxHeartbeats 1000000 in
theorem raising_to (BA:Option Addr) (nB cB:Nat) (w:World) :
  Calls Tryz.prog 86 #[.slice BA nB cB] w fun e w'=>e=.returned (.func (.func 131) #[] #[.pointer (some ⟨w.heap.size,0,none⟩)])∧w'=w.alloc (.cells #[.slice BA nB cB] 24):=by
 go_enter Tryz.func86,Tryz.ntmps86
 go_wp2_with fail
 go_ret
 exact⟨rfl,rfl⟩
set_option maxHeartbeats 1000000 in
theorem chunks_to (A:Option Addr) (L c:Nat) (d:Nat) (hd:1≤d) (w:World) :
  Calls Tryz.prog 87 #[.slice A L c,.int .i64 d] w fun e w'=>e=.returned (.func (.func 132) #[] #[.pointer (some ⟨w.heap.size,0,none⟩),.pointer (some ⟨w.heap.size+1,0,none⟩)])∧w'=(w.alloc (.cells #[.slice A L c] 24)).alloc (.cells #[.int .i64 d] 3):=by
 have h1:¬ (d:Int) < 1:=by omega
 go_enter Tryz.func87,Tryz.ntmps87
 go_wp2_with fail
 go_ret
 exact⟨rfl,rfl⟩
end Go.Proofs.YtkpngknbiecdiaaGreatDoor.CLower
end
section
namespace Go.Proofs.YtkpngknbiecdiaaGreatDoor.CJoin
open Go Go.ChangeShapes Go.WideShapes Go.ChangeAt Go.RowKit Go.Shelf
set_option linter.unusedVariables false
attribute [local go_sem] Oper.semAt_some
theorem pairs_to (A B:Option Addr) (n c m d:Nat) (w:World) :
  Calls Tryz.prog 58 #[.slice A n c,.slice B m d] w fun e w'=>e=.returned (.func (.func 104) #[] #[.pointer (some ⟨w.heap.size,0,none⟩),.pointer (some ⟨w.heap.size+1,0,none⟩)])∧w'=(w.alloc (.cells #[.slice A n c] 23)).alloc (.cells #[.slice B m d] 23):=by
 go_enter Tryz.func58,Tryz.ntmps58
 go_wp2_with fail
 go_ret
 exact⟨rfl,rfl⟩
def KeepJ (n₀ P2:Nat) (A B:World):Prop:=Below n₀ A B∧B.cell? ⟨P2,0,none⟩=A.cell? ⟨P2,0,none⟩
theorem KeepJ.trans {n₀ P2:Nat} {A B C:World} (h:KeepJ n₀ P2 A B) (k:KeepJ n₀ P2 B C):KeepJ n₀ P2 A C:=⟨h.1.trans k.1,k.2.trans h.2⟩
set_option maxRecDepth 100000 in
set_option maxHeartbeats 4000000 in
theorem pairs_in (F:Fence) (n:Nat) (h8:F.fn 104) (hro:F.round=none) (hn:1≤n) (l P1 P2 n₀ b off b2 off2 len cap cap2:Nat) (zs ys:List Int) (hreach:len≤1000000) (hb:b < n₀) (hb2:b2 < n₀) (J Jx:List Nat→World→Prop)
  (hY:∀ pre x W,J pre W→pre.length < len→YieldAt F (n - 1) Tryz.prog l #[.int .i8 (zs.getD x 0),.int .i8 (ys.getD x 0)] W fun e W' =>
    (e=.returned (.bool true)∧J (pre ++ [x]) W'∧KeepJ n₀ P2 W W')∨(e=.returned (.bool false)∧Jx (pre ++ [x]) W'))
  (W:World) (hP1:W.cell? ⟨P1,0,none⟩=some (.slice (some ⟨b,off,none⟩) len cap)) (hP2:W.cell? ⟨P2,0,none⟩=some (.slice (some ⟨b2,off2,none⟩) len cap2))
  (hc:∀ j,j < len→W.cell? ⟨b,off+j,none⟩=some (.int .i8 (zs.getD j 0))) (hc2:∀ j,j < len→W.cell? ⟨b2,off2+j,none⟩=some (.int .i8 (ys.getD j 0))) (h0:J [] W) :
  CallsIn F n Tryz.prog 104 #[.func (.yield l) #[] #[],.pointer (some ⟨P1,0,none⟩),.pointer (some ⟨P2,0,none⟩)] W fun e W'=>(∃ v,e=.returned v) ∧
   ((∃ ls,ls=List.range len∧J ls W')∨(∃ pre,Jx pre W')):=by
 refine callsIn_of_wp Tryz.func104 rfl h8 ?_ hro
 simp only [Tryz.ntmps104,List.size_toArray,List.length_cons,List.length_nil,Nat.reduceAdd,Nat.reduceSub,Array.replicate_succ,Array.replicate_zero,List.push_toArray,List.append_toArray,List.nil_append,List.cons_append]
 have HY:=Lib.hid hY
 have HC:=Lib.hid hc
 have HC2:=Lib.hid hc2
 have HP2:=Lib.hid hP2
 clear hY hc hc2 hP2
 gi_wp2
 gi_loopw [8] (fun i wr=>∃ k:Nat,k≤len∧i=.int .i64 k∧Hid (J (List.range k) wr)∧Hid (KeepJ n₀ P2 W wr))
  (fun i _=>len - (intOf i).toNat)
 case atStart=>exact⟨0,Nat.zero_le _,rfl,Lib.hid h0,Lib.hid ⟨Below.refl _ _,rfl⟩⟩
 case round =>
  obtain⟨k,hk,rfl,hJs,hnx⟩:=hrel
  clear hP1
  by_cases hlt:k < len
  ·have hcx:=(hnx.out.1.cell (p:=⟨b,off+k,none⟩) hb).trans (HC.out k hlt)
   have hcy:=(hnx.out.1.cell (p:=⟨b2,off2+k,none⟩) hb2).trans (HC2.out k hlt)
   have hp2:=hnx.out.2.trans HP2.out
   obtain⟨fn,tmps,assign,body,hy,hR⟩:=HY.out _ k wr hJs.out (by rw [List.length_range];exact hlt)
   generalize zs.getD k 0=x at hcx hR hy
   generalize ys.getD k 0=y at hcy hR hy
   have hkI:(k:Int) < (len:Int):=by omega
   have hk0:(0:Int)≤(k:Int):=by omega
   gi_wp2
   refine hR.mono ?_
   rintro e W3 (⟨rfl,hJ3,hk3⟩ | ⟨rfl,hJx3⟩)
   ·-- the round goes on
    have HJ3:Hid (J (List.range (k+1)) W3):=Lib.hid (by rw [List.range_succ];exact hJ3)
    have HK3:=Lib.hid (hnx.out.trans hk3)
    clear hJ3 hk3 hcx hcy hp2 hy hR
    gi_wp2
    go_roundw
    case rel=>exact⟨k+1,by omega,by simp,HJ3,HK3⟩
    case measure=>simp [intOf];omega
   ·gi_wp2
    refine bodyPost_ret (results_none rfl _ _ _) rfl ?_
    exact⟨⟨_,rfl⟩,.inr ⟨_,hJx3⟩⟩
  ·obtain rfl:k=len:=by omega
   gi_wp2
   go_end0
   exact⟨⟨_,rfl⟩,.inl ⟨_,rfl,hJs.out⟩⟩
theorem seq_pairs (F:Fence) (n:Nat) (h8:F.fn 104) (hro:F.round=none) (hn:1≤n) (P1 P2 n₀:Nat) (A B:Option Addr) (c d N:Nat) (zs ys:List Int) (hz:zs.length=N) (hy:ys.length=N) (hN:1≤N) (hreach:N≤1000000) (w:World) (l1:P1 < w.heap.size) (l2:P2 < w.heap.size) (hn₀:n₀≤w.heap.size)
  (hP1:w.cell? ⟨P1,0,none⟩=some (.slice A N c)) (hP2:w.cell? ⟨P2,0,none⟩=some (.slice B N d)) (hA:Kit.Rd w n₀ A (zs.map (.int .i8))) (hB:Kit.Rd w n₀ B (ys.map (.int .i8))) :
  SeqStopsK F n Tryz.prog 104 #[.pointer (some ⟨P1,0,none⟩),.pointer (some ⟨P2,0,none⟩)] (fun x:Nat=>#[Value.int .i8 (zs.getD x 0),Value.int .i8 (ys.getD x 0)]) (KeepJ n₀ P2) (fun ls=>ls=List.range N)
   (fun _=>True) N w:=by
 intro l J Jx W hW _ _ hY h0
 have c1:=(hW.cell (p:=⟨P1,0,none⟩) l1).trans hP1
 have c2:=(hW.cell (p:=⟨P2,0,none⟩) l2).trans hP2
 have hA':=hA.below (hW.mono hn₀)
 have hB':=hB.below (hW.mono hn₀)
 obtain⟨b,off,rfl,hb,hx⟩:=hA'.plain (by rw [List.length_map];omega)
 obtain⟨b2,off2,rfl,hb2,hx2⟩:=hB'.plain (by rw [List.length_map];omega)
 have hcx:∀ j,j < N→W.cell? ⟨b,off+j,none⟩=some (.int .i8 (zs.getD j 0)):=fun j hj=>hx j _ (by rw [List.getElem?_map,List.getD_eq_getElem?_getD,List.getElem?_eq_getElem (by omega)];rfl)
 have hcy:∀ j,j < N→W.cell? ⟨b2,off2+j,none⟩=some (.int .i8 (ys.getD j 0)):=fun j hj=>hx2 j _ (by rw [List.getElem?_map,List.getD_eq_getElem?_getD,List.getElem?_eq_getElem (by omega)];rfl)
 refine (pairs_in F n h8 hro hn l P1 P2 n₀ b off b2 off2 N c d zs ys hreach hb hb2 J Jx hY W c1 c2 hcx hcy h0).mono ?_
 rintro e W' ⟨he,(⟨ls,rfl,hj⟩ | ⟨pre,hj⟩)⟩
 ·exact⟨he,.inl ⟨_,rfl,hj⟩⟩
 ·exact⟨he,.inr ⟨_,trivial,hj⟩⟩
end Go.Proofs.YtkpngknbiecdiaaGreatDoor.CJoin
end
section
namespace Go.Proofs.YtkpngknbiecdiaaGreatDoor.CTensor
open Go Go.ChangeShapes Go.WideShapes Go.ChangeAt Go.RowKit
open Plain CSat CShape
set_option linter.unusedVariables false
theorem flat_tens {H W C m:Int} {n:Nat} {b:Bool} (hm:elemsZ H W C=m) (hb:tensB H W C n=b):tensB 1 1 m n=b:=by
 cases hr:shapeB H W C
 ·rw [elemsZ_no hr] at hm
  subst hm hb
  have h0:shapeB 1 1 0=false:=by decide
  simp [tensB,hr,h0]
 ·rw [elemsZ_yes hr] at hm
  have hs:=hr
  simp only [shapeB,decide_eq_true_eq] at hs
  obtain⟨h1,h2,h3,h4,h5,h6,h7⟩:=hs
  have:=prod_bd h1 h2 h3 h4 h5 h6
  have hs1:shapeB 1 1 m=true:=by simp [shapeB];omega
  rw [← hb]
  simp only [tensB,hr,hs1,Bool.true_and]
  rw [hm];simp
theorem flat_yes (H W C:Int) (A:Option Addr) (zs:List Int) (n c:Nat) (hn:zs.length=n) (hl:n≤1000000) (ht:tensB H W C n=true) {B:Nat} (w:World) (hB:B≤w.heap.size) (hr:Kit.Rd w B A (zs.map (.int .i8))) :
  Calls Tryz.prog 23 #[.agg #[.int .i64 H,.int .i64 W,.int .i64 C,.slice A n c]] w (Made w 1 1 n n zs (.int .i64 0)):=by
 have hm:elemsZ H W C=(n:Int):=by
  simp only [tensB,Bool.and_eq_true,decide_eq_true_eq] at ht
  rw [elemsZ_yes ht.1];exact ht.2.symm
 have HN:=Lib.hid hn
 have HR:=Lib.hid hr
 have HT:=Lib.hid (flat_tens hm ht)
 have HM:=Lib.hid hm
 clear hn hr ht hm
 go_enter Tryz.func23,Tryz.ntmps23
 go_wp2_with fail
 have hbox:BoxAt w.heap.size H W C A n c ((w.alloc (.cells #[.int .i64 H,.int .i64 W,.int .i64 C,.slice A n c] 32)).alloc (.cells #[.int .i64 0,.int .i64 0,.int .i64 0,.slice none 0 0] 32)).drew :=
  (BoxAt.new H W C A n c 32 w).below (Nat.lt_succ_self _) (((Below.refl _ _).alloc (by simp) _))
 have HFR:Hid (FreshT (w.heap.size+1) ((w.alloc (.cells #[.int .i64 H,.int .i64 W,.int .i64 C,.slice A n c] 32)).alloc (.cells #[.int .i64 0,.int .i64 0,.int .i64 0,.slice none 0 0] 32)).drew):=Lib.hid (FreshT.new _ _ _ (by simp))
 have HB:Hid (Below w.heap.size w ((w.alloc (.cells #[.int .i64 H,.int .i64 W,.int .i64 C,.slice A n c] 32)).alloc (.cells #[.int .i64 0,.int .i64 0,.int .i64 0,.slice none 0 0] 32)).drew):=Lib.hid (((Below.refl _ _).alloc (Nat.le_refl _) _).alloc (by simp) _).drew
 have hz:w.heap.size+2≤((w.alloc (.cells #[.int .i64 H,.int .i64 W,.int .i64 C,.slice A n c] 32)).alloc (.cells #[.int .i64 0,.int .i64 0,.int .i64 0,.slice none 0 0] 32)).drew.heap.size:=by simp
 refine wp_region_held_drew (S:=BoxAt w.heap.size H W C A n c) (by kernel_rfl) hbox (fun hHeld=>?_)
 clear hbox
 generalize ((w.alloc (.cells #[.int .i64 H,.int .i64 W,.int .i64 C,.slice A n c] 32)).alloc (.cells #[.int .i64 0,.int .i64 0,.int .i64 0,.slice none 0 0] 32)).drew=W1 at HFR HB hz hHeld ⊢
 refine Tk.y 0 (v:=?_) rfl ?_ ?_
 rotate_left
 ·intro wS hSw
  obtain⟨s1,s2,s3,s4⟩:=hSw
  first | (go_simp;done) | (go_simp;with_reducible rfl)
 try simp only [Tk.put]
 refine Tk.y 1 (v:=?_) rfl ?_ ?_
 rotate_left
 ·intro wS hSw
  obtain⟨s1,s2,s3,s4⟩:=hSw
  first | (go_simp;done) | (go_simp;with_reducible rfl)
 try simp only [Tk.put]
 refine Tk.y 4 (v:=?_) rfl ?_ ?_
 rotate_left
 ·intro wS hSw
  obtain⟨s1,s2,s3,s4⟩:=hSw
  first | (go_simp;done) | (go_simp;with_reducible rfl)
 try simp only [Tk.put]
 refine Tk.y 5 (v:=?_) rfl ?_ ?_
 rotate_left
 ·intro wS hSw
  obtain⟨s1,s2,s3,s4⟩:=hSw
  first | (go_simp;done) | (go_simp;with_reducible rfl)
 try simp only [Tk.put]
 refine Tk.s 2 rfl (fun K hK=>?_)
 go_simp
 go_at_call 52
 refine (elems_to H W C (n:Int) HM.out _).mono ?_
 rintro e w1 ⟨rfl,hb⟩
 have hS1:=hHeld.below (B':=_) (by omega) hb
 replace HFR:=Lib.hid (HFR.out.below (B':=_) (by omega) hb)
 replace HB:=Lib.hid (HB.out.trans (hb.mono (by omega)))
 replace hz:=Nat.le_trans hz hb.size
 clear hHeld
 clear hb
 dsimp only
 refine hK.out _ _ ?_ (fun hHeld=>?_)
 ·exact hS1
 clear hK K
 try simp only [Tk.put]
 refine Tk.x 3 rfl ?_
 try simp only [Tk.put]
 refine Tk.s 6 rfl (fun K hK=>?_)
 go_simp
 go_at_call 67
 refine (of_yes 1 1 n A zs n c HN.out hl HT.out (B:=B) _ (by omega) (HR.out.below (HB.out.mono hB))).mono ?_
 rintro e w2 ⟨v2,rfl,ho2,hb⟩
 obtain⟨A2,c2,rfl,_,_,_⟩:=Kit.own_rd ho2
 have HO:=Lib.hid (Kit.own_base ho2 (show w.heap.size+2≤w1.heap.size by omega))
 have hS1:=hHeld.below (B':=_) (by omega) hb
 replace HFR:=Lib.hid (HFR.out.below (B':=_) (by omega) hb)
 replace HB:=Lib.hid (HB.out.trans (hb.mono (by omega)))
 replace hz:=Nat.le_trans hz hb.size
 clear hHeld
 clear hb ho2
 obtain⟨⟨z0,z1,z2,z3⟩,z4,z5,z6,z7⟩:=HFR.out
 dsimp only
 refine hK.out _ _ ?_ (fun hHeld=>?_)
 ·exact hS1
 clear hK K
 try simp only [Tk.put]
 refine Tk.x 7 rfl ?_
 try simp only [Tk.put]
 refine Tk.x 8 rfl ?_
 try simp only [Tk.put]
 refine Tk.s 9 rfl (fun K hK=>?_)
 go_simp
 refine hK.out _ _ ?_ (fun hHeld=>?_)
 ·exact hHeld.stores (by omega) _ _ _ _
 clear hK K
 try simp only [Tk.put]
 refine Tk.x 10 rfl ?_
 try simp only [Tk.put]
 refine wpAnyH_done (by kernel_rfl) ?_ _
 go_wp2_with fail
 refine bodyPost_ret (Kit.results_ct rfl _ _ (w.heap.size+1) 0 [.int .i64 1,.int .i64 1,.int .i64 n,.slice A2 n c2] _ rfl (range_4 (by go_cell) (by go_cell) (by go_cell) (by go_cell)) Tryz.underlying32 rfl (by kernel_rfl)) rfl ?_
 refine⟨_,rfl,Kit.own_base (own_set (own_set (own_set (own_set HO.out _ _ ?_) _ _ ?_) _ _ ?_) _ _ ?_) ?_,?_⟩
 any_goals (first | omega | (simp;done) | (simp;omega))
 exact ((((HB.out.setCell (p:=⟨w.heap.size+1,0,none⟩) (by simp) _).setCell (p:=⟨w.heap.size+1,1,none⟩) (by simp) _).setCell (p:=⟨w.heap.size+1,2,none⟩) (by simp) _).setCell (p:=⟨w.heap.size+1,3,none⟩) (by simp) _)
end Go.Proofs.YtkpngknbiecdiaaGreatDoor.CTensor
end
section
namespace Go.Proofs.YtkpngknbiecdiaaGreatDoor.CTensor
open Go Go.ChangeShapes Go.WideShapes Go.ChangeAt Go.RowKit
open Plain CSat CShape
set_option linter.unusedVariables false
def placeB (H W C:Int) (n:Nat) (h v c:Int):Bool:=tensB H W C n && inB H W C h v c
theorem pos_yes (H W C:Int) (A:Option Addr) (n k:Nat) (h v c:Int) (p:Nat) (hb:placeB H W C n h v c=true) (hp:(h * W+v) * C+c=p) (w:World) :
  Calls Tryz.prog 142 #[.agg #[.int .i64 H,.int .i64 W,.int .i64 C,.slice A n k],.int .i64 h,.int .i64 v,.int .i64 c] w fun e w'=>e=.returned (.tuple #[.int .i64 p,.bool true])∧Below w.heap.size w w':=by
 simp only [placeB,Bool.and_eq_true] at hb
 obtain⟨ht,hi⟩:=hb
 simp only [inB,Bool.and_eq_true,decide_eq_true_eq] at hi
 obtain⟨hs,h1,h2,h3,h4,h5,h6⟩:=hi
 have HT:=Lib.hid ht
 have HS:=Lib.hid hs
 have HP:=Lib.hid hp
 clear ht hs hp
 go_enter Tryz.func142,Tryz.ntmps142
 go_wp2_with (first
  | (go_at_call 17;((with_reducible refine (right_to H W C A n k true HT.out _).mono ?_);(rintro e w1 ⟨rfl,hb⟩;obtain⟨hc,hf⟩:=Kit.bcell hb;have hz:w.heap.size < w1.heap.size:=(by have:=hb.size;simp at this;omega);have hw1:Below w.heap.size w w1:=Below.trans (by go_grown) (hb.mono (by simp)))))
  | (go_at_call 133;((with_reducible refine (index_yes H W C h v c _ HS.out h1 h2 h3 h4 h5 h6 HP.out _).mono ?_);(rintro e w2 ⟨rfl,hb2⟩;have HB:=Lib.hid (hw1.trans (hb2.mono (Nat.le_of_lt hz)));clear hb2))))
 go_ret2
 exact⟨rfl,HB.out⟩
theorem pos_no (H W C:Int) (A:Option Addr) (n k:Nat) (h v c:Int) (hb:placeB H W C n h v c=false) (w:World) :
  Calls Tryz.prog 142 #[.agg #[.int .i64 H,.int .i64 W,.int .i64 C,.slice A n k],.int .i64 h,.int .i64 v,.int .i64 c] w fun e w'=>e=.returned (.tuple #[.int .i64 0,.bool false])∧Below w.heap.size w w':=by
 cases ht:tensB H W C n
 ·have HT:=Lib.hid ht
  clear ht hb
  go_enter Tryz.func142,Tryz.ntmps142
  go_wp2_with (go_at_call 17;((with_reducible refine (right_to H W C A n k false HT.out _).mono ?_);(rintro e w1 ⟨rfl,hb⟩;have HB:=Lib.hid (show Below w.heap.size w w1 from Below.trans (by go_grown) (hb.mono (by simp)));clear hb)))
  go_ret2
  exact⟨rfl,HB.out⟩
 ·have hi:inB H W C h v c=false:=by simpa [placeB,ht] using hb
  have HT:=Lib.hid ht
  have HI:=Lib.hid hi
  clear ht hb hi
  go_enter Tryz.func142,Tryz.ntmps142
  go_wp2_with (first
   | (go_at_call 17;((with_reducible refine (right_to H W C A n k true HT.out _).mono ?_);(rintro e w1 ⟨rfl,hb⟩;obtain⟨hc,hf⟩:=Kit.bcell hb;have hz:w.heap.size < w1.heap.size:=(by have:=hb.size;simp at this;omega);have hw1:Below w.heap.size w w1:=Below.trans (by go_grown) (hb.mono (by simp)))))
   | (go_at_call 133;((with_reducible refine (index_no H W C h v c HI.out _).mono ?_);(rintro e w2 ⟨rfl,hb2⟩;have HB:=Lib.hid (hw1.trans (hb2.mono (Nat.le_of_lt hz)));clear hb2))))
  go_ret2
  exact⟨rfl,HB.out⟩
theorem at_no (H W C:Int) (A:Option Addr) (n k:Nat) (h v c:Int) (hb:placeB H W C n h v c=false) (w:World) :
  Calls Tryz.prog 110 #[.agg #[.int .i64 H,.int .i64 W,.int .i64 C,.slice A n k],.int .i64 h,.int .i64 v,.int .i64 c] w fun e w'=>e=.returned (.tuple #[.int .i8 0,.bool false])∧Below w.heap.size w w':=by
 have HB0:=Lib.hid hb
 clear hb
 go_enter Tryz.func110,Tryz.ntmps110
 go_wp2_with (go_at_call 142;((with_reducible refine (pos_no H W C A n k h v c HB0.out _).mono ?_);(rintro e w1 ⟨rfl,hb⟩;have HB:=Lib.hid (show Below w.heap.size w w1 from Below.trans (by go_grown) (hb.mono (by simp)));clear hb)))
 go_ret2
 exact⟨rfl,HB.out⟩
theorem at_yes (H W C:Int) (A:Option Addr) (zs:List Int) (n k:Nat) (hn:zs.length=n) (hk:n≤k) (hk9:n≤1000000) (h v c:Int) (p:Nat) (hb:placeB H W C n h v c=true) (hp:(h * W+v) * C+c=p) (x:Int) (hx:zs[p]?=some x) {B:Nat} (w:World) (hB:B≤w.heap.size) (hr:Kit.Rd w B A (zs.map (.int .i8))) :
  Calls Tryz.prog 110 #[.agg #[.int .i64 H,.int .i64 W,.int .i64 C,.slice A n k],.int .i64 h,.int .i64 v,.int .i64 c] w fun e w'=>e=.returned (.tuple #[.int .i8 x,.bool true])∧Below w.heap.size w w':=by
 have hpl:p < zs.length:=by
  rcases Nat.lt_or_ge p zs.length with h | h
  ·exact h
  ·rw [List.getElem?_eq_none h] at hx;cases hx
 obtain⟨b,off,rfl,hbB,hcell⟩:=hr.ints hpl
 rw [List.getElem?_eq_getElem hpl] at hx
 cases hx
 generalize zs[p]=x at hcell ⊢
 have hbw:b < w.heap.size:=by omega
 have hpn:p < n:=by omega
 have HB0:=Lib.hid hb
 have HP:=Lib.hid hp
 clear hb hp hr hn
 go_enter Tryz.func110,Tryz.ntmps110
 go_wp2_with (go_at_call 142;((with_reducible refine (pos_yes H W C _ n k h v c p HB0.out HP.out _).mono ?_);(rintro e w1 ⟨rfl,hb⟩;obtain⟨hc,hf⟩:=Kit.bcell hb;have hz:w.heap.size < w1.heap.size:=(by have:=hb.size;simp at this;omega);have hcl:w1.cell? ⟨b,off+p,none⟩=some (.int .i8 x):=((hb.cell (p:=⟨b,off+p,none⟩) (by simp;omega)).trans ((World.cell?_alloc_lt _ _ _ hbw).trans hcell));have HB:=Lib.hid (show Below w.heap.size w w1 from Below.trans (by go_grown) (hb.mono (by simp)));clear hb)))
 go_ret2
 exact⟨rfl,HB.out⟩
end Go.Proofs.YtkpngknbiecdiaaGreatDoor.CTensor
end
