/- Texts of this seat, one behind the other: PoolSeq, JoinBad. -/
import Derived.RangeFuncBox
import Derived.RangeFuncLeaves
import Derived.RangeFuncCalls
import Derived.RangeFuncNested
import Derived.Shelf.Abstract
import Derived.WalkKit
import Derived.OwnWalkIn
import Derived.TacticsInMore
import Derived.LoopNIn
import Derived.LoopIn
import Derived.Test.YtkpngknbiecdiaaGreatDoorRows
import Derived.Deep.RegionHeld3
import Derived.Deep.CutRange
import Derived.Test.YtkpngknbiecdiaaGreatDoorGB1
import Derived.Test.YtkpngknbiecdiaaGreatDoorGB11
import Derived.Test.YtkpngknbiecdiaaGreatDoorGB13
import Derived.Test.YtkpngknbiecdiaaGreatDoorGB17
import Derived.Test.YtkpngknbiecdiaaGreatDoorGB26
import Derived.Test.YtkpngknbiecdiaaGreatDoorGB28
import Derived.Test.YtkpngknbiecdiaaGreatDoorGB34
section
namespace Go.Proofs.YtkpngknbiecdiaaGreatDoor.CPool
open Go Go.ChangeShapes Go.WideShapes Go.ChangeAt Go.RowKit Go.Shelf
open Plain CSat CShape CTensor CConv
set_option linter.unusedVariables false
attribute [local go_sem] Oper.semAt_some
def hereI (H W C top left:Int) (o i j:Nat):List Nat :=
 if 0≤top+(i:Int)∧top+(i:Int) < H∧0≤left+(j:Int)∧left+(j:Int) < W then [(((top+(i:Int)) * W+(left+(j:Int))) * C+(o:Int)).toNat] else []
def colI (H W C top left:Int) (o i:Nat):Nat→List Nat
 | 0=>[]
 | j+1=>colI H W C top left o i j ++ hereI H W C top left o i j
def rowsI (H W C top left:Int) (kk o:Nat):Nat→List Nat
 | 0=>[]
 | i+1=>rowsI H W C top left kk o i ++ colI H W C top left o i kk
theorem hereI_L (zs:List Int) (H W C top left:Int) (o i j:Nat):hereL zs H W C top left o i j=(hereI H W C top left o i j).map (fun k=>zs.getD k 0):=by
 unfold hereL hereI;split <;> rfl
theorem colI_L (zs:List Int) (H W C top left:Int) (o i:Nat):∀ j,colL zs H W C top left o i j=(colI H W C top left o i j).map (fun k=>zs.getD k 0)
 | 0=>rfl
 | j+1=>by
   show colL zs H W C top left o i j ++ hereL zs H W C top left o i j=(colI H W C top left o i j ++ hereI H W C top left o i j).map _
   rw [List.map_append,colI_L zs H W C top left o i j,hereI_L]
theorem rowsI_L (zs:List Int) (H W C top left:Int) (kk o:Nat):∀ i,rowsL zs H W C top left kk o i=(rowsI H W C top left kk o i).map (fun k=>zs.getD k 0)
 | 0=>rfl
 | i+1=>by
   show rowsL zs H W C top left kk o i ++ colL zs H W C top left o i kk=(rowsI H W C top left kk o i ++ colI H W C top left o i kk).map _
   rw [List.map_append,rowsI_L zs H W C top left kk o i,colI_L]
theorem hereI_len (H W C top left:Int) (o i j:Nat):(hereI H W C top left o i j).length≤1:=by unfold hereI;split <;> simp
theorem colI_len (H W C top left:Int) (o i:Nat):∀ j,(colI H W C top left o i j).length≤j
 | 0=>Nat.le_refl _
 | j+1=>by
   show (colI H W C top left o i j ++ hereI H W C top left o i j).length≤j+1
   rw [List.length_append]
   have:=colI_len H W C top left o i j
   have:=hereI_len H W C top left o i j
   omega
theorem rowsI_len (H W C top left:Int) (kk o:Nat):∀ i,(rowsI H W C top left kk o i).length≤i * kk
 | 0=>by simp [rowsI]
 | i+1=>by
   show (rowsI H W C top left kk o i ++ colI H W C top left o i kk).length≤(i+1) * kk
   rw [List.length_append,Nat.add_mul,Nat.one_mul]
   have:=rowsI_len H W C top left kk o i
   have:=colI_len H W C top left o i kk
   omega
def CapAt (g:Nat) (H W C:Int) (A:Option Addr) (N c:Nat) (side top left ch:Int) (wd:World):Prop :=
 BoxAt g H W C A N c wd∧wd.cell? ⟨g+1,0,none⟩=some (.int .i64 side)∧wd.cell? ⟨g+2,0,none⟩=some (.int .i64 top)∧wd.cell? ⟨g+3,0,none⟩=some (.int .i64 left)∧wd.cell? ⟨g+4,0,none⟩=some (.int .i64 ch)
theorem CapAt.below {g n₀:Nat} {H W C:Int} {A:Option Addr} {N c:Nat} {side top left ch:Int} {w w':World} (h:CapAt g H W C A N c side top left ch w) (hg:g+4 < n₀) (hb:Below n₀ w w'):CapAt g H W C A N c side top left ch w' :=
 ⟨h.1.below (by omega) hb,(hb.cell (p:=⟨g+1,0,none⟩) (show g+1 < n₀ by omega)).trans h.2.1,(hb.cell (p:=⟨g+2,0,none⟩) (show g+2 < n₀ by omega)).trans h.2.2.1,(hb.cell (p:=⟨g+3,0,none⟩) (show g+3 < n₀ by omega)).trans h.2.2.2.1,(hb.cell (p:=⟨g+4,0,none⟩) hg).trans h.2.2.2.2⟩
theorem pwin_to (H W C:Int) (A:Option Addr) (N c:Nat) (side top left ch:Int) (w:World) :
  Calls Tryz.prog 103 #[.agg #[.int .i64 H,.int .i64 W,.int .i64 C,.slice A N c],.int .i64 side,.int .i64 top,.int .i64 left,.int .i64 ch] w fun e w'=>e=.returned (.func (.func 138) #[] #[.pointer (some ⟨w.heap.size+1,0,none⟩),.pointer (some ⟨w.heap.size,0,none⟩),.pointer (some ⟨w.heap.size+2,0,none⟩),.pointer (some ⟨w.heap.size+3,0,none⟩),.pointer (some ⟨w.heap.size+4,0,none⟩)])∧CapAt w.heap.size H W C A N c side top left ch w'∧Below w.heap.size w w'∧w'.heap.size=w.heap.size+5:=by
 go_enter Tryz.func103,Tryz.ntmps103
 go_wp2_with fail
 go_ret
 have hb:Below w.heap.size w (((((w.alloc (.cells #[.int .i64 H,.int .i64 W,.int .i64 C,.slice A N c] 32)).alloc (.cells #[.int .i64 side] 3)).alloc (.cells #[.int .i64 top] 3)).alloc (.cells #[.int .i64 left] 3)).alloc (.cells #[.int .i64 ch] 3)):=by
  refine Below.alloc (Below.alloc (Below.alloc (Below.alloc (Below.alloc (Below.refl _ _) (Nat.le_refl _) _) ?_ _) ?_ _) ?_ _) ?_ _
  all_goals (simp;try omega)
 refine⟨rfl,⟨?_,?_,?_,?_,?_⟩,hb,by simp⟩
 ·refine (boxNew H W C A N c 32 w).below (B':=w.heap.size+1) (by omega) ?_
  refine Below.alloc (Below.alloc (Below.alloc (Below.alloc (Below.refl _ _) ?_ _) ?_ _) ?_ _) ?_ _
  all_goals (simp;try omega)
 ·have h:=Kit.new_cell (w.alloc (.cells #[.int .i64 H,.int .i64 W,.int .i64 C,.slice A N c] 32)) #[.int .i64 side] 3 0
  simp only [World.size_alloc] at h
  rw [World.cell?_alloc_lt _ _ _ (by first | (simp;done) | (simp;omega)),World.cell?_alloc_lt _ _ _ (by first | (simp;done) | (simp;omega)),World.cell?_alloc_lt _ _ _ (by simp)]
  exact h
 ·have h:=Kit.new_cell ((w.alloc (.cells #[.int .i64 H,.int .i64 W,.int .i64 C,.slice A N c] 32)).alloc (.cells #[.int .i64 side] 3)) #[.int .i64 top] 3 0
  simp only [World.size_alloc] at h
  rw [World.cell?_alloc_lt _ _ _ (by first | (simp;done) | (simp;omega)),World.cell?_alloc_lt _ _ _ (by simp)]
  exact h
 ·have h:=Kit.new_cell (((w.alloc (.cells #[.int .i64 H,.int .i64 W,.int .i64 C,.slice A N c] 32)).alloc (.cells #[.int .i64 side] 3)).alloc (.cells #[.int .i64 top] 3)) #[.int .i64 left] 3 0
  simp only [World.size_alloc] at h
  rw [World.cell?_alloc_lt _ _ _ (by simp)]
  exact h
 ·have h:=Kit.new_cell ((((w.alloc (.cells #[.int .i64 H,.int .i64 W,.int .i64 C,.slice A N c] 32)).alloc (.cells #[.int .i64 side] 3)).alloc (.cells #[.int .i64 top] 3)).alloc (.cells #[.int .i64 left] 3)) #[.int .i64 ch] 3 0
  simp only [World.size_alloc] at h
  exact h
set_option maxRecDepth 100000 in
set_option maxHeartbeats 4000000 in
theorem pwin_in (n:Nat) (hn:1≤n) (l g n₀ b off:Nat) (H W C:Int) (N c kk o d:Nat) (top left:Int) (G:Nat→Int) (ht:tensB H W C N=true) (hd:C=(d:Int)) (ho:o < d) (hk7:kk≤7)
  (t1 : -1000≤top) (t2:top≤1000) (l1 : -1000≤left) (l2:left≤1000) (hg:g+4 < n₀) (hb:b < n₀) (J Jx:List Nat→World→Prop) (hJ:∀ pre W W',J pre W→Below W.heap.size W W'→J pre W')
  (hY:∀ pre x W,J pre W→pre.length < 64→YieldAt Fence.wide (n - 1) Tryz.prog l #[.int .i8 (G x)] W fun e W' =>
    (e=.returned (.bool true)∧J (pre ++ [x]) W'∧Below n₀ W W')∨(e=.returned (.bool false)∧Jx (pre ++ [x]) W'))
  (w0:World) (hn₀:n₀≤w0.heap.size) (hcap:CapAt g H W C (some ⟨b,off,none⟩) N c (kk:Int) top left (o:Int) w0)
  (hc:∀ j,j < N→w0.cell? ⟨b,off+j,none⟩=some (.int .i8 (G j))) (h0:J [] w0) :
  CallsIn Fence.wide n Tryz.prog 138 (#[.func (.yield l) #[] #[]] ++ #[.pointer (some ⟨g+1,0,none⟩),.pointer (some ⟨g,0,none⟩),.pointer (some ⟨g+2,0,none⟩),.pointer (some ⟨g+3,0,none⟩),.pointer (some ⟨g+4,0,none⟩)]) w0 fun e W'=>(∃ v,e=.returned v) ∧
   ((∃ ls,ls=rowsI H W C top left kk o kk∧J ls W')∨(∃ pre,Jx pre W')):=by
 have hs:shapeB H W C=true:=by simp only [tensB,Bool.and_eq_true] at ht;exact ht.1
 have hN:(N:Int)=H * W * C:=by have:=ht;unfold tensB at this;simp at this;exact this.2
 obtain⟨g1,g2,g3,g4,g5,g6,g7⟩:=shapeB_yes hs
 refine callsIn_of_wp Tryz.func138 rfl trivial ?_ rfl
 simp only [Tryz.ntmps138,List.size_toArray,List.length_cons,List.length_nil,Nat.reduceAdd,Nat.reduceSub,Array.replicate_succ,Array.replicate_zero,List.push_toArray,List.append_toArray,List.nil_append,List.cons_append]
 have hwide:∀ f,Fence.wide.fn f:=fun _=>trivial
 have HY:=Lib.hid hY
 have HC:=Lib.hid hc
 have HJ:=Lib.hid hJ
 have HCAP:=Lib.hid hcap
 have HS:=Lib.hid hs
 have HN:=Lib.hid hN
 have HD:=Lib.hid hd
 have c1:=hcap.2.1
 clear hY hc hJ hcap hs hN hd ht g7
 gi_wp2
 gi_loopw [12] (fun u wr=>∃ i:Nat,i≤kk∧u=.int .i64 i∧Hid (J (rowsI H W C top left kk o i) wr)∧Hid (Below n₀ w0 wr)∧n₀≤wr.heap.size)
  (fun u _=>kk - (intOf u).toNat)
 case atStart=>exact⟨0,Nat.zero_le _,rfl,Lib.hid h0,Lib.hid (Below.refl _ _),hn₀⟩
 case round =>
  obtain⟨i,hi,rfl,hJs,hB,hz⟩:=hrel
  clear c1
  by_cases hlt:i < kk
  ·have hiI:(i:Int) < (kk:Int):=by omega
   have c1:=(HCAP.out.below hg hB.out).2.1
   have hJ0:Hid (J (rowsI H W C top left kk o i ++ colI H W C top left o i 0) wr):=Lib.hid (by simpa [colI] using hJs.out)
   clear hJs
   gi_wp2
   gi_loopw [16] (fun u wr=>∃ j:Nat,j≤kk∧u=.int .i64 j∧Hid (J (rowsI H W C top left kk o i ++ colI H W C top left o i j) wr)∧Hid (Below n₀ w0 wr)∧n₀≤wr.heap.size)
    (fun u _=>kk - (intOf u).toNat)
   case atStart=>exact⟨0,Nat.zero_le _,rfl,hJ0,hB,hz⟩
   case round =>
    clear hJ0 hB hz c1
    obtain⟨j,hj,rfl,hJs,hB,hz⟩:=hrel
    by_cases hltj:j < kk
    ·have hjI:(j:Int) < (kk:Int):=by omega
     obtain⟨⟨k0,k1,k2,k3⟩,c1,c2,c3,c4⟩:=HCAP.out.below hg hB.out
     obtain⟨yv,hyv⟩:∃ yv,top+(i:Int)=yv:=⟨_,rfl⟩
     obtain⟨xv,hxv⟩:∃ xv,left+(j:Int)=xv:=⟨_,rfl⟩
     have e1:IntKind.i64.wrap (top+(i:Int))=yv:=by rw [IntWalk.i64_in _ (by omega),hyv]
     have e2:IntKind.i64.wrap (left+(j:Int))=xv:=by rw [IntWalk.i64_in _ (by omega),hxv]
     have hlen:(rowsI H W C top left kk o i ++ colI H W C top left o i j).length < 64:=by
      have q1:=rowsI_len H W C top left kk o i
      have q2:=colI_len H W C top left o i j
      have q3:i * kk≤49:=Nat.le_trans (Nat.mul_le_mul (show i≤7 by omega) hk7) (by omega)
      rw [List.length_append];omega
     have hnx:rowsI H W C top left kk o i ++ colI H W C top left o i (j+1)=(rowsI H W C top left kk o i ++ colI H W C top left o i j) ++ hereI H W C top left o i j:=by
      rw [List.append_assoc];rfl
     obtain⟨L1,hL1⟩:∃ L1,rowsI H W C top left kk o i ++ colI H W C top left o i j=L1:=⟨_,rfl⟩
     rw [hL1] at hJs hlen hnx
     have hCd:=HD.out
     by_cases hin:0≤yv∧yv < H∧0≤xv∧xv < W
     ·obtain⟨hy0,hyH,hx0,hxW⟩:=hin
      have hins:inB H W C yv xv (o:Int)=true:=by unfold inB;rw [HS.out];simp;omega
      obtain⟨pos,hpos⟩:∃ pos,(yv * W+xv) * C+(o:Int)=pos:=⟨_,rfl⟩
      obtain⟨p1,p2,p3,p4,p5⟩:=at_bd (c:=(o:Int)) HS.out hy0 hyH hx0 hxW (by omega) (by omega)
      have hp0:0≤pos:=by omega
      obtain⟨ix,hix⟩:∃ ix:Nat,pos=(ix:Int):=⟨pos.toNat,by omega⟩
      have hixN:ix < N:=by have:=HN.out;omega
      have hhere:hereI H W C top left o i j=[ix]:=by
       unfold hereI;rw [hyv,hxv,if_pos ⟨hy0,hyH,hx0,hxW⟩,hpos,hix];simp
      have HIX:Hid (indexZ H W C yv xv (o:Int) 0=(ix:Int)):=Lib.hid (by rw [indexZ_yes hins,hpos,hix])
      have HINS:=Lib.hid hins
      have HNX:Hid (rowsI H W C top left kk o i ++ colI H W C top left o i (j+1)=L1 ++ [ix]):=Lib.hid (by rw [hnx,hhere])
      have hixI:(ix:Int) < (N:Int):=by omega
      have hix0:(0:Int)≤(ix:Int):=by omega
      clear hnx hhere hyv hxv hins hpos p1 p2 p3 p4 p5 hp0 hix hCd
      gi_wp2_with (gi_at_call 133;(refine ((callsIn_wide (n:=n - 1)).2 (index_to H W C yv xv (o:Int) (ix:Int) true HINS.out HIX.out _)).mono ?_);(rintro e w2 ⟨rfl,hb2⟩;have hJ2:=HJ.out _ _ _ hJs.out hb2;have hB2:=hB.out.trans (hb2.mono hz);obtain⟨⟨_,_,_,k3⟩,_,_,_,_⟩:=HCAP.out.below hg hB2;have hcx:=(hB2.cell (p:=⟨b,off+ix,none⟩) hb).trans (HC.out ix hixN);have hz2:=Nat.le_trans hz hb2.size;obtain⟨fn,tmps,assign,body,hy,hR⟩:=HY.out _ ix w2 hJ2 hlen;generalize G ix=x at hcx hR hy))
      refine hR.mono ?_
      rintro e W3 (⟨rfl,hJ3,hk3⟩ | ⟨rfl,hJx3⟩)
      ·have HJ3:Hid (J (rowsI H W C top left kk o i ++ colI H W C top left o i (j+1)) W3):=Lib.hid (by rw [HNX.out];exact hJ3)
       have HB3:=Lib.hid (hB2.trans hk3)
       have hz3:=Nat.le_trans hz2 hk3.size
       clear hJ3 hk3 hcx hy hR
       gi_wp2
       go_roundw
       case rel=>exact⟨j+1,by omega,by simp,HJ3,HB3,hz3⟩
       case measure=>simp [intOf];omega
      ·gi_wp2
       refine bodyPost_ret (results_none rfl _ _ _) rfl ?_
       exact⟨⟨_,rfl⟩,.inr ⟨_,hJx3⟩⟩
     ·have hins:inB H W C yv xv (o:Int)=false:=by unfold inB;rw [HS.out];simp;omega
      have hhere:hereI H W C top left o i j=[]:=by unfold hereI;rw [hyv,hxv,if_neg hin]
      have HIX:Hid (indexZ H W C yv xv (o:Int) 0=0):=Lib.hid (indexZ_no hins)
      have HINS:=Lib.hid hins
      have HNX:Hid (rowsI H W C top left kk o i ++ colI H W C top left o i (j+1)=L1):=Lib.hid (by rw [hnx,hhere,List.append_nil])
      clear hnx hhere hyv hxv hins hin hCd
      gi_wp2_with (gi_at_call 133;(refine ((callsIn_wide (n:=n - 1)).2 (index_to H W C yv xv (o:Int) 0 false HINS.out HIX.out _)).mono ?_);(rintro e w2 ⟨rfl,hb2⟩;have hJ2:=HJ.out _ _ _ hJs.out hb2;have hB2:=hB.out.trans (hb2.mono hz);have hz2:=Nat.le_trans hz hb2.size))
      go_roundw
      case rel=>exact⟨j+1,by omega,by simp,Lib.hid (by rw [HNX.out];exact hJ2),Lib.hid hB2,hz2⟩
      case measure=>simp [intOf];omega
    ·obtain rfl:j=kk:=by omega
     gi_wp2
     go_roundw
     case rel=>exact⟨i+1,by omega,by simp,hJs,hB,hz⟩
     case measure=>simp [intOf];omega
  ·obtain rfl:i=kk:=by omega
   gi_wp2
   go_end0
   exact⟨⟨_,rfl⟩,.inl ⟨_,rfl,hJs.out⟩⟩
theorem abides_below {β:Type} {B:Nat} {J:β→World→Prop} (h:AbidesFrom B J) (s:β) (W W':World) (hs:J s W) (hb:Below W.heap.size W W'):J s W' :=
 h s W W' none hs (Kit.grown_of_below hb none) (fun r e=>by cases e)
theorem seq_window (n:Nat) (hn:1≤n) (g n₀ b off:Nat) (H W C:Int) (N c kk o d:Nat) (top left:Int) (G:Nat→Int) (ht:tensB H W C N=true) (hd:C=(d:Int)) (ho:o < d) (hk7:kk≤7)
  (t1 : -1000≤top) (t2:top≤1000) (l1 : -1000≤left) (l2:left≤1000) (hg:g+4 < n₀) (hb:b < n₀) (w:World) (hn₀:n₀≤w.heap.size) (hcap:CapAt g H W C (some ⟨b,off,none⟩) N c (kk:Int) top left (o:Int) w)
  (hc:∀ j,j < N→w.cell? ⟨b,off+j,none⟩=some (.int .i8 (G j))) :
  SeqStopsK Fence.wide n Tryz.prog 138 #[.pointer (some ⟨g+1,0,none⟩),.pointer (some ⟨g,0,none⟩),.pointer (some ⟨g+2,0,none⟩),.pointer (some ⟨g+3,0,none⟩),.pointer (some ⟨g+4,0,none⟩)] (fun x:Nat=>#[Value.int .i8 (G x)]) (Below n₀) (fun ls=>ls=rowsI H W C top left kk o kk) (fun _=>True) 64 w:=by
 intro l J Jx W0 hW hJ _ hY h0
 have hW':=hW.mono hn₀
 refine (pwin_in n hn l g n₀ b off H W C N c kk o d top left G ht hd ho hk7 t1 t2 l1 l2 hg hb J Jx (abides_below hJ) hY W0 (Nat.le_trans hn₀ hW.size) (hcap.below hg hW') (fun j hj=>(hW'.cell (p:=⟨b,off+j,none⟩) hb).trans (hc j hj)) h0).mono ?_
 rintro e W' ⟨he,(⟨ls,rfl,hj⟩ | ⟨pre,hj⟩)⟩
 ·exact⟨he,.inl ⟨_,rfl,hj⟩⟩
 ·exact⟨he,.inr ⟨_,trivial,hj⟩⟩
end Go.Proofs.YtkpngknbiecdiaaGreatDoor.CPool
end
section
namespace Go.Proofs.YtkpngknbiecdiaaGreatDoor.CJoin
open Go Go.ChangeShapes Go.WideShapes Go.ChangeAt Go.RowKit Go.Deep Go.Shelf Round
open Plain CSat CFix CShape CTensor CConv
set_option linter.unusedVariables false
attribute [local go_sem] Oper.semAt_some
def MadeJ (w:World) (H W C:Int) (n:Nat) (zs:List Int) (x:Value) (e:Ending) (w':World):Prop :=
 ∃ v,e=.returned (.tuple #[.agg #[.int .i64 H,.int .i64 W,.int .i64 C,v],x])∧w'.ownsRow w.heap.size 22 1 v n (I8s zs)∧Below w.heap.size w w'
set_option maxRecDepth 100000 in
set_option maxHeartbeats 4000000 in
theorem jof_bad1 (H W C H' W' C':Int) (A B:Option Addr) (n c m d:Nat) (x0 x1 x2:Value) (K S P O Z Y:Int) (WA BA:Option Addr) (nW cW nB cB:Nat) (m1 s1 z1 m2 s2 z2 lo hi:Int) (h1:tensB H W C n=false) (w:World) :
  Calls Tryz.prog 20 #[.agg #[.int .i64 H,.int .i64 W,.int .i64 C,.slice A n c],.agg #[.int .i64 H',.int .i64 W',.int .i64 C',.slice B m d],.agg #[x0,x1,x2,.int .i64 K,.int .i64 S,.int .i64 P,.int .i64 O,.int .i8 Z,.int .i8 Y,.slice WA nW cW,.slice BA nB cB,.int .i32 m1,.int .i64 s1,.int .i8 z1,.int .i32 m2,.int .i64 s2,.int .i8 z2,.int .i8 lo,.int .i8 hi]] w (MadeJ w 0 0 0 0 [] (.int .i64 5)):=by
 have HT1:=Lib.hid h1
 clear h1
 have HE:=eqShape H W C H' W' C'
 have hg:=Tryz.eqGuardType30
 go_enter Tryz.func20,Tryz.ntmps20
 go_wp2_with (first
 | (go_at_call 17
    have hal:Below w.heap.size w ((((w.alloc (.cells #[.int .i64 H,.int .i64 W,.int .i64 C,.slice A n c] 32)).alloc (.cells #[.int .i64 H',.int .i64 W',.int .i64 C',.slice B m d] 32)).alloc (.cells #[x0,x1,x2,.int .i64 K,.int .i64 S,.int .i64 P,.int .i64 O,.int .i8 Z,.int .i8 Y,.slice WA nW cW,.slice BA nB cB,.int .i32 m1,.int .i64 s1,.int .i8 z1,.int .i32 m2,.int .i64 s2,.int .i8 z2,.int .i8 lo,.int .i8 hi] 28)).alloc (.cells #[.int .i64 0,.int .i64 0,.int .i64 0,.slice none 0 0] 32)):=((((Below.refl _ _).alloc (by first | exact Nat.le_refl _ | (simp;done) | (simp;omega)) _).alloc (by first | exact Nat.le_refl _ | (simp;done) | (simp;omega)) _).alloc (by first | exact Nat.le_refl _ | (simp;done) | (simp;omega)) _).alloc (by first | exact Nat.le_refl _ | (simp;done) | (simp;omega)) _
    refine (right_to H W C A n c false HT1.out _).mono ?_
    rintro e w1 ⟨rfl,hb⟩
    have hh:Below w.heap.size w w1:=hal.trans (hb.mono hal.size)
    have qTA:=(boxNew H W C A n c 32) w
    try simp only [World.size_alloc] at qTA
    have TA:=Lib.hid ((qTA.below (B':=w.heap.size+1) (by omega) (((((Below.refl _ _).alloc (by first | exact Nat.le_refl _ | (simp;done) | (simp;omega)) _).alloc (by first | exact Nat.le_refl _ | (simp;done) | (simp;omega)) _).alloc (by first | exact Nat.le_refl _ | (simp;done) | (simp;omega)) _).mono (by simp))).below (by first | (simp;done) | (simp;omega)) hb)
    have yTA:w.heap.size < w1.heap.size:=by have:=hb.size;simp at this;omega
    clear qTA
    have qTB:=(boxNew H' W' C' B m d 32) (w.alloc (.cells #[.int .i64 H,.int .i64 W,.int .i64 C,.slice A n c] 32))
    try simp only [World.size_alloc] at qTB
    have TB:=Lib.hid ((qTB.below (B':=w.heap.size+2) (by omega) ((((Below.refl _ _).alloc (by first | exact Nat.le_refl _ | (simp;done) | (simp;omega)) _).alloc (by first | exact Nat.le_refl _ | (simp;done) | (simp;omega)) _).mono (by simp))).below (by first | (simp;done) | (simp;omega)) hb)
    have yTB:w.heap.size+1 < w1.heap.size:=by have:=hb.size;simp at this;omega
    clear qTB
    have qTN:=(NodeAt.new x0 x1 x2 (.int .i8 Y) (.int .i32 m1) (.int .i64 s1) (.int .i8 z1) (.int .i32 m2) (.int .i64 s2) (.int .i8 z2) (.int .i8 lo) (.int .i8 hi) K S P O Z WA BA nW cW nB cB 28) ((w.alloc (.cells #[.int .i64 H,.int .i64 W,.int .i64 C,.slice A n c] 32)).alloc (.cells #[.int .i64 H',.int .i64 W',.int .i64 C',.slice B m d] 32))
    try simp only [World.size_alloc] at qTN
    have TN:=Lib.hid ((qTN.below (B':=w.heap.size+3) (by omega) (((Below.refl _ _).alloc (by first | exact Nat.le_refl _ | (simp;done) | (simp;omega)) _).mono (by simp))).below (by first | (simp;done) | (simp;omega)) hb)
    have yTN:w.heap.size+2 < w1.heap.size:=by have:=hb.size;simp at this;omega
    clear qTN
    have qFR:=(freshNew 32) (((w.alloc (.cells #[.int .i64 H,.int .i64 W,.int .i64 C,.slice A n c] 32)).alloc (.cells #[.int .i64 H',.int .i64 W',.int .i64 C',.slice B m d] 32)).alloc (.cells #[x0,x1,x2,.int .i64 K,.int .i64 S,.int .i64 P,.int .i64 O,.int .i8 Z,.int .i8 Y,.slice WA nW cW,.slice BA nB cB,.int .i32 m1,.int .i64 s1,.int .i8 z1,.int .i32 m2,.int .i64 s2,.int .i8 z2,.int .i8 lo,.int .i8 hi] 28))
    try simp only [World.size_alloc] at qFR
    have FR:=Lib.hid (qFR.below (by first | (simp;done) | (simp;omega)) hb)
    have yFR:w.heap.size+3 < w1.heap.size:=by have:=hb.size;simp at this;omega
    clear qFR
    have HBW:Hid (Below w.heap.size w w1):=Lib.hid hh
    obtain⟨⟨z0,z1,z2,z3⟩,z4,z5,z6,z7⟩:=FR.out
    obtain⟨tap0,tap1,tap2,tap3⟩:=TA.out
    obtain⟨tbp0,tbp1,tbp2,tbp3⟩:=TB.out
    clear hb hh hal))
 refine bodyPost_ret (Kit.results_ct rfl _ _ (w.heap.size+3) 0 [.int .i64 0,.int .i64 0,.int .i64 0,.slice none 0 0] _ rfl (range_4 (by go_cell) (by go_cell) (by go_cell) (by go_cell)) Tryz.underlying32 rfl (by kernel_rfl)) rfl ?_
 exact⟨_,rfl,World.ownsRow_nil _ _ _ _,by exact (((HBW.out.setCell (p:=⟨w.heap.size+3,0,none⟩) (by simp) _).setCell (p:=⟨w.heap.size+3,1,none⟩) (by simp) _).setCell (p:=⟨w.heap.size+3,2,none⟩) (by simp) _).setCell (p:=⟨w.heap.size+3,3,none⟩) (by simp) _⟩
set_option maxRecDepth 100000 in
set_option maxHeartbeats 4000000 in
theorem jof_bad2 (H W C H' W' C':Int) (A B:Option Addr) (n c m d:Nat) (x0 x1 x2:Value) (K S P O Z Y:Int) (WA BA:Option Addr) (nW cW nB cB:Nat) (m1 s1 z1 m2 s2 z2 lo hi:Int) (h1:tensB H W C n=true) (h2:tensB H' W' C' m=false) (w:World) :
  Calls Tryz.prog 20 #[.agg #[.int .i64 H,.int .i64 W,.int .i64 C,.slice A n c],.agg #[.int .i64 H',.int .i64 W',.int .i64 C',.slice B m d],.agg #[x0,x1,x2,.int .i64 K,.int .i64 S,.int .i64 P,.int .i64 O,.int .i8 Z,.int .i8 Y,.slice WA nW cW,.slice BA nB cB,.int .i32 m1,.int .i64 s1,.int .i8 z1,.int .i32 m2,.int .i64 s2,.int .i8 z2,.int .i8 lo,.int .i8 hi]] w (MadeJ w 0 0 0 0 [] (.int .i64 5)):=by
 have HT1:=Lib.hid h1
 have HT2:=Lib.hid h2
 clear h1 h2
 have HE:=eqShape H W C H' W' C'
 have hg:=Tryz.eqGuardType30
 go_enter Tryz.func20,Tryz.ntmps20
 go_wp2_with (first
 | (go_at_call 17
    have hchk:=HBW
    clear hchk
    have hal:Below w1.heap.size w1 w1:=Below.refl _ _
    refine (right_to H' W' C' B m d false HT2.out _).mono ?_
    rintro e w2 ⟨rfl,hb⟩
    have hh:Below w1.heap.size w1 w2:=hal.trans (hb.mono hal.size)
    replace TA:=Lib.hid (TA.out.below yTA hh)
    replace yTA:=Nat.lt_of_lt_of_le yTA hh.size
    replace TB:=Lib.hid (TB.out.below yTB hh)
    replace yTB:=Nat.lt_of_lt_of_le yTB hh.size
    replace TN:=Lib.hid (TN.out.below yTN hh)
    replace yTN:=Nat.lt_of_lt_of_le yTN hh.size
    replace FR:=Lib.hid (FR.out.below yFR hh)
    replace yFR:=Nat.lt_of_lt_of_le yFR hh.size
    replace HBW:=Lib.hid (HBW.out.trans (hh.mono HBW.out.size))
    clear tap0 tap1 tap2 tap3 tbp0 tbp1 tbp2 tbp3
    obtain⟨⟨z0,z1,z2,z3⟩,z4,z5,z6,z7⟩:=FR.out
    obtain⟨tap0,tap1,tap2,tap3⟩:=TA.out
    obtain⟨tbp0,tbp1,tbp2,tbp3⟩:=TB.out
    clear hb hh hal)
 | (go_at_call 17
    have hal:Below w.heap.size w ((((w.alloc (.cells #[.int .i64 H,.int .i64 W,.int .i64 C,.slice A n c] 32)).alloc (.cells #[.int .i64 H',.int .i64 W',.int .i64 C',.slice B m d] 32)).alloc (.cells #[x0,x1,x2,.int .i64 K,.int .i64 S,.int .i64 P,.int .i64 O,.int .i8 Z,.int .i8 Y,.slice WA nW cW,.slice BA nB cB,.int .i32 m1,.int .i64 s1,.int .i8 z1,.int .i32 m2,.int .i64 s2,.int .i8 z2,.int .i8 lo,.int .i8 hi] 28)).alloc (.cells #[.int .i64 0,.int .i64 0,.int .i64 0,.slice none 0 0] 32)):=((((Below.refl _ _).alloc (by first | exact Nat.le_refl _ | (simp;done) | (simp;omega)) _).alloc (by first | exact Nat.le_refl _ | (simp;done) | (simp;omega)) _).alloc (by first | exact Nat.le_refl _ | (simp;done) | (simp;omega)) _).alloc (by first | exact Nat.le_refl _ | (simp;done) | (simp;omega)) _
    refine (right_to H W C A n c true HT1.out _).mono ?_
    rintro e w1 ⟨rfl,hb⟩
    have hh:Below w.heap.size w w1:=hal.trans (hb.mono hal.size)
    have qTA:=(boxNew H W C A n c 32) w
    try simp only [World.size_alloc] at qTA
    have TA:=Lib.hid ((qTA.below (B':=w.heap.size+1) (by omega) (((((Below.refl _ _).alloc (by first | exact Nat.le_refl _ | (simp;done) | (simp;omega)) _).alloc (by first | exact Nat.le_refl _ | (simp;done) | (simp;omega)) _).alloc (by first | exact Nat.le_refl _ | (simp;done) | (simp;omega)) _).mono (by simp))).below (by first | (simp;done) | (simp;omega)) hb)
    have yTA:w.heap.size < w1.heap.size:=by have:=hb.size;simp at this;omega
    clear qTA
    have qTB:=(boxNew H' W' C' B m d 32) (w.alloc (.cells #[.int .i64 H,.int .i64 W,.int .i64 C,.slice A n c] 32))
    try simp only [World.size_alloc] at qTB
    have TB:=Lib.hid ((qTB.below (B':=w.heap.size+2) (by omega) ((((Below.refl _ _).alloc (by first | exact Nat.le_refl _ | (simp;done) | (simp;omega)) _).alloc (by first | exact Nat.le_refl _ | (simp;done) | (simp;omega)) _).mono (by simp))).below (by first | (simp;done) | (simp;omega)) hb)
    have yTB:w.heap.size+1 < w1.heap.size:=by have:=hb.size;simp at this;omega
    clear qTB
    have qTN:=(NodeAt.new x0 x1 x2 (.int .i8 Y) (.int .i32 m1) (.int .i64 s1) (.int .i8 z1) (.int .i32 m2) (.int .i64 s2) (.int .i8 z2) (.int .i8 lo) (.int .i8 hi) K S P O Z WA BA nW cW nB cB 28) ((w.alloc (.cells #[.int .i64 H,.int .i64 W,.int .i64 C,.slice A n c] 32)).alloc (.cells #[.int .i64 H',.int .i64 W',.int .i64 C',.slice B m d] 32))
    try simp only [World.size_alloc] at qTN
    have TN:=Lib.hid ((qTN.below (B':=w.heap.size+3) (by omega) (((Below.refl _ _).alloc (by first | exact Nat.le_refl _ | (simp;done) | (simp;omega)) _).mono (by simp))).below (by first | (simp;done) | (simp;omega)) hb)
    have yTN:w.heap.size+2 < w1.heap.size:=by have:=hb.size;simp at this;omega
    clear qTN
    have qFR:=(freshNew 32) (((w.alloc (.cells #[.int .i64 H,.int .i64 W,.int .i64 C,.slice A n c] 32)).alloc (.cells #[.int .i64 H',.int .i64 W',.int .i64 C',.slice B m d] 32)).alloc (.cells #[x0,x1,x2,.int .i64 K,.int .i64 S,.int .i64 P,.int .i64 O,.int .i8 Z,.int .i8 Y,.slice WA nW cW,.slice BA nB cB,.int .i32 m1,.int .i64 s1,.int .i8 z1,.int .i32 m2,.int .i64 s2,.int .i8 z2,.int .i8 lo,.int .i8 hi] 28))
    try simp only [World.size_alloc] at qFR
    have FR:=Lib.hid (qFR.below (by first | (simp;done) | (simp;omega)) hb)
    have yFR:w.heap.size+3 < w1.heap.size:=by have:=hb.size;simp at this;omega
    clear qFR
    have HBW:Hid (Below w.heap.size w w1):=Lib.hid hh
    obtain⟨tap0,tap1,tap2,tap3⟩:=TA.out
    obtain⟨tbp0,tbp1,tbp2,tbp3⟩:=TB.out
    clear hb hh hal))
 refine bodyPost_ret (Kit.results_ct rfl _ _ (w.heap.size+3) 0 [.int .i64 0,.int .i64 0,.int .i64 0,.slice none 0 0] _ rfl (range_4 (by go_cell) (by go_cell) (by go_cell) (by go_cell)) Tryz.underlying32 rfl (by kernel_rfl)) rfl ?_
 exact⟨_,rfl,World.ownsRow_nil _ _ _ _,by exact (((HBW.out.setCell (p:=⟨w.heap.size+3,0,none⟩) (by simp) _).setCell (p:=⟨w.heap.size+3,1,none⟩) (by simp) _).setCell (p:=⟨w.heap.size+3,2,none⟩) (by simp) _).setCell (p:=⟨w.heap.size+3,3,none⟩) (by simp) _⟩
set_option maxRecDepth 100000 in
set_option maxHeartbeats 4000000 in
theorem jof_bad3 (H W C H' W' C':Int) (A B:Option Addr) (n c m d:Nat) (x0 x1 x2:Value) (K S P O Z Y:Int) (WA BA:Option Addr) (nW cW nB cB:Nat) (m1 s1 z1 m2 s2 z2 lo hi:Int) (h1:tensB H W C n=true) (h2:tensB H' W' C' m=true) (hne:(H == H' && (W == W' && C == C'))=false) (w:World) :
  Calls Tryz.prog 20 #[.agg #[.int .i64 H,.int .i64 W,.int .i64 C,.slice A n c],.agg #[.int .i64 H',.int .i64 W',.int .i64 C',.slice B m d],.agg #[x0,x1,x2,.int .i64 K,.int .i64 S,.int .i64 P,.int .i64 O,.int .i8 Z,.int .i8 Y,.slice WA nW cW,.slice BA nB cB,.int .i32 m1,.int .i64 s1,.int .i8 z1,.int .i32 m2,.int .i64 s2,.int .i8 z2,.int .i8 lo,.int .i8 hi]] w (MadeJ w 0 0 0 0 [] (.int .i64 5)):=by
 have HT1:=Lib.hid h1
 have HT2:=Lib.hid h2
 clear h1 h2
 have HE:=eqShape H W C H' W' C'
 have hg:=Tryz.eqGuardType30
 go_enter Tryz.func20,Tryz.ntmps20
 go_wp2_with (first
 | (go_at_call 17
    have hchk:=HBW
    clear hchk
    have hal:Below w1.heap.size w1 w1:=Below.refl _ _
    refine (right_to H' W' C' B m d true HT2.out _).mono ?_
    rintro e w2 ⟨rfl,hb⟩
    have hh:Below w1.heap.size w1 w2:=hal.trans (hb.mono hal.size)
    replace TA:=Lib.hid (TA.out.below yTA hh)
    replace yTA:=Nat.lt_of_lt_of_le yTA hh.size
    replace TB:=Lib.hid (TB.out.below yTB hh)
    replace yTB:=Nat.lt_of_lt_of_le yTB hh.size
    replace TN:=Lib.hid (TN.out.below yTN hh)
    replace yTN:=Nat.lt_of_lt_of_le yTN hh.size
    replace FR:=Lib.hid (FR.out.below yFR hh)
    replace yFR:=Nat.lt_of_lt_of_le yFR hh.size
    replace HBW:=Lib.hid (HBW.out.trans (hh.mono HBW.out.size))
    clear tap0 tap1 tap2 tap3 tbp0 tbp1 tbp2 tbp3
    obtain⟨⟨z0,z1,z2,z3⟩,z4,z5,z6,z7⟩:=FR.out
    obtain⟨tap0,tap1,tap2,tap3⟩:=TA.out
    obtain⟨tbp0,tbp1,tbp2,tbp3⟩:=TB.out
    clear hb hh hal)
 | (go_at_call 17
    have hal:Below w.heap.size w ((((w.alloc (.cells #[.int .i64 H,.int .i64 W,.int .i64 C,.slice A n c] 32)).alloc (.cells #[.int .i64 H',.int .i64 W',.int .i64 C',.slice B m d] 32)).alloc (.cells #[x0,x1,x2,.int .i64 K,.int .i64 S,.int .i64 P,.int .i64 O,.int .i8 Z,.int .i8 Y,.slice WA nW cW,.slice BA nB cB,.int .i32 m1,.int .i64 s1,.int .i8 z1,.int .i32 m2,.int .i64 s2,.int .i8 z2,.int .i8 lo,.int .i8 hi] 28)).alloc (.cells #[.int .i64 0,.int .i64 0,.int .i64 0,.slice none 0 0] 32)):=((((Below.refl _ _).alloc (by first | exact Nat.le_refl _ | (simp;done) | (simp;omega)) _).alloc (by first | exact Nat.le_refl _ | (simp;done) | (simp;omega)) _).alloc (by first | exact Nat.le_refl _ | (simp;done) | (simp;omega)) _).alloc (by first | exact Nat.le_refl _ | (simp;done) | (simp;omega)) _
    refine (right_to H W C A n c true HT1.out _).mono ?_
    rintro e w1 ⟨rfl,hb⟩
    have hh:Below w.heap.size w w1:=hal.trans (hb.mono hal.size)
    have qTA:=(boxNew H W C A n c 32) w
    try simp only [World.size_alloc] at qTA
    have TA:=Lib.hid ((qTA.below (B':=w.heap.size+1) (by omega) (((((Below.refl _ _).alloc (by first | exact Nat.le_refl _ | (simp;done) | (simp;omega)) _).alloc (by first | exact Nat.le_refl _ | (simp;done) | (simp;omega)) _).alloc (by first | exact Nat.le_refl _ | (simp;done) | (simp;omega)) _).mono (by simp))).below (by first | (simp;done) | (simp;omega)) hb)
    have yTA:w.heap.size < w1.heap.size:=by have:=hb.size;simp at this;omega
    clear qTA
    have qTB:=(boxNew H' W' C' B m d 32) (w.alloc (.cells #[.int .i64 H,.int .i64 W,.int .i64 C,.slice A n c] 32))
    try simp only [World.size_alloc] at qTB
    have TB:=Lib.hid ((qTB.below (B':=w.heap.size+2) (by omega) ((((Below.refl _ _).alloc (by first | exact Nat.le_refl _ | (simp;done) | (simp;omega)) _).alloc (by first | exact Nat.le_refl _ | (simp;done) | (simp;omega)) _).mono (by simp))).below (by first | (simp;done) | (simp;omega)) hb)
    have yTB:w.heap.size+1 < w1.heap.size:=by have:=hb.size;simp at this;omega
    clear qTB
    have qTN:=(NodeAt.new x0 x1 x2 (.int .i8 Y) (.int .i32 m1) (.int .i64 s1) (.int .i8 z1) (.int .i32 m2) (.int .i64 s2) (.int .i8 z2) (.int .i8 lo) (.int .i8 hi) K S P O Z WA BA nW cW nB cB 28) ((w.alloc (.cells #[.int .i64 H,.int .i64 W,.int .i64 C,.slice A n c] 32)).alloc (.cells #[.int .i64 H',.int .i64 W',.int .i64 C',.slice B m d] 32))
    try simp only [World.size_alloc] at qTN
    have TN:=Lib.hid ((qTN.below (B':=w.heap.size+3) (by omega) (((Below.refl _ _).alloc (by first | exact Nat.le_refl _ | (simp;done) | (simp;omega)) _).mono (by simp))).below (by first | (simp;done) | (simp;omega)) hb)
    have yTN:w.heap.size+2 < w1.heap.size:=by have:=hb.size;simp at this;omega
    clear qTN
    have qFR:=(freshNew 32) (((w.alloc (.cells #[.int .i64 H,.int .i64 W,.int .i64 C,.slice A n c] 32)).alloc (.cells #[.int .i64 H',.int .i64 W',.int .i64 C',.slice B m d] 32)).alloc (.cells #[x0,x1,x2,.int .i64 K,.int .i64 S,.int .i64 P,.int .i64 O,.int .i8 Z,.int .i8 Y,.slice WA nW cW,.slice BA nB cB,.int .i32 m1,.int .i64 s1,.int .i8 z1,.int .i32 m2,.int .i64 s2,.int .i8 z2,.int .i8 lo,.int .i8 hi] 28))
    try simp only [World.size_alloc] at qFR
    have FR:=Lib.hid (qFR.below (by first | (simp;done) | (simp;omega)) hb)
    have yFR:w.heap.size+3 < w1.heap.size:=by have:=hb.size;simp at this;omega
    clear qFR
    have HBW:Hid (Below w.heap.size w w1):=Lib.hid hh
    obtain⟨tap0,tap1,tap2,tap3⟩:=TA.out
    obtain⟨tbp0,tbp1,tbp2,tbp3⟩:=TB.out
    clear hb hh hal))
 refine bodyPost_ret (Kit.results_ct rfl _ _ (w.heap.size+3) 0 [.int .i64 0,.int .i64 0,.int .i64 0,.slice none 0 0] _ rfl (range_4 (by go_cell) (by go_cell) (by go_cell) (by go_cell)) Tryz.underlying32 rfl (by kernel_rfl)) rfl ?_
 exact⟨_,rfl,World.ownsRow_nil _ _ _ _,by exact (((HBW.out.setCell (p:=⟨w.heap.size+3,0,none⟩) (by simp) _).setCell (p:=⟨w.heap.size+3,1,none⟩) (by simp) _).setCell (p:=⟨w.heap.size+3,2,none⟩) (by simp) _).setCell (p:=⟨w.heap.size+3,3,none⟩) (by simp) _⟩
end Go.Proofs.YtkpngknbiecdiaaGreatDoor.CJoin
end
