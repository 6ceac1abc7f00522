/- Texts of this seat, one behind the other: KindNd, WheelSlide, LaneNum, LaneMem, WheelMany, Round. -/
import Derived.Deep.CutRange
import Derived.OrdersIn
import Derived.TacticsIn
import Derived.RegionTactic
import Derived.Test.YtkpngknbiecdiaaGreatDoorGB1
import Derived.Test.YtkpngknbiecdiaaGreatDoorGB5
import Derived.Test.YtkpngknbiecdiaaGreatDoorGB10
import Derived.Test.YtkpngknbiecdiaaGreatDoorGB11
import Derived.Test.YtkpngknbiecdiaaGreatDoorGB13
section
namespace Go.Proofs.YtkpngknbiecdiaaGreatDoor.CKind
open Go Go.ChangeShapes Go.WideShapes Go.ChangeAt Go.RowKit Go.Deep
open Plain CSat CShape CTensor CConv
set_option linter.unusedVariables false
structure Nd where
 (kd na nb K S P O Z Y:Int)
 (WA:Option Addr)
 (nW cW:Nat)
 (BA:Option Addr)
 (nB cB:Nat)
 (m1 s1 z1 m2 s2 z2 lo hi:Int)
def Nd.val (x:Nd):Array Value:=#[.int .i64 x.kd,.int .i64 x.na,.int .i64 x.nb,.int .i64 x.K,.int .i64 x.S,.int .i64 x.P,.int .i64 x.O,.int .i8 x.Z,.int .i8 x.Y,.slice x.WA x.nW x.cW,.slice x.BA x.nB x.cB,.int .i32 x.m1,.int .i64 x.s1,.int .i8 x.z1,.int .i32 x.m2,.int .i64 x.s2,.int .i8 x.z2,.int .i8 x.lo,.int .i8 x.hi]
def scaledB (k:Int):Bool:=k == 1 || k == 2 || k == 3 || k == 6 || k == 7
def sumsB (k:Int):Bool:=k == 1 || k == 2 || k == 3
def slidesB (k:Int):Bool:=k == 1 || k == 2 || k == 4 || k == 5
def Nd.moreB (x:Nd):Bool :=
 (!sumsB x.kd && (decide (0 < x.nW) || decide (0 < x.nB))) || (x.kd != 1 && x.kd != 3 && x.O != 0) || (!slidesB x.kd && (x.K != 0 || x.S != 0)) || (!slidesB x.kd && x.kd != 8 && x.P != 0) ||
 (x.kd != 6 && (x.nb != 0 || x.Y != 0 || x.m2 != 0 || x.s2 != 0)) || x.z2 != 0 || (!scaledB x.kd && (x.m1 != 0 || x.s1 != 0 || x.z1 != 0 || x.lo != 0 || x.hi != 0)) || (!scaledB x.kd && x.kd != 8 && x.Z != 0)
def NdAt (g:Nat) (x:Nd) (w:World):Prop:=w.rangeAt g 0 x.val.toList
theorem NdAt.at {g:Nat} {x:Nd} {w:World} (h:NdAt g x w) (i:Nat) (v:Value) (hi:x.val.toList[i]?=some v):w.cell? ⟨g,i,none⟩=some v:=by
 have:=h i v hi
 rwa [Nat.zero_add] at this
theorem NdAt.below {g B:Nat} {x:Nd} {w w':World} (h:NdAt g x w) (hB:g < B) (hb:Below B w w'):NdAt g x w':=fun j v hj=>(hb.cell (p:=⟨g,0+j,none⟩) hB).trans (h j v hj)
theorem NdAt.new (x:Nd) (T:TypeId) (w:World):NdAt w.heap.size x (w.alloc (.cells x.val T)):=fun j v hj=>by
 rw [Nat.zero_add,Kit.new_cell]
 simpa using hj
end Go.Proofs.YtkpngknbiecdiaaGreatDoor.CKind
end
section
namespace Go.Proofs.YtkpngknbiecdiaaGreatDoor.CWheel
open Go Go.ChangeShapes Go.WideShapes Go.ChangeAt Go.RowKit
open FloatNum CFour
set_option linter.unusedVariables false
theorem added_to (A:Option Addr) (rows:List (List Int)) (n cA:Nat) (AW:Option Addr) (cW:Nat) (W:Nat→Nat→Int) (L m:Nat) (hn:rows.length=n) (h1:1≤n) (hN:n≤1024) (hL:∀ row∈rows,row.length=L) (hm:m=L - 2) (hL6:L≤1000000)
  (hX:∀ k i,In16 (XR rows k i)) (hW:∀ k i,InW (W k i)) (F:Nat→Int) (hF:F=mnAt (XR rows) W n) (w:World) (hr:Kit.RowsAt w w.heap.size .i16 A rows) (hw:Wts w w.heap.size AW n W) :
  Calls Tryz.prog 122 #[.slice A n cA,.slice AW n cW] w (Own64 w m (nums F m)):=by
 rcases Nat.lt_or_ge L 3 with h | h
 ·obtain rfl:m=0:=by omega
  refine (added_short A rows n cA _ L hn h1 hL h w hr).mono ?_
  rintro e w' ⟨rfl,rfl⟩
  exact⟨_,rfl,own_nil _ _ _ _,Below.refl _ _⟩
 ·exact added_yes A rows n cA AW cW W L m hn h1 hN hL (by omega) (by omega) hL6 hX hW F hF w hr hw
/-! ### many rows -/
def fitB (rows:List (List Int)) (nW:Nat):Bool:=decide (rows.length=nW∧1≤rows.length∧rows.length≤1024) && rows.all (fun row=>row.length == (rows.getD 0 []).length)
theorem fit_yes {rows:List (List Int)} {nW:Nat} (h:fitB rows nW=true):rows.length=nW∧1≤rows.length∧rows.length≤1024∧∀ row∈rows,row.length=(rows.getD 0 []).length:=by
 simp only [fitB,Bool.and_eq_true,decide_eq_true_eq,List.all_eq_true,beq_iff_eq] at h
 exact⟨h.1.1,h.1.2.1,h.1.2.2,h.2⟩
theorem fit_of {rows:List (List Int)} {nW:Nat} (h1:rows.length=nW) (h2:1≤rows.length) (h3:rows.length≤1024) (h4:∀ k (hk:k < rows.length),rows[k].length=(rows.getD 0 []).length):fitB rows nW=true:=by
 simp only [fitB,Bool.and_eq_true,decide_eq_true_eq,List.all_eq_true,beq_iff_eq]
 refine⟨⟨h1,h2,h3⟩,fun row hr=>?_⟩
 obtain⟨k,hk,rfl⟩:=List.mem_iff_getElem.1 hr
 exact h4 k hk
theorem fit_no {rows:List (List Int)} {nW k:Nat} (hk:k < rows.length) (h:¬ rows[k].length=(rows.getD 0 []).length):fitB rows nW=false:=by
 cases hb:fitB rows nW
 ·rfl
 ·exact absurd ((fit_yes hb).2.2.2 _ (List.getElem_mem hk)) h
theorem fit_not {rows:List (List Int)} {nW:Nat} (h:¬ (rows.length=nW∧1≤rows.length∧rows.length≤1024)):fitB rows nW=false:=by
 cases hb:fitB rows nW
 ·rfl
 ·have:=fit_yes hb
  exact absurd ⟨this.1,this.2.1,this.2.2.1⟩ h
theorem row0 {rows:List (List Int)} (h:0 < rows.length):rows.getD 0 []=rows[0]:=by
 rw [List.getD_eq_getElem?_getD,List.getElem?_eq_getElem h];rfl
set_option maxHeartbeats 4000000 in
theorem matched_to (A:Option Addr) (rows:List (List Int)) (n cA:Nat) (AW:Option Addr) (nW cW:Nat) (hn:rows.length=n) (hc:cA≤maxLen) (hnc:n≤cA) (hm:nW≤1000000) (b:Bool) (hb:fitB rows nW=b) (w:World) (hr:Kit.RowsAt w w.heap.size .i16 A rows) :
  Calls Tryz.prog 121 #[.slice A n cA,.slice AW nW cW] w fun e' w'=>e'=.returned (.bool b)∧w=w':=by
 by_cases h1:n=nW
 ·by_cases h2:1≤n
  ·by_cases h3:n≤1024
   ·subst h1
    obtain⟨b0,o0,A0,L0,c0,rfl,hb0,hc0,e0,e1,e2, -⟩:=hr.row (i:=0) (by omega)
    rw [Nat.add_zero] at hc0
    have k1:(0:Int) < (n:Int):=by omega
    have k2:¬ (n:Int) < 1:=by omega
    have k3:¬ (n:Int) > 1024:=by omega
    have HR:=Lib.hid hr
    have HN:=Lib.hid hn
    have HC:=Lib.hid hc0
    have hz0:(rows.getD 0 []).length=L0:=by rw [row0 (by omega)];exact e0
    have HZ:=Lib.hid hz0
    have HBB:=Lib.hid hb
    clear hr hn e0 e1 e2 hz0 hb
    go_enter Tryz.func121,Tryz.ntmps121
    go_wp2_with fail
    go_loopw [24] (fun u wr=>∃ k:Nat,k≤n∧u=.int .i64 k∧Hid (∀ j (hj:j < rows.length),j < k→rows[j].length=L0)∧wr=w) (fun u _=>n - (intOf u).toNat)
    case atStart=>exact⟨0,Nat.zero_le _,rfl,Lib.hid (fun j _ hj=>by omega),rfl⟩
    case round =>
     obtain⟨k,hk,rfl,HA,rfl⟩:=hrel
     by_cases hlt:k < n
     ·have hkI:(k:Int) < (n:Int):=by omega
      have hk0:(0:Int)≤(k:Int):=by omega
      obtain⟨bk,ok,Ak,Lk,ck,hA,hbk,hck,ek, -⟩:=HR.out.row (i:=k) (by have:=HN.out;omega)
      obtain⟨rfl,rfl⟩:b0=bk∧o0=ok:=by simpa using hA
      have EK:=Lib.hid ek
      have hc00:=HC.out
      clear ek hA
      by_cases h4:Lk=L0
      ·subst h4
       have HA2:Hid (∀ j (hj:j < rows.length),j < k+1→rows[j].length=Lk):=Lib.hid (fun j hj h=>by
        rcases Nat.lt_or_ge j k with h5 | h5
        ·exact HA.out j hj h5
        ·obtain rfl:j=k:=by omega
         exact EK.out)
       go_wp2_with fail
       go_roundw
       case rel=>exact⟨k+1,by omega,by go_num,HA2,by first | rfl | trivial⟩
       case measure=>simp [intOf];omega
      ·have h5:¬ (Lk:Int)=(L0:Int):=by omega
       have hf:fitB rows n=false:=fit_no (k:=k) (by have:=HN.out;omega) (by rw [EK.out,HZ.out];exact h4)
       rw [HBB.out] at hf
       subst hf
       clear h4 HBB
       go_wp2_with fail
       go_ret
       exact⟨rfl,rfl⟩
     ·obtain rfl:k=n:=by omega
      have hf:fitB rows k=true:=fit_of HN.out (by have:=HN.out;omega) (by have:=HN.out;omega) (fun j hj=>by rw [HZ.out];exact HA.out j hj (by have:=HN.out;omega))
      rw [HBB.out] at hf
      subst hf
      clear HBB
      go_wp2_with fail
      go_ret
      exact⟨rfl,rfl⟩
   ·obtain rfl:b=false:=by rw [← hb];exact fit_not (by omega)
    subst h1
    have k2:¬ (n:Int) < 1:=by omega
    have k3:(n:Int) > 1024:=by omega
    clear hr hn hb
    go_enter Tryz.func121,Tryz.ntmps121
    go_wp2_with fail
    go_ret
    exact⟨rfl,rfl⟩
  ·obtain rfl:b=false:=by rw [← hb];exact fit_not (by omega)
   subst h1
   have k2:(n:Int) < 1:=by omega
   clear hr hn hb
   go_enter Tryz.func121,Tryz.ntmps121
   go_wp2_with fail
   go_ret
   exact⟨rfl,rfl⟩
 ·obtain rfl:b=false:=by rw [← hb];exact fit_not (by omega)
  have k2:¬ (n:Int)=(nW:Int):=by omega
  clear hr hn h1 hb
  go_enter Tryz.func121,Tryz.ntmps121
  go_wp2_with fail
  go_ret
  exact⟨rfl,rfl⟩
end Go.Proofs.YtkpngknbiecdiaaGreatDoor.CWheel
end
section
namespace Go.Proofs.YtkpngknbiecdiaaGreatDoor.CLane
open Go Go.ChangeShapes Go.WideShapes Go.ChangeAt Go.RowKit
open Plain CSat CShape CTensor CConv FloatNum CFour CWheel
set_option linter.unusedVariables false
theorem psum_sumN (G:Nat→Int):∀ n,psum G n=sumN G n
 | 0=>rfl
 | n+1=>by show psum G n+G n=sumN G n+G n;rw [psum_sumN G n]
theorem sumN_add (f:Nat→Int) (n:Nat):∀ m,sumN f (n+m)=sumN f n+sumN (fun k=>f (n+k)) m
 | 0=>by simp [sumN]
 | m+1=>by
   show sumN f (n+m)+f (n+m)=sumN f n+(sumN (fun k=>f (n+k)) m+f (n+m))
   rw [sumN_add f n m];omega
theorem sumN_three (f g h:Nat→Int):∀ n,sumN (fun k=>f k+g k+h k) n=sumN f n+sumN g n+sumN h n
 | 0=>rfl
 | n+1=>by
   show sumN (fun k=>f k+g k+h k) n+(f n+g n+h n)=(sumN f n+f n)+(sumN g n+g n)+(sumN h n+h n)
   rw [sumN_three f g h n];omega
theorem sumN_zero {f:Nat→Int} {n:Nat} (h:∀ k,k < n→f k=0):sumN f n=0:=by
 rw [sumN_congr h]
 clear h
 induction n with
 | zero=>rfl
 | succ n ih=>show sumN (fun _=>0) n+0=0;rw [ih];rfl
def laneF (zs:List Int) (Z:Int) (st d pp Wn c x:Nat):Int:=if pp≤x∧x < pp+Wn then zs.getD (st+(x - pp) * d+c) 0 - Z else 0
def laneRow (zs:List Int) (Z:Int) (st d pp Wn M c:Nat):List Int:=nums (laneF zs Z st d pp Wn c) M
def laneRows (zs:List Int) (Z:Int) (st d pp Wn M k:Nat):List (List Int):=(List.range k).map (laneRow zs Z st d pp Wn M)
def lanePs (p k:Nat):List Int:=(List.range k).map (fun c=>((p+c:Nat):Int))
theorem laneRows_succ (zs:List Int) (Z:Int) (st d pp Wn M k:Nat):laneRows zs Z st d pp Wn M (k+1)=laneRows zs Z st d pp Wn M k ++ [laneRow zs Z st d pp Wn M k]:=by simp [laneRows,List.range_succ]
theorem lanePs_succ (p k:Nat):lanePs p (k+1)=lanePs p k ++ [((p+k:Nat):Int)]:=by simp [lanePs,List.range_succ]
theorem laneRows_len (zs:List Int) (Z:Int) (st d pp Wn M k:Nat):(laneRows zs Z st d pp Wn M k).length=k:=by simp [laneRows]
theorem lanePs_len (p k:Nat):(lanePs p k).length=k:=by simp [lanePs]
theorem laneRows_at (zs:List Int) (Z:Int) {st d pp Wn M k c:Nat} (h:c < k):(laneRows zs Z st d pp Wn M k).getD c []=laneRow zs Z st d pp Wn M c:=by
 rw [List.getD_eq_getElem?_getD];simp [laneRows,h]
theorem lanePs_at {p k c:Nat} (h:c < k):(lanePs p k).getD c 0=((p+c:Nat):Int):=by
 rw [List.getD_eq_getElem?_getD];simp [lanePs,h]
def rowsTo (zs:List Int) (Z H W C top:Int) (d pp Wn M:Nat):Nat→List (List Int)
 | 0=>[]
 | i+1=>rowsTo zs Z H W C top d pp Wn M i ++ (if 0≤top+(i:Int)∧top+(i:Int) < H then laneRows zs Z ((top+(i:Int)) * W * C).toNat d pp Wn M d else [])
def psTo (H top:Int) (d:Nat):Nat→List Int
 | 0=>[]
 | i+1=>psTo H top d i ++ (if 0≤top+(i:Int)∧top+(i:Int) < H then lanePs (i * 3 * d) d else [])
theorem len_to (zs:List Int) (Z H W C top:Int) (d pp Wn M:Nat):∀ i,(rowsTo zs Z H W C top d pp Wn M i).length=(psTo H top d i).length
 | 0=>rfl
 | i+1=>by
   unfold rowsTo psTo
   rw [List.length_append,List.length_append,len_to zs Z H W C top d pp Wn M i]
   split
   ·rw [laneRows_len,lanePs_len]
   ·rfl
theorem mem_rows (zs:List Int) (Z H W C top:Int) (d pp Wn M:Nat):∀ i row,row∈rowsTo zs Z H W C top d pp Wn M i→∃ st c,row=laneRow zs Z st d pp Wn M c
 | 0,row,h=>by cases h
 | i+1,row,h=>by
   unfold rowsTo at h
   rcases List.mem_append.1 h with h | h
   ·exact mem_rows zs Z H W C top d pp Wn M i row h
   ·split at h
    ·obtain⟨c,_,rfl⟩:=List.mem_map.1 h
     exact⟨_,c,rfl⟩
    ·cases h
theorem lane_in {zs:List Int} (hz:I8b zs) {Z:Int} (z1 : -128≤Z) (z2:Z≤127) (st d pp Wn c x:Nat) : -255≤laneF zs Z st d pp Wn c x∧laneF zs Z st d pp Wn c x≤255:=by
 unfold laneF
 split
 ·have:=hz (st+(x - pp) * d+c);omega
 ·omega
theorem rows_in {zs:List Int} (hz:I8b zs) {Z:Int} (z1 : -128≤Z) (z2:Z≤127) (H W C top:Int) (d pp Wn M i:Nat):∀ row∈rowsTo zs Z H W C top d pp Wn M i,∀ v∈row,(Lit.int .i16 v).wf=true:=by
 intro row hr v hv
 obtain⟨st,c,rfl⟩:=mem_rows zs Z H W C top d pp Wn M i row hr
 obtain⟨x,_,rfl⟩:=List.mem_map.1 hv
 have:=lane_in hz z1 z2 st d pp Wn c x
 exact WalkArith.wf_i16 (by omega)
theorem rows_len (zs:List Int) (Z H W C top:Int) (d pp Wn M i:Nat):∀ row∈rowsTo zs Z H W C top d pp Wn M i,row.length=M:=by
 intro row hr
 obtain⟨st,c,rfl⟩:=mem_rows zs Z H W C top d pp Wn M i row hr
 exact nums_len _ _
theorem len_if (zs:List Int) (Z H W C top:Int) (d pp Wn M i:Nat):(rowsTo zs Z H W C top d pp Wn M (i+1)).length=(rowsTo zs Z H W C top d pp Wn M i).length+(if 0≤top+(i:Int)∧top+(i:Int) < H then d else 0):=by
 show (rowsTo zs Z H W C top d pp Wn M i ++ _).length=_
 rw [List.length_append]
 split
 ·rw [laneRows_len]
 ·rfl
theorem rows_many {zs:List Int} {Z H W C top:Int} {d pp Wn M:Nat} (hs:shapeB H W C=true) (hd:C=(d:Int)) (hp:pp≤2) (t1 : -(pp:Int)≤top) (t2:top≤H+(pp:Int) - 3) :
  1≤(rowsTo zs Z H W C top d pp Wn M 3).length∧(rowsTo zs Z H W C top d pp Wn M 3).length≤1024:=by
 obtain⟨g1,g2,g3,g4,g5,g6,g7⟩:=shapeB_yes hs
 have hHC:H * (d:Int)≤1024:=by
  have h1:H * 1 * (d:Int)≤H * W * C:=by
   rw [← hd]
   exact Int.mul_le_mul_of_nonneg_right (Int.mul_le_mul_of_nonneg_left g3 (by omega)) (by omega)
  rw [Int.mul_one] at h1;omega
 have hd1:1≤d:=by omega
 rw [len_if,len_if,len_if]
 show 1≤0+_+_+_∧0+_+_+_≤1024
 rw [show (((0:Nat):Nat):Int)=0 from rfl,show (((1:Nat):Nat):Int)=1 from rfl,show (((2:Nat):Nat):Int)=2 from rfl]
 rcases (show H=1∨H=2∨3≤H by omega) with rfl | rfl | h3
 ·constructor
  ·split <;> split <;> split <;> omega
  ·split <;> split <;> split <;> omega
 ·constructor
  ·split <;> split <;> split <;> omega
  ·split <;> split <;> split <;> omega
 ·have h4:3 * (d:Int)≤H * (d:Int):=Int.mul_le_mul_of_nonneg_right h3 (by omega)
  constructor
  ·split <;> split <;> split <;> omega
  ·split <;> split <;> split <;> omega
/-! ### the sums -/
def wAt (ws:List Int) (base d:Nat) (p:Int) (j:Nat):Int:=ws.getD (base+p.toNat+j * d) 0
def Wl (ws:List Int) (base d:Nat) (ps:List Int) (k j:Nat):Int:=wAt ws base d (ps.getD k 0) j
theorem Wl_in {ws:List Int} (h:I8b ws) (base d:Nat) (ps:List Int) (k j:Nat):InW (Wl ws base d ps k j):=h _
def tot (ws:List Int) (base d:Nat) (rows:List (List Int)) (ps:List Int) (v:Nat):Int:=sumN (fun k=>slAt (XR rows k) (Wl ws base d ps k) v) rows.length
theorem tot_mn (ws:List Int) (base d:Nat) (rows:List (List Int)) (ps:List Int) (v:Nat):mnAt (XR rows) (Wl ws base d ps) rows.length v=tot ws base d rows ps v:=rfl
theorem tot_append (ws:List Int) (base d:Nat) (rows r2:List (List Int)) (ps p2:List Int) (h:rows.length=ps.length) (v:Nat):tot ws base d (rows ++ r2) (ps ++ p2) v=tot ws base d rows ps v+tot ws base d r2 p2 v:=by
 unfold tot
 rw [List.length_append,sumN_add]
 congr 1
 ·refine sumN_congr fun k hk=>?_
  have e1:XR (rows ++ r2) k=XR rows k:=by funext j;unfold XR;rw [List.getD_eq_getElem?_getD (l:=rows ++ r2),List.getElem?_append_left hk,List.getD_eq_getElem?_getD (l:=rows)]
  have e2:Wl ws base d (ps ++ p2) k=Wl ws base d ps k:=by funext j;unfold Wl;rw [List.getD_eq_getElem?_getD (l:=ps ++ p2),List.getElem?_append_left (by omega),List.getD_eq_getElem?_getD (l:=ps)]
  rw [e1,e2]
 ·refine sumN_congr fun k hk=>?_
  have e1:XR (rows ++ r2) (rows.length+k)=XR r2 k:=by funext j;unfold XR;rw [List.getD_eq_getElem?_getD (l:=rows ++ r2),List.getElem?_append_right (by omega),Nat.add_sub_cancel_left,List.getD_eq_getElem?_getD (l:=r2)]
  have e2:Wl ws base d (ps ++ p2) (rows.length+k)=Wl ws base d p2 k:=by funext j;unfold Wl;rw [List.getD_eq_getElem?_getD (l:=ps ++ p2),List.getElem?_append_right (by omega),h,Nat.add_sub_cancel_left,List.getD_eq_getElem?_getD (l:=p2)]
  rw [e1,e2]
theorem tot_nil (ws:List Int) (base d v:Nat) (ps:List Int):tot ws base d [] ps v=0:=rfl
theorem tot_lane (zs ws:List Int) (Z W C y left:Int) (o i d pp Wn M v:Nat) (hd:C=(d:Int)) (hW:W=(Wn:Int)) (hl:left=(v:Int) - (pp:Int)) (hM:M=Wn+2 * pp) (hv:v+2 < M) (y0:0≤y) (Hh:Int) (y1:y < Hh) (top:Int) (hy:top+(i:Int)=y) :
  tot ws (o * 3 * 3 * d) d (laneRows zs Z (y * W * C).toNat d pp Wn M d) (lanePs (i * 3 * d) d) v=rowF zs ws Hh W C top left d 3 o Z i:=by
 have hplace:∀ j,j < 3→sumN (fun c=>laneF zs Z (y * W * C).toNat d pp Wn c (v+j) * ws.getD (o * 3 * 3 * d+(i * 3 * d+c)+j * d) 0) d=placeF zs ws Hh W C top left d 3 o Z i j:=by
  intro j hj
  unfold placeF
  rw [hy]
  by_cases hin:0≤left+(j:Int)∧left+(j:Int) < W
  ·rw [if_pos ⟨y0,y1,hin⟩,psum_sumN]
   refine sumN_congr fun c hc=>?_
   unfold laneF termF
   rw [if_pos (by omega)]
   have hw0:0≤y * W:=Int.mul_nonneg y0 (by omega)
   have hw1:0≤y * W * C:=Int.mul_nonneg hw0 (by omega)
   have e1:((y * W+(left+(j:Int))) * C).toNat=(y * W * C).toNat+(v+j - pp) * d:=by
    have e:(y * W+(left+(j:Int))) * C=y * W * C+((((v+j - pp) * d:Nat)):Int):=by
     rw [Int.add_mul,hd,Int.natCast_mul]
     congr 2
     omega
    rw [e,Int.toNat_add hw1 (by omega)]
    rfl
   have e2:o * 3 * 3 * d+(i * 3 * d+c)+j * d=((o * 3+i) * 3+j) * d+c:=by
    rw [Nat.add_mul,Nat.add_mul,Nat.add_mul];omega
   rw [e1,e2,Int.mul_comm]
  ·rw [if_neg (by intro h;exact hin ⟨h.2.2.1,h.2.2.2⟩)]
   refine sumN_zero fun c hc=>?_
   unfold laneF
   rw [if_neg (by omega),Int.zero_mul]
 unfold tot
 rw [laneRows_len]
 have hbody:∀ c,c < d→slAt (XR (laneRows zs Z (y * W * C).toNat d pp Wn M d) c) (Wl ws (o * 3 * 3 * d) d (lanePs (i * 3 * d) d) c) v =
   laneF zs Z (y * W * C).toNat d pp Wn c (v+0) * ws.getD (o * 3 * 3 * d+(i * 3 * d+c)+0 * d) 0+laneF zs Z (y * W * C).toNat d pp Wn c (v+1) * ws.getD (o * 3 * 3 * d+(i * 3 * d+c)+1 * d) 0+laneF zs Z (y * W * C).toNat d pp Wn c (v+2) * ws.getD (o * 3 * 3 * d+(i * 3 * d+c)+2 * d) 0:=by
  intro c hc
  have e:∀ j,v+j < M→XR (laneRows zs Z (y * W * C).toNat d pp Wn M d) c (v+j)=laneF zs Z (y * W * C).toNat d pp Wn c (v+j):=fun j hj=>by
   unfold XR;rw [laneRows_at zs Z hc];exact nums_getD _ hj
  have f:∀ j,Wl ws (o * 3 * 3 * d) d (lanePs (i * 3 * d) d) c j=ws.getD (o * 3 * 3 * d+(i * 3 * d+c)+j * d) 0:=fun j=>by
   unfold Wl wAt;rw [lanePs_at hc];rfl
  unfold slAt
  rw [f,f,f,e 1 (by omega),e 2 (by omega)]
  have e0:=e 0 (by omega)
  rw [Nat.add_zero] at e0
  rw [e0]
  rfl
 rw [sumN_congr hbody,sumN_three,hplace 0 (by omega),hplace 1 (by omega),hplace 2 (by omega)]
 unfold rowF
 show _=(0+_+_+_:Int)
 rw [Int.zero_add]
theorem row_out (zs ws:List Int) (Z W C left H:Int) (o i d:Nat) (top:Int) (h:¬ (0≤top+(i:Int)∧top+(i:Int) < H)):rowF zs ws H W C top left d 3 o Z i=0:=by
 unfold rowF
 rw [psum_sumN]
 refine sumN_zero fun j hj=>?_
 unfold placeF
 rw [if_neg (by intro h';exact h ⟨h'.1,h'.2.1⟩)]
theorem lane_win (zs ws:List Int) (Z H W C top left:Int) (o d pp Wn M v:Nat) (hd:C=(d:Int)) (hW:W=(Wn:Int)) (hl:left=(v:Int) - (pp:Int)) (hM:M=Wn+2 * pp) (hv:v+2 < M) :
  ∀ i,tot ws (o * 3 * 3 * d) d (rowsTo zs Z H W C top d pp Wn M i) (psTo H top d i) v=psum (rowF zs ws H W C top left d 3 o Z) i
 | 0=>rfl
 | i+1=>by
   unfold rowsTo psTo
   rw [tot_append _ _ _ _ _ _ _ (len_to zs Z H W C top d pp Wn M i),lane_win zs ws Z H W C top left o d pp Wn M v hd hW hl hM hv i]
   show _=psum (rowF zs ws H W C top left d 3 o Z) i+rowF zs ws H W C top left d 3 o Z i
   congr 1
   split
   ·rename_i h
    exact tot_lane zs ws Z W C (top+(i:Int)) left o i d pp Wn M v hd hW hl hM hv h.1 H h.2 top rfl
   ·rename_i h
    rw [tot_nil,row_out zs ws Z W C left H o i d top h]
end Go.Proofs.YtkpngknbiecdiaaGreatDoor.CLane
end
section
namespace Go.Proofs.YtkpngknbiecdiaaGreatDoor.CLane
open Go Go.ChangeShapes Go.WideShapes Go.ChangeAt Go.RowKit
open Plain CSat CShape CTensor CConv FloatNum CFour CWheel
set_option linter.unusedVariables false
abbrev I16w (zs:List Int):List Value:=zs.map (.int .i16)
theorem rd_block {w w':World} {g:Nat} {xs:List Value} (h:Kit.Rd w (g+1) (some ⟨g,0,none⟩) xs) (hb:w'.heap[g]?=w.heap[g]?):Kit.Rd w' (g+1) (some ⟨g,0,none⟩) xs:=fun j u hu=>by
 obtain⟨ad,e,hlt,hc⟩:=h j u hu
 refine⟨ad,e,hlt,?_⟩
 cases e
 have:((⟨g,0,none⟩:Addr).add j).block=g:=Kit.add_block _ _
 have hb':w'.heap[((⟨g,0,none⟩:Addr).add j).block]?=w.heap[((⟨g,0,none⟩:Addr).add j).block]?:=by rw [this];exact hb
 exact (World.cell?_of_block hb').trans hc
theorem grown_setCell (w:World) (p:Addr) (v:Value):w.grownBy (w.setCell p v) (some p.block) :=
 ⟨rfl,rfl,rfl,by simp,fun k _ hk=>Below.heap_setCell _ _ _ k (fun e=>hk (by rw [e]))⟩
def LanesV (B0:Nat) (ok:Nat→Prop) (M:Nat) (v1 v2:Value) (vs:List Value) (rows:List (List Int)) (ps:List Int) (w:World):Prop :=
 vs.length=rows.length∧w.ownsRow B0 114 1 v1 rows.length vs∧w.ownsRow B0 3 1 v2 ps.length (I64v ps) ∧
 (∀ g,v1.ownBlock=some g→ok g∧v2.ownBlock≠some g)∧(∀ g,v2.ownBlock=some g→ok g) ∧
 ∀ (i:Nat) (row:List Int),rows[i]?=some row→∃ g,vs[i]?=some (.slice (some ⟨g,0,none⟩) M M)∧row.length=M∧ok g∧g < w.heap.size∧v1.ownBlock≠some g∧v2.ownBlock≠some g∧Kit.Rd w (g+1) (some ⟨g,0,none⟩) (I16w row)
def LanesAt (B0:Nat) (ok:Nat→Prop) (M:Nat) (v1 v2:Value) (rows:List (List Int)) (ps:List Int) (w:World):Prop:=∃ vs,LanesV B0 ok M v1 v2 vs rows ps w
section
variable {B0:Nat} {ok:Nat→Prop} {M:Nat} {v1 v2:Value} {vs:List Value} {rows:List (List Int)} {ps:List Int} {w w':World}
theorem LanesV.start (B0:Nat) (ok:Nat→Prop) (M:Nat) (w:World):LanesV B0 ok M (.slice none 0 0) (.slice none 0 0) [] [] [] w:=by
 refine⟨rfl,own_nil _ _ _ _,own_nil _ _ _ _,fun g h=>?_,fun g h=>?_,fun i row h=>?_⟩
 ·exact absurd h (by simp [Value.ownBlock])
 ·exact absurd h (by simp [Value.ownBlock])
 ·simp at h
theorem LanesV.grown (h:LanesV B0 ok M v1 v2 vs rows ps w) {r:Option Nat} (hg:w.grownBy w' r) (h1:∀ g,r=some g→v1.ownBlock≠some g∧v2.ownBlock≠some g∧¬ (∃ (i:Nat),vs[i]?=some (.slice (some ⟨g,0,none⟩) M M))):LanesV B0 ok M v1 v2 vs rows ps w':=by
 obtain⟨a,b,c,d,e,f⟩:=h
 have ne:∀ v:Value,(∀ g,r=some g→v.ownBlock≠some g)→v.ownBlock=none∨v.ownBlock≠r:=fun v hv=>by
  cases hr:r with
  | none=>cases hb:v.ownBlock with
    | none=>exact .inl rfl
    | some g=>exact .inr (by simp)
  | some g=>exact .inr (hv g hr)
 refine⟨a,b.kept hg (ne v1 fun g hr=>(h1 g hr).1),c.kept hg (ne v2 fun g hr=>(h1 g hr).2.1),d,e,fun i row hi=>?_⟩
 obtain⟨g,f1,f2,f3,f4,f5,f6,f7⟩:=f i row hi
 exact⟨g,f1,f2,f3,Nat.lt_of_lt_of_le f4 hg.size,f5,f6,rd_block f7 (hg.block g f4 (fun e=>(h1 g e.symm).2.2 ⟨i,f1⟩))⟩
theorem LanesV.below (h:LanesV B0 ok M v1 v2 vs rows ps w) (hb:Below w.heap.size w w'):LanesV B0 ok M v1 v2 vs rows ps w' :=
 h.grown (r:=none) ⟨hb.os,hb.tape,hb.output,hb.size,fun k hk _=>hb.block k hk⟩ (fun g e=>by cases e)
theorem LanesV.set (h:LanesV B0 ok M v1 v2 vs rows ps w) {p:Addr} (hp:¬ ok p.block) (v:Value):LanesV B0 ok M v1 v2 vs rows ps (w.setCell p v):=by
 refine h.grown (grown_setCell w p v) (fun g e=>?_)
 obtain rfl:p.block=g:=Option.some.inj e
 refine⟨fun e1=>hp (h.2.2.2.1 _ e1).1,fun e2=>hp (h.2.2.2.2.1 _ e2),fun⟨i,hi⟩=>?_⟩
 have hlt:i < rows.length:=by rw [← h.1];exact (List.getElem?_eq_some_iff.1 hi).1
 obtain⟨g',f1,_,f3,_⟩:=h.2.2.2.2.2 i _ (List.getElem?_eq_getElem hlt)
 rw [hi] at f1
 simp at f1
 exact hp (f1 ▸ f3)
theorem own_block_lt {e:TypeId} {size n:Nat} {v:Value} {xs:List Value} (h:w.ownsRow B0 e size v n xs) {g:Nat} (hg:v.ownBlock=some g):g < w.heap.size:=by
 rcases h.2 with ⟨rfl,_⟩ | ⟨g',cap,cur,rfl,_,hh,_⟩
 ·cases hg
 ·obtain rfl:g'=g:=Option.some.inj hg
  rcases Nat.lt_or_ge g' w.heap.size with h | h
  ·exact h
  ·rw [Array.getElem?_eq_none h] at hh;cases hh
theorem LanesV.push1 (h:LanesV B0 ok M v1 v2 vs rows ps w) {v1':Value} {gr:Nat} {row:List Int} (hl:row.length=M) (hok:ok gr) (hlt:gr < w.heap.size) (n1:v1.ownBlock≠some gr) (n2:v2.ownBlock≠some gr) (hrd:Kit.Rd w (gr+1) (some ⟨gr,0,none⟩) (I16w row))
  (ho:w'.ownsRow B0 114 1 v1' (rows.length+1) (vs ++ [.slice (some ⟨gr,0,none⟩) M M])) (hg:w.grownBy w' v1.ownBlock) (hat:v1'.ownBlock=v1.ownBlock∨v1'.ownBlock=some w.heap.size) (hos:ok w.heap.size) :
  LanesV B0 ok M v1' v2 (vs ++ [.slice (some ⟨gr,0,none⟩) M M]) (rows ++ [row]) ps w':=by
 obtain⟨a,b,c,d,e,f⟩:=h
 have hv2:∀ g,v2.ownBlock=some g→g < w.heap.size:=fun g hg2=>own_block_lt c hg2
 have hv2n:v2.ownBlock=none∨v2.ownBlock≠v1.ownBlock:=by
  cases hb:v1.ownBlock with
  | none=>cases hb2:v2.ownBlock with
    | none=>exact .inl rfl
    | some g=>exact .inr (by simp)
  | some g=>exact .inr (d g hb).2
 have hne:∀ g,g < w.heap.size→v1.ownBlock≠some g→v1'.ownBlock≠some g:=fun g hlt2 h1 e1=>by
  rcases hat with h2 | h2
  ·exact h1 (h2 ▸ e1)
  ·rw [h2] at e1;have:=Option.some.inj e1;omega
 refine⟨by simp [a],by simpa using ho,c.kept hg hv2n,fun g hg1=>?_,e,fun i r hi=>?_⟩
 ·rcases hat with h2 | h2
  ·rw [h2] at hg1;exact d g hg1
  ·rw [h2] at hg1
   obtain rfl:w.heap.size=g:=Option.some.inj hg1
   exact⟨hos,fun e2=>absurd (hv2 _ e2) (Nat.lt_irrefl _)⟩
 ·rcases Nat.lt_or_ge i rows.length with hi2 | hi2
  ·rw [List.getElem?_append_left hi2] at hi
   obtain⟨g,f1,f2,f3,f4,f5,f6,f7⟩:=f i r hi
   exact⟨g,by rw [List.getElem?_append_left (by omega)];exact f1,f2,f3,Nat.lt_of_lt_of_le f4 hg.size,hne g f4 f5,f6,rd_block f7 (hg.block g f4 (fun e=>f5 e.symm))⟩
  ·rw [List.getElem?_append_right hi2] at hi
   have hi3:i - rows.length=0:=by
    rcases Nat.lt_or_ge (i - rows.length) 1 with h8 | h8
    ·omega
    ·rw [List.getElem?_eq_none (by simpa using h8)] at hi;cases hi
   rw [hi3] at hi
   obtain rfl:row=r:=by simpa using hi
   exact⟨gr,by rw [List.getElem?_append_right (by omega),show i - vs.length=0 by omega];rfl,hl,hok,Nat.lt_of_lt_of_le hlt hg.size,hne gr hlt n1,n2,rd_block hrd (hg.block gr hlt (fun e=>n1 e.symm))⟩
theorem LanesV.push2 (h:LanesV B0 ok M v1 v2 vs rows ps w) {v2':Value} {p:Int}
  (ho:w'.ownsRow B0 3 1 v2' (ps.length+1) (I64v ps ++ [.int .i64 p])) (hg:w.grownBy w' v2.ownBlock) (hat:v2'.ownBlock=v2.ownBlock∨v2'.ownBlock=some w.heap.size) (hos:ok w.heap.size) :
  LanesV B0 ok M v1 v2' vs rows (ps ++ [p]) w':=by
 obtain⟨a,b,c,d,e,f⟩:=h
 have hv1:∀ g,v1.ownBlock=some g→g < w.heap.size:=fun g hg2=>own_block_lt b hg2
 have hv1n:v1.ownBlock=none∨v1.ownBlock≠v2.ownBlock:=by
  cases hb:v1.ownBlock with
  | none=>exact .inl rfl
  | some g=>exact .inr (fun e2=>(d g hb).2 e2.symm)
 have hne:∀ g,g < w.heap.size→v2.ownBlock≠some g→v2'.ownBlock≠some g:=fun g hlt2 h1 e1=>by
  rcases hat with h2 | h2
  ·exact h1 (h2 ▸ e1)
  ·rw [h2] at e1;have:=Option.some.inj e1;omega
 refine⟨a,b.kept hg hv1n,?_,fun g hg1=>⟨(d g hg1).1,hne g (hv1 g hg1) (d g hg1).2⟩,fun g hg1=>?_,fun i r hi=>?_⟩
 ·have e9:I64v (ps ++ [p])=I64v ps ++ [.int .i64 p]:=by show (ps ++ [p]).map _=_;rw [List.map_append];rfl
  rw [e9,List.length_append];exact ho
 ·rcases hat with h2 | h2
  ·rw [h2] at hg1;exact e g hg1
  ·rw [h2] at hg1
   obtain rfl:w.heap.size=g:=Option.some.inj hg1
   exact hos
 ·obtain⟨g,f1,f2,f3,f4,f5,f6,f7⟩:=f i r hi
  exact⟨g,f1,f2,f3,Nat.lt_of_lt_of_le f4 hg.size,f5,hne g f4 f6,rd_block f7 (hg.block g f4 (fun e=>f6 e.symm))⟩
theorem LanesV.rowsAt (h:LanesV B0 ok M v1 v2 vs rows ps w) (hM:M≤maxLen):∃ A c,v1=.slice A rows.length c∧rows.length≤c∧c≤maxLen∧Kit.RowsAt w w.heap.size .i16 A rows:=by
 obtain⟨a,b,c,d,e,f⟩:=h
 obtain⟨A,cp,rfl,h1,h2,h3⟩:=Kit.own_rd b
 refine⟨A,cp,rfl,h1,h2,vs,a,h3,fun i row hi=>?_⟩
 obtain⟨g,f1,f2,f3,f4,_,_,f7⟩:=f i row hi
 exact⟨_,M,M,f2,f1,Nat.le_refl _,hM,f7.more f4⟩
theorem LanesV.weaken (h:LanesV B0 ok M v1 v2 vs rows ps w) {ok':Nat→Prop} (hk:∀ g,g < w.heap.size→ok g→ok' g):LanesV B0 ok' M v1 v2 vs rows ps w:=by
 obtain⟨a,b,c,d,e,f⟩:=h
 refine⟨a,b,c,fun g hg=>⟨hk g (own_block_lt b hg) (d g hg).1,(d g hg).2⟩,fun g hg=>hk g (own_block_lt c hg) (e g hg),fun i row hi=>?_⟩
 obtain⟨g,f1,f2,f3,f4,f5,f6,f7⟩:=f i row hi
 exact⟨g,f1,f2,hk g f4 f3,f4,f5,f6,f7⟩
end
end Go.Proofs.YtkpngknbiecdiaaGreatDoor.CLane
end
section
namespace Go.Proofs.YtkpngknbiecdiaaGreatDoor.CWheel
open Go Go.ChangeShapes Go.WideShapes Go.ChangeAt Go.RowKit
open FloatNum CFour
set_option linter.unusedVariables false
def manyN (rows:List (List Int)) (nW:Nat):Nat:=if fitB rows nW=true then (rows.getD 0 []).length - 2 else 0
theorem many_to (A:Option Addr) (rows:List (List Int)) (n cA:Nat) (AW:Option Addr) (nW cW:Nat) (W:Nat→Nat→Int) (m:Nat) (hn:rows.length=n) (hc:cA≤maxLen) (hnc:n≤cA) (hnW:nW≤1000000) (hL6:∀ row∈rows,row.length≤1000000) (hm:m=manyN rows nW)
  (hX:∀ k i,In16 (XR rows k i)) (hW:∀ k i,InW (W k i)) (F:Nat→Int) (hF:F=mnAt (XR rows) W n) (w:World) (hr:Kit.RowsAt w w.heap.size .i16 A rows) (hw:Wts w w.heap.size AW nW W) :
  Calls Tryz.prog 82 #[.slice A n cA,.slice AW nW cW] w (Own64 w m (nums F m)):=by
 have HR:=Lib.hid hr
 have HWT:=Lib.hid hw
 have HX:=Lib.hid hX
 have HW:=Lib.hid hW
 have HF:=Lib.hid hF
 have HL6:=Lib.hid hL6
 have HN:=Lib.hid hn
 cases hb:fitB rows nW
 ·obtain rfl:m=0:=by rw [hm];unfold manyN;rw [hb];rfl
  have HB:=Lib.hid hb
  clear hr hw hX hW hF hL6 hn hb hm
  go_enter Tryz.func82,Tryz.ntmps82
  go_wp2_with (go_at_call 121;refine (matched_to A rows n cA AW nW cW HN.out hc hnc hnW false HB.out _ HR.out).mono ?_;rintro e w2 ⟨rfl,rfl⟩)
  go_ret
  exact⟨_,rfl,own_nil _ _ _ _,Below.refl _ _⟩
 ·obtain⟨g1,g2,g3,g4⟩:=fit_yes hb
  have hm2:m=(rows.getD 0 []).length - 2:=by rw [hm];unfold manyN;rw [if_pos hb]
  obtain rfl:nW=n:=by omega
  have h1:1≤nW:=by omega
  have hN:nW≤1024:=by omega
  have hL:(rows.getD 0 []).length≤1000000:=by rw [row0 (by omega)];exact hL6 _ (List.getElem_mem _)
  have HB:=Lib.hid hb
  have HG:=Lib.hid g4
  have HM:=Lib.hid hm2
  have HLL:=Lib.hid hL
  clear hr hw hX hW hF hL6 hn hb hm g1 g2 g3 g4 hm2 hL
  go_enter Tryz.func82,Tryz.ntmps82
  go_wp2_with (first
   | (go_at_call 121;refine (matched_to A rows nW cA AW nW cW HN.out hc hnc hnW true HB.out _ HR.out).mono ?_;rintro e w2 ⟨rfl,rfl⟩)
   | (go_at_call 122;refine (added_to A rows nW cA AW cW W _ m HN.out h1 hN HG.out HM.out HLL.out HX.out HW.out F HF.out _ HR.out HWT.out).mono ?_;rintro e w3' ⟨v,rfl,hown,hbb⟩;have HO:=Lib.hid hown;have HBB:=Lib.hid hbb;clear hown hbb))
  go_ret
  exact⟨v,rfl,HO.out,HBB.out⟩
end Go.Proofs.YtkpngknbiecdiaaGreatDoor.CWheel
end
section
namespace Go.Proofs.YtkpngknbiecdiaaGreatDoor.Round
open Go
set_option linter.unusedVariables false
section
variable {F:Fence} {n:Nat} {P:Program} {ops:Array Oper} {Q:Exit→Act→World→Prop} {md:Region.Mode}
def Norm (Q:Exit→Act→World→Prop):Exit→Act→World→Prop
 | .normal,a,w=>Q .normal a w
 | _,_,_=>False
def Calm:Result Next→Prop
 | .ok (.enter _ _) _=>False
 | .ok (.row _ _) _=>False
 | .ok (.round _ _ _ _ _) _=>False
 | _=>True
def Still (F:Fence) (P:Program) (o:Oper):Prop :=
 (∀ c,o.op≠.defer c)∧∀ (ρ:Operand→Value) (w:World),(∀ f,o.about P w ρ=some f→F.fn f)∧Calm ((execOp ρ o).run P w)
theorem wpAnyIn_of_plain (hst:∀ (i:Nat) (o:Oper),ops[i]?=some o→Still F P o):∀ (fuel:Nat) (listed:Array Bool) (a:Act) (w:World),
  wpAny P md ops (Norm Q) fuel listed a w→wpAnyIn F n P md ops Q fuel listed a w
 | 0,_,_,_,h=>h
 | fuel+1,listed,a,w,h=>by
   refine⟨h.1,fun i hi=>?_⟩
   have hop:=h.2 i hi
   unfold wpOp at hop
   unfold wpOpIn
   cases ho:ops[i]? with
   | none =>
     simp only [ho] at hop
     exact wpAnyIn_of_plain hst fuel _ _ _ hop
   | some o =>
     simp only [ho] at hop
     obtain⟨h1,h2⟩:=hst i o ho
     obtain⟨h3,h4⟩:=h2 a.eval w
     by_cases hw:Region.wanted o (yielded ops a.tmps)=true
     ·simp only [hw,if_true] at hop ⊢
      rcases hop with hop | ⟨_,_,_,hF⟩
      ·refine⟨h3,?_⟩
       rw [Oper.semAt_eq _ _ _ h1]
       unfold Oper.wp at hop
       generalize (execOp a.eval o).run P w=r at hop h4
       cases r with
       | ok x w' =>
         cases x <;> first
          | exact wpAnyIn_of_plain hst fuel _ _ _ hop
          | exact h4.elim
          | exact (hop:False).elim
       | halt x w' =>
         cases x <;> first | exact hop.elim | exact (hop:False).elim
      ·exact hF.elim
     ·simp only [hw,if_false,Bool.false_eq_true] at hop ⊢
      exact⟨h3,wpAnyIn_of_plain hst fuel _ _ _ hop⟩
theorem region_round {id:Nat} {a:Act} {w:World} (hm:P.follows .mixedOrders=true) (hst:∀ (i:Nat) (o:Oper),ops[i]?=some o→Still F P o)
  (h:wpAny P .any ops (Norm Q) ops.size (Array.replicate ops.size false) a w.drew):(Code.region id ops true).wpIn F n P Q a w :=
 wpIn_region_any hm (wpAnyIn_of_plain hst _ _ _ _ h)
theorem calm_value (s:Sem Value) (w:World):Calm ((do pure (.value (← s)):Sem Next).run P w):=by
 rw [Sem.run_bind]
 cases s.run P w with
 | ok x w'=>trivial
 | halt x w'=>trivial
theorem calm_then (r:Result Value):Calm (r.andThen fun a w'=>Result.ok (Next.value a) w'):=by
 cases r with
 | ok x w'=>trivial
 | halt x w'=>trivial
theorem still_of_list {l:List Oper} (h:∀ o∈l,Still F P o):∀ (i:Nat) (o:Oper),l.toArray[i]?=some o→Still F P o:=fun i o ho =>
 h o (List.mem_of_getElem? (by simpa using ho))
theorem still_move (d:Option Tmp) (x:Operand) (t:TypeId) (p:String) (e:Array Edge) (g:Option (Nat × Bool)):Still F P { dst:=d,op:=.move x,type:=t,pos:=p,after:=e,guard:=g } :=
 ⟨(fun c h=>by cases h),fun ρ w=>⟨fun f h=>by simp [Oper.about] at h,trivial⟩⟩
theorem still_assign (d:Option Tmp) (x:Operand) (t:TypeId) (p:String) (e:Array Edge) (g:Option (Nat × Bool)):Still F P { dst:=d,op:=.assign x,type:=t,pos:=p,after:=e,guard:=g } :=
 ⟨(fun c h=>by cases h),fun ρ w=>⟨fun f h=>by simp [Oper.about] at h,trivial⟩⟩
theorem still_load (d:Option Tmp) (T:TypeId) (x:Operand) (t:TypeId) (p:String) (e:Array Edge) (g:Option (Nat × Bool)):Still F P { dst:=d,op:=.load T x,type:=t,pos:=p,after:=e,guard:=g } :=
 ⟨(fun c h=>by cases h),fun ρ w=>⟨fun f h=>by simp [Oper.about] at h,calm_value _ w⟩⟩
theorem still_builtin_min (d:Option Tmp) (xs:Array Operand) (ts:Array TypeId) (t:TypeId) (p:String) (e:Array Edge) (g:Option (Nat × Bool)):Still F P { dst:=d,op:=.call { callee:=.builtin .min,args:=xs,argTypes:=ts },type:=t,pos:=p,after:=e,guard:=g } :=
 ⟨(fun c h => by cases h), fun ρ w => ⟨fun f h => by simp [Oper.about, resolve, go_sem] at h, by
   simp only [execOp,resolve,invoke,builtin,Sem.run_bind,Sem.run_pure,Result.andThen_ok]
   exact calm_then _⟩⟩
end
end Go.Proofs.YtkpngknbiecdiaaGreatDoor.Round
end
