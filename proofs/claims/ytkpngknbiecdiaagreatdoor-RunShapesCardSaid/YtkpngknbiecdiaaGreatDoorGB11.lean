/- Texts of this seat, one behind the other: ConvOf, WheelRows, PatchHelp, PatchVisit. -/
import Derived.Laws.MakeOwn
import Derived.Laws.CopyOwn
import Derived.BigQuiet
import Derived.Test.YtkpngknbiecdiaaGreatDoorGB5
import Derived.Test.YtkpngknbiecdiaaGreatDoorGB10
section
namespace Go.Proofs.YtkpngknbiecdiaaGreatDoor.CConv
open Go Go.ChangeShapes Go.WideShapes Go.ChangeAt Go.RowKit
open Plain CSat CShape CTensor
set_option linter.unusedVariables false
theorem info_i32:(Tryz.prog.info? 21).map (fun i=>(i.zero,i.size,i.bytes))=some (some (.int .i32 0),1,4):=by kernel_rfl
theorem info_parts32 {P:Program} {t:TypeId} {z:Option Value} {s b:Nat} (h:(P.info? t).map (fun i=>(i.zero,i.size,i.bytes))=some (z,s,b)):∃ i,P.info? t=some i∧i.zero=z∧i.size=s∧i.bytes=b:=by
 cases hi:P.info? t with
 | none=>rw [hi] at h;cases h
 | some i=>rw [hi] at h;simp at h;exact⟨i,rfl,h.1,h.2.1,h.2.2⟩
def I32v (zs:List Int):List Value:=zs.map (.int .i32)
def rowL (F:Nat→Int) (k:Nat):List Int:=(List.range k).map F
theorem rowL_len (F:Nat→Int) (k:Nat):(rowL F k).length=k:=by simp [rowL]
theorem rowL_succ (F:Nat→Int) (k:Nat) (x:Int) (h:F k=x):I32v (rowL F k) ++ [.int .i32 x]=I32v (rowL F (k+1)):=by
 simp [I32v,rowL,List.range_succ,h]
def gridF (b d:Nat) (G:Nat→Nat→Nat→Int) (i:Nat):Int:=G (i / d / b) (i / d % b) (i % d)
theorem grid_at (b d:Nat) (G:Nat→Nat→Nat→Int) {i j k:Nat} (hj:j < b) (hk:k < d):gridF b d G ((i * b+j) * d+k)=G i j k:=by
 unfold gridF
 have h1:((i * b+j) * d+k) / d=i * b+j:=by rw [Nat.mul_comm,Nat.mul_add_div (by omega),Nat.div_eq_of_lt hk];rfl
 have h2:((i * b+j) * d+k) % d=k:=by rw [Nat.mul_comm,Nat.mul_add_mod,Nat.mod_eq_of_lt hk]
 have h3:(i * b+j) / b=i:=by rw [Nat.mul_comm,Nat.mul_add_div (by omega),Nat.div_eq_of_lt hj];rfl
 have h4:(i * b+j) % b=j:=by rw [Nat.mul_comm,Nat.mul_add_mod,Nat.mod_eq_of_lt hj]
 rw [h1,h2,h3,h4]
theorem at_lt {a b d i j k:Nat} (hi:i < a) (hj:j < b) (hk:k < d):(i * b+j) * d+k < a * b * d:=by
 have e1:(i+1) * b≤a * b:=Nat.mul_le_mul_right _ hi
 have e2:(i * b+j+1) * d≤a * b * d:=Nat.mul_le_mul_right _ (by rw [Nat.add_mul,Nat.one_mul] at e1;omega)
 rw [Nat.add_mul _ 1 d,Nat.one_mul] at e2
 omega
def sumF (zs ws bs:List Int) (H W C S P:Int) (d kk:Nat) (Z:Int) (h v o:Nat):Int :=
 IntKind.i32.wrap (bs.getD o 0+winF zs ws H W C ((h:Int) * S - P) ((v:Int) * S - P) d kk o Z)
def MadeA (w:World) (H W C:Int) (n:Nat) (zs:List Int) (x:Value) (e:Ending) (w':World):Prop :=
 ∃ v,e=.returned (.tuple #[.agg #[.int .i64 H,.int .i64 W,.int .i64 C,v],x])∧w'.ownsRow w.heap.size 21 1 v n (I32v zs)∧Below w.heap.size w w'
def ShapeAt (B:Nat) (H W C:Int) (wd:World):Prop :=
 wd.cell? ⟨B,0,none⟩=some (.int .i64 H)∧wd.cell? ⟨B,1,none⟩=some (.int .i64 W)∧wd.cell? ⟨B,2,none⟩=some (.int .i64 C)
theorem ShapeAt.below {B B':Nat} {H W C:Int} {w w':World} (h:ShapeAt B H W C w) (hB:B < B') (hb:Below B' w w'):ShapeAt B H W C w' :=
 ⟨(hb.cell (p:=⟨B,0,none⟩) hB).trans h.1,(hb.cell (p:=⟨B,1,none⟩) hB).trans h.2.1,(hb.cell (p:=⟨B,2,none⟩) hB).trans h.2.2⟩
theorem freshNew (T:TypeId) (w:World):FreshT w.heap.size (w.alloc (.cells #[.int .i64 0,.int .i64 0,.int .i64 0,.slice none 0 0] T)):=FreshT.new T w _ rfl
theorem shapeNew (H W C:Int) (T:TypeId) (w:World):ShapeAt w.heap.size H W C (w.alloc (.cells #[.int .i64 H,.int .i64 W,.int .i64 C] T)):=⟨Kit.new_cell _ _ _ _,Kit.new_cell _ _ _ _,Kit.new_cell _ _ _ _⟩
theorem convE_ok {H W C K S P O:Int} {nW nB:Nat} (h:convE H W C K S P O nW nB=0):slideE H W C K S P O=0∧(nW:Int)=O * K * K * C∧nW≤16384∧(nB:Int)=O:=by
 unfold convE at h
 by_cases h1:slideE H W C K S P O≠0
 ·rw [if_pos h1] at h;exact absurd h h1
 ·rw [if_neg h1] at h
  by_cases h2:(nW:Int)=O * K * K * C∧nW≤16384∧(nB:Int)=O
  ·exact⟨by omega,h2⟩
  ·rw [if_neg h2] at h;omega
def OfAt (w:World) (H W C:Int) (A:Option Addr) (n c:Nat) (x0 x1 x2 x8 x11 x12 x13 x14 x15 x16 x17 x18:Value) (K S P O Z:Int) (WA BA:Option Addr) (nW cW nB cB:Nat) (X Y U:Int) (g6:Nat) (wr:World):Prop :=
 BoxAt w.heap.size H W C A n c wr∧NodeAt (w.heap.size+1) x0 x1 x2 x8 x11 x12 x13 x14 x15 x16 x17 x18 K S P O Z WA BA nW cW nB cB wr∧FreshT (w.heap.size+2) wr∧ShapeAt g6 X Y U wr∧Below w.heap.size w wr∧g6+1≤wr.heap.size
theorem OfAt.below {w:World} {H W C:Int} {A:Option Addr} {n c:Nat} {x0 x1 x2 x8 x11 x12 x13 x14 x15 x16 x17 x18:Value} {K S P O Z:Int} {WA BA:Option Addr} {nW cW nB cB:Nat} {X Y U:Int} {g6:Nat} {w1 w2:World} {B':Nat} (h:OfAt w H W C A n c x0 x1 x2 x8 x11 x12 x13 x14 x15 x16 x17 x18 K S P O Z WA BA nW cW nB cB X Y U g6 w1) (h6:w.heap.size+3≤g6) (hB:g6 < B') (hb:Below B' w1 w2):OfAt w H W C A n c x0 x1 x2 x8 x11 x12 x13 x14 x15 x16 x17 x18 K S P O Z WA BA nW cW nB cB X Y U g6 w2:=by
 obtain⟨a1,a2,a3,a4,a5,a6⟩:=h
 exact⟨a1.below (by omega) hb,a2.below (by omega) hb,a3.below (by omega) hb,a4.below hB hb,a5.trans (hb.mono (by omega)),Nat.le_trans a6 hb.size⟩
theorem own_set4 {w:World} {base g:Nat} {e:TypeId} {size n:Nat} {v:Value} {xs:List Value} {x y z u:Value} (h:w.ownsRow base e size v n xs) (hg:g < base):((((w.setCell ⟨g,0,none⟩ x).setCell ⟨g,1,none⟩ y).setCell ⟨g,2,none⟩ z).setCell ⟨g,3,none⟩ u).ownsRow base e size v n xs :=
 own_set (own_set (own_set (own_set h _ _ hg) _ _ hg) _ _ hg) _ _ hg
end Go.Proofs.YtkpngknbiecdiaaGreatDoor.CConv
end
section
namespace Go.Proofs.YtkpngknbiecdiaaGreatDoor.CWheel
open Go Go.ChangeShapes Go.WideShapes Go.ChangeAt Go.RowKit
open FloatNum CFour
set_option linter.unusedVariables false
theorem in16 {n:Int} (h:(Lit.int .i16 n).wf=true):In16 n:=by
 have : -32768≤n∧n≤32767:=by simpa [Lit.wf,IntKind.min,IntKind.max,IntKind.signed,IntKind.bits] using h
 exact this
def XR (rows:List (List Int)) (k i:Nat):Int:=(rows.getD k []).getD i 0
theorem XR_at {rows:List (List Int)} {k:Nat} (hk:k < rows.length) (i:Nat):XR rows k i=rows[k].getD i 0:=by
 unfold XR
 rw [List.getD_eq_getElem?_getD (l:=rows),List.getElem?_eq_getElem hk];rfl
theorem XR_in {rows:List (List Int)} (h:∀ row∈rows,∀ n∈row,(Lit.int .i16 n).wf=true) (k i:Nat):In16 (XR rows k i):=by
 have h0:In16 0:=by unfold In16;omega
 unfold XR
 rw [List.getD_eq_getElem?_getD (l:=rows)]
 cases hr:rows[k]? with
 | none=>simp;exact h0
 | some row =>
   rw [Option.getD_some,List.getD_eq_getElem?_getD]
   cases hz:row[i]? with
   | none=>exact h0
   | some z =>
     have:=h row (List.mem_of_getElem? hr) z (List.mem_of_getElem? hz)
     rw [Option.getD_some]
     exact in16 this
def Wts (w:World) (B:Nat) (A:Option Addr) (n:Nat) (W:Nat→Nat→Int):Prop :=
 ∀ k,k < n→∃ b o,A=some ⟨b,o,none⟩∧b < B∧w.rangeAt b (o+k * 3) [.int .i8 (W k 0),.int .i8 (W k 1),.int .i8 (W k 2)]
theorem range_below {w w':World} {B b o:Nat} {vs:List Value} (h:w.rangeAt b o vs) (hb:Below B w w') (hB:b < B):w'.rangeAt b o vs:=fun j v hj=>by
 rw [hb.cell (p:=⟨b,o+j,none⟩) hB];exact h j v hj
def Wheels (w:World) (B:Nat) (A:Option Addr) (n:Nat) (W:Nat→Nat→Int):Prop :=
 ∀ k,k < n→∃ (b o:Nat) (S:Nat→Value),A=some ⟨b,o,none⟩∧b < B∧(∀ i,i < 4→IsC (S i) (wh4 (W k 0) 0 (W k 2) (W k 1) i))∧w.rangeAt b (o+k * 4) [S 0,S 1,S 2,S 3]
theorem splice_four (row:List Int) (f:Nat):splice [.int .i16 0,.int .i16 0,.int .i16 0,.int .i16 0] 0 (((row.drop f).take 4).map (Value.int .i16)) =
  [.int .i16 (row.getD f 0),.int .i16 (row.getD (f+1) 0),.int .i16 (row.getD (f+2) 0),.int .i16 (row.getD (f+3) 0)]:=by
 have e:∀ j,row.getD (f+j) 0=(row.drop f).getD j 0:=fun j=>by
  rw [List.getD_eq_getElem?_getD,List.getD_eq_getElem?_getD,List.getElem?_drop]
 have e0:=e 0
 rw [Nat.add_zero] at e0
 rw [e0,e 1,e 2,e 3]
 generalize row.drop f=l
 unfold splice
 match l with
 | []=>rfl
 | [a]=>rfl
 | [a,b]=>rfl
 | [a,b,c]=>rfl
 | a :: b :: c :: d :: l=>simp
end Go.Proofs.YtkpngknbiecdiaaGreatDoor.CWheel
end
section
namespace Go.Proofs.YtkpngknbiecdiaaGreatDoor.CPatch
open Go Go.ChangeShapes Go.WideShapes Go.ChangeAt Go.RowKit
open Plain CSat CShape CTensor CConv
set_option linter.unusedVariables false
theorem ShapeAt_grown {B gd:Nat} {H W C:Int} {w w':World} (h:ShapeAt B H W C w) (hg:w.grownBy w' (some gd)) (hB:B < w.heap.size) (hne:gd≠B):ShapeAt B H W C w' :=
 ⟨(hg.cell_far ⟨B,0,none⟩ hB (by simp;omega)).trans h.1,(hg.cell_far ⟨B,1,none⟩ hB (by simp;omega)).trans h.2.1,(hg.cell_far ⟨B,2,none⟩ hB (by simp;omega)).trans h.2.2⟩
theorem NodeAt_grown {B gd:Nat} {x0 x1 x2 x8 x11 x12 x13 x14 x15 x16 x17 x18:Value} {K S P O Z:Int} {WA BA:Option Addr} {nW cW nB cB:Nat} {w w':World} (h:NodeAt B x0 x1 x2 x8 x11 x12 x13 x14 x15 x16 x17 x18 K S P O Z WA BA nW cW nB cB w) (hg:w.grownBy w' (some gd)) (hB:B < w.heap.size) (hne:gd≠B):NodeAt B x0 x1 x2 x8 x11 x12 x13 x14 x15 x16 x17 x18 K S P O Z WA BA nW cW nB cB w':=fun j v hj =>
 (hg.cell_far ⟨B,0+j,none⟩ hB (by simp;omega)).trans (h j v hj)
theorem begin_to (M Wd:Int) (x:Value) (i R:Int) (hR:IntKind.i64.wrap (i * Wd)=R) (w:World) :
  Calls Tryz.prog 125 #[.agg #[.int .i64 M,.int .i64 Wd,x],.int .i64 i] w fun e w'=>e=.returned (.int .i64 R)∧Below w.heap.size w w':=by
 go_enter Tryz.func125,Tryz.ntmps125
 go_wp2_with fail
 go_ret
 exact⟨rfl,(Below.refl _ _).alloc (Nat.le_refl _) _⟩
set_option maxHeartbeats 1000000 in
theorem empty_to (H W C a b c:Int) (x0 x1 x2 x8 x11 x12 x13 x14 x15 x16 x17 x18:Value) (K S P O Z:Int) (WA BA:Option Addr) (nW cW nB cB:Nat) (M k2 Wd:Int) (h1:IntKind.i64.wrap (a * b)=M) (h2:IntKind.i64.wrap (K * K)=k2) (h3:IntKind.i64.wrap (k2 * C)=Wd) (w:World) :
  Calls Tryz.prog 123 #[.agg #[.int .i64 H,.int .i64 W,.int .i64 C],.agg #[.int .i64 a,.int .i64 b,.int .i64 c],.agg #[x0,x1,x2,.int .i64 K,.int .i64 S,.int .i64 P,.int .i64 O,.int .i8 Z,x8,.slice WA nW cW,.slice BA nB cB,x11,x12,x13,x14,x15,x16,x17,x18]] w fun e w'=>e=.returned (.agg #[.int .i64 M,.int .i64 Wd,.slice none 0 0])∧Below w.heap.size w w':=by
 go_enter Tryz.func123,Tryz.ntmps123
 go_wp2_with fail
 refine bodyPost_ret (Kit.results_c rfl _ _ (w.heap.size+3) 0 [.int .i64 M,.int .i64 Wd,.slice none 0 0] _ rfl (Kit.range_3 (by go_cell) (by go_cell) (by go_cell)) Tryz.underlying116 rfl (by kernel_rfl)) rfl ?_
 exact⟨rfl,by first | exact ((((Below.refl _ _).alloc (Nat.le_refl _) _).alloc (by simp) _).alloc (by simp;omega) _).alloc (by simp;omega) _ | (refine ((((((((Below.refl _ _).alloc (Nat.le_refl _) _).alloc (by simp) _).alloc (by simp;omega) _).alloc (by simp;omega) _).setCell ?_ _).setCell ?_ _).setCell ?_ _) <;> simp)⟩
end Go.Proofs.YtkpngknbiecdiaaGreatDoor.CPatch
end
section
namespace Go.Proofs.YtkpngknbiecdiaaGreatDoor.CPatch
open Go Go.ChangeShapes Go.WideShapes Go.ChangeAt Go.RowKit
open Plain CSat CShape CTensor CConv
set_option linter.unusedVariables false
def I16v (zs:List Int):List Value:=zs.map (.int .i16)
def upto (F:Nat→Int) (m t:Nat):Int:=if t < m then F t else 0
def listF (F:Nat→Int) (N:Nat):List Int:=(List.range N).map F
theorem listF_len (F:Nat→Int) (N:Nat):(listF F N).length=N:=by simp [listF]
theorem listF_at (F:Nat→Int) {N i:Nat} (h:i < N):(listF F N)[i]?=some (F i):=by simp [listF,h]
theorem listF_congr {F G:Nat→Int} {n:Nat} (h:∀ i,i < n→F i=G i):listF F n=listF G n:=by
 apply List.ext_getElem?
 intro i
 by_cases hi:i < n
 ·rw [listF_at F hi,listF_at G hi,h i hi]
 ·rw [List.getElem?_eq_none (by rw [listF_len];omega),List.getElem?_eq_none (by rw [listF_len];omega)]
theorem listF_set (F:Nat→Int) {N m:Nat} (x:Int) (hx:F m=x):(listF (upto F m) N).set m x=listF (upto F (m+1)) N:=by
 apply List.ext_getElem?
 intro i
 rw [List.getElem?_set]
 by_cases hi:i < N
 ·by_cases e:m=i
  ·subst e
   rw [if_pos rfl,if_pos (by rw [listF_len];exact hi),listF_at _ hi]
   simp [upto,hx]
  ·rw [if_neg e,listF_at _ hi,listF_at _ hi]
   simp only [upto]
   by_cases h1:i < m
   ·rw [if_pos h1,if_pos (by omega)]
   ·rw [if_neg h1,if_neg (by omega)]
 ·have e1:(listF (upto F (m+1)) N)[i]?=none:=List.getElem?_eq_none (by rw [listF_len];omega)
  have e2:(listF (upto F m) N)[i]?=none:=List.getElem?_eq_none (by rw [listF_len];omega)
  rw [e1,e2]
  by_cases e:m=i
  ·rw [if_pos e,if_neg (by rw [listF_len];omega)]
  ·rw [if_neg e]
theorem I16v_set (ys:List Int) (i:Nat) (x:Int):(I16v ys).set i (.int .i16 x)=I16v (ys.set i x):=by simp [I16v,List.map_set]
def RowsAt (B:Nat) (M Wd:Int) (gd N:Nat) (w:World):Prop :=
 w.cell? ⟨B,0,none⟩=some (.int .i64 M)∧w.cell? ⟨B,1,none⟩=some (.int .i64 Wd)∧w.cell? ⟨B,2,none⟩=some (.slice (some ⟨gd,0,none⟩) N N)
theorem BoxAt_grown {B gd:Nat} {H W C:Int} {A:Option Addr} {n c:Nat} {w w':World} (h:BoxAt B H W C A n c w) (hg:w.grownBy w' (some gd)) (hne:gd≠B):BoxAt B H W C A n c w':=by
 have hB:B < w.heap.size:=Kit.block_lt h.1
 exact⟨(hg.cell_far ⟨B,0,none⟩ hB (by simp;omega)).trans h.1,(hg.cell_far ⟨B,1,none⟩ hB (by simp;omega)).trans h.2.1,(hg.cell_far ⟨B,2,none⟩ hB (by simp;omega)).trans h.2.2.1,(hg.cell_far ⟨B,3,none⟩ hB (by simp;omega)).trans h.2.2.2⟩
theorem RowsAt_grown {B gd N gr:Nat} {M Wd:Int} {w w':World} (h:RowsAt B M Wd gd N w) (hg:w.grownBy w' (some gr)) (hne:gr≠B):RowsAt B M Wd gd N w':=by
 have hB:B < w.heap.size:=Kit.block_lt h.1
 exact⟨(hg.cell_far ⟨B,0,none⟩ hB (by simp;omega)).trans h.1,(hg.cell_far ⟨B,1,none⟩ hB (by simp;omega)).trans h.2.1,(hg.cell_far ⟨B,2,none⟩ hB (by simp;omega)).trans h.2.2⟩
theorem NodeAt_size {B:Nat} {x0 x1 x2 x8 x11 x12 x13 x14 x15 x16 x17 x18:Value} {K S P O Z:Int} {WA BA:Option Addr} {nW cW nB cB:Nat} {w:World} (h:NodeAt B x0 x1 x2 x8 x11 x12 x13 x14 x15 x16 x17 x18 K S P O Z WA BA nW cW nB cB w):B < w.heap.size:=Kit.block_lt (h.at 0 _ rfl)
theorem Rd_grown {w w':World} {B gd:Nat} {A:Option Addr} {xs:List Value} (h:Kit.Rd w B A xs) (hg:w.grownBy w' (some gd)) (hB:B≤w.heap.size) (hgd:B≤gd):Kit.Rd w' B A xs :=
 h.keep fun p hp=>hg.cell_far p (by omega) (by simp;omega)
theorem grown_set (w:World) (g o:Nat) (v:Value):w.grownBy (w.setCell ⟨g,o,none⟩ v) (some g):=⟨rfl,rfl,rfl,by simp,fun k _ hk=>Below.heap_setCell _ _ _ k (fun e=>hk (by rw [e]))⟩
def OfAt (pt pn pr gd B0:Nat) (H W C:Int) (A:Option Addr) (n c:Nat) (x0 x1 x2 x8 x11 x12 x13 x14 x15 x16 x17 x18:Value) (K S P O Z:Int) (WA BA:Option Addr) (nW cW nB cB:Nat) (M Wd:Int) (N:Nat) (zs:List Int) (F:Nat→Int) (d k:Nat) (v:World):Prop :=
 BoxAt pt H W C A n c v∧NodeAt pn x0 x1 x2 x8 x11 x12 x13 x14 x15 x16 x17 x18 K S P O Z WA BA nW cW nB cB v∧RowsAt pr M Wd gd N v∧v.ownsRow B0 158 1 (.slice (some ⟨gd,0,none⟩) N N) N (I16v (listF (upto F (k * d)) N))∧Kit.Rd v B0 A (I8s zs)∧B0≤v.heap.size
theorem OfAt.stay {pt pn pr gd B0:Nat} {H W C:Int} {A:Option Addr} {n c:Nat} {x0 x1 x2 x8 x11 x12 x13 x14 x15 x16 x17 x18:Value} {K S P O Z:Int} {WA BA:Option Addr} {nW cW nB cB:Nat} {M Wd:Int} {N:Nat} {zs:List Int} {F:Nat→Int} {d k:Nat} {v v':World}
  (h:OfAt pt pn pr gd B0 H W C A n c x0 x1 x2 x8 x11 x12 x13 x14 x15 x16 x17 x18 K S P O Z WA BA nW cW nB cB M Wd N zs F d k v) (hb:Below v.heap.size v v'):OfAt pt pn pr gd B0 H W C A n c x0 x1 x2 x8 x11 x12 x13 x14 x15 x16 x17 x18 K S P O Z WA BA nW cW nB cB M Wd N zs F d k v':=by
 obtain⟨h1,h2,h3,h4,h5,h6⟩:=h
 have z3:pr < v.heap.size:=Kit.block_lt h3.1
 exact⟨h1.below (B':=v.heap.size) (Kit.block_lt h1.1) hb,h2.below (B':=v.heap.size) (NodeAt_size h2) hb,
  ⟨(hb.cell (p:=⟨pr,0,none⟩) z3).trans h3.1,(hb.cell (p:=⟨pr,1,none⟩) z3).trans h3.2.1,(hb.cell (p:=⟨pr,2,none⟩) z3).trans h3.2.2⟩,Kit.own_below h4 hb,h5.below (hb.mono h6),Nat.le_trans h6 hb.size⟩
set_option maxRecDepth 100000 in
set_option maxHeartbeats 4000000 in
theorem visit_of (pt pn pr gd B0:Nat) (n1:gd≠pt) (n2:gd≠pn) (n3:gd≠pr) (hgB:B0≤gd) (H W C:Int) (bz oz n c:Nat) (x0 x1 x2 x8 x11 x12 x13 x14 x15 x16 x17 x18:Value) (K S P O Z:Int) (WA BA:Option Addr) (nW cW nB cB:Nat) (M Wd:Int) (N:Nat) (zs:List Int) (F:Nat→Int) (d k at_ pos:Nat) (hd:C=(d:Int)) (hn:zs.length=n) (hz:I8b zs) (z1 : -128≤Z) (z2:Z≤127)
  (hat:k * d=at_) (hN:at_+d≤N) (hN1:N≤30000000) (hpos:pos+d≤n) (hn1:n≤1024) (hF:∀ q,q < d→F (at_+q)=zs.getD (pos+q) 0 - Z) (v:World) (hI:OfAt pt pn pr gd B0 H W C (some ⟨bz,oz,none⟩) n c x0 x1 x2 x8 x11 x12 x13 x14 x15 x16 x17 x18 K S P O Z WA BA nW cW nB cB M Wd N zs F d k v) :
  Calls Tryz.prog 126 #[.int .i64 (at_:Int),.int .i64 (pos:Int),.pointer (some ⟨pt,0,none⟩),.pointer (some ⟨pn,0,none⟩),.pointer (some ⟨pr,0,none⟩)] v fun e v'=>(∃ u,e=.returned u)∧OfAt pt pn pr gd B0 H W C (some ⟨bz,oz,none⟩) n c x0 x1 x2 x8 x11 x12 x13 x14 x15 x16 x17 x18 K S P O Z WA BA nW cW nB cB M Wd N zs F d (k+1) v'∧v.grownBy v' (some gd):=by
 obtain⟨h1,h2,h3,h4,h5,h6⟩:=hI
 have T1:=Lib.hid h1
 have T2:=Lib.hid h2
 have T3:=Lib.hid h3
 rw [hat] at h4
 have HO:=Lib.hid h4
 have HR:=Lib.hid h5
 have HG:Hid (v.grownBy v (some gd)):=Lib.hid (World.grownBy.refl v _)
 have HAT:=Lib.hid hat
 have HF:=Lib.hid hF
 have HZ:=Lib.hid hz
 have HN:=Lib.hid hn
 have hz6:=h6
 subst hd
 obtain⟨tb0,tb1,tb2,tb3⟩:=T1.out
 clear h1 h2 h3 h4 h5 h6 hat hF hz hn
 go_enter Tryz.func126,Tryz.ntmps126
 go_wp2_with fail
 clear tb0 tb1 tb2 tb3
 go_loopw [11] (fun u wr=>∃ q:Nat,q≤d∧u=.int .i64 q∧Hid (BoxAt pt H W (d:Int) (some ⟨bz,oz,none⟩) n c wr)∧Hid (NodeAt pn x0 x1 x2 x8 x11 x12 x13 x14 x15 x16 x17 x18 K S P O Z WA BA nW cW nB cB wr)∧Hid (RowsAt pr M Wd gd N wr)∧Hid (wr.ownsRow B0 158 1 (.slice (some ⟨gd,0,none⟩) N N) N (I16v (listF (upto F (at_+q)) N)))∧Hid (Kit.Rd wr B0 (some ⟨bz,oz,none⟩) (I8s zs))∧Hid (v.grownBy wr (some gd))∧B0≤wr.heap.size) (fun u _=>d - (intOf u).toNat)
 case atStart=>exact⟨0,Nat.zero_le _,rfl,T1,T2,T3,HO,HR,HG,hz6⟩
 case round =>
  clear T1 T2 T3 HO HR HG hz6
  obtain⟨q,hq,rfl,T1,T2,T3,HO,HR,HG,hz6⟩:=hrel
  by_cases hlt:q < d
  ·have hqI:(q:Int) < (d:Int):=by omega
   obtain⟨tb0,tb1,tb2,tb3⟩:=T1.out
   obtain⟨tr0,tr1,tr2⟩:=T3.out
   have n7:=T2.out.at 7 _ rfl
   obtain⟨a1,ha1⟩:∃ a1,at_+q=a1:=⟨_,rfl⟩
   obtain⟨p1,hp1⟩:∃ p1,pos+q=p1:=⟨_,rfl⟩
   have f1:IntKind.i64.wrap ((at_:Int)+(q:Int))=(a1:Int):=by rw [IntWalk.i64_in _ (by omega)];omega
   have f2:IntKind.i64.wrap ((pos:Int)+(q:Int))=(p1:Int):=by rw [IntWalk.i64_in _ (by omega)];omega
   have s1:(0:Int)≤(a1:Int):=by omega
   have s2:(a1:Int) < (N:Int):=by omega
   have s3:(0:Int)≤(p1:Int):=by omega
   have s4:(p1:Int) < (n:Int):=by omega
   obtain⟨b',o',hbo,hbz,hcz⟩:=ints_getD HR.out (j:=0) (by have:=HN.out;omega)
   cases hbo
   have hcx:=hcz p1 (by have:=HN.out;omega)
   have hFq:=HF.out q hlt
   rw [ha1,hp1] at hFq
   obtain⟨x1,x2⟩:=HZ.out p1
   generalize zs.getD p1 0=x at hcx hFq x1 x2
   have k1:IntKind.i16.wrap x=x:=IntWalk.i16_in _ (by omega)
   have k2:IntKind.i16.wrap Z=Z:=IntWalk.i16_in _ (by omega)
   have k3:IntKind.i16.wrap (x - Z)=x - Z:=IntWalk.i16_in _ (by omega)
   have hfr:wr.frozen? ⟨gd,a1,none⟩=false:=HO.out.frozenAt a1
   have hcl:∃ u,wr.cell? ⟨gd,a1,none⟩=some u:=⟨_,(HO.out.cellAt a1 (by omega)).trans (List.getElem?_eq_getElem (by simp [I16v,listF];omega))⟩
   obtain⟨vold,hcl⟩:=hcl
   have hbg:gd≠bz:=by omega
   have HFQ:=Lib.hid hFq
   have HA1:=Lib.hid ha1
   clear hcz hFq ha1 hp1
   go_wp2_with fail
   refine wp_region_held_drew (S:=fun w'=>w'.cell? ⟨pr,2,none⟩=some (.slice (some ⟨gd,0,none⟩) N N)∧w'.cell? ⟨pt,3,none⟩=some (.slice (some ⟨bz,oz,none⟩) n c)∧w'.cell? ⟨bz,oz+p1,none⟩=some (.int .i8 x)∧w'.cell? ⟨pn,7,none⟩=some (.int .i8 Z)) (by kernel_rfl) ⟨tr2,tb3,hcx,n7⟩ (fun hHeld=>?_)
   clear tb0 tb1 tb2 tb3 tr0 tr1 tr2 n7 hcx
   refine Tk.x 0 rfl ?_
   try simp only [Tk.put]
   refine Tk.y 1 (v:=?_) rfl ?_ ?_
   rotate_left
   ·intro wS hSw
    obtain⟨hq1,hq2,hq3,hq4⟩:=hSw
    first | (go_simp;done) | (go_simp;with_reducible rfl)
   try simp only [Tk.put]
   refine Tk.x 2 rfl ?_
   try simp only [Tk.put]
   refine Tk.x 3 rfl ?_
   try simp only [Tk.put]
   refine Tk.x 4 rfl ?_
   try simp only [Tk.put]
   refine Tk.x 5 rfl ?_
   try simp only [Tk.put]
   refine Tk.y 6 (v:=?_) rfl ?_ ?_
   rotate_left
   ·intro wS hSw
    obtain⟨hq1,hq2,hq3,hq4⟩:=hSw
    first | (go_simp;done) | (go_simp;with_reducible rfl)
   try simp only [Tk.put]
   refine Tk.x 7 rfl ?_
   try simp only [Tk.put]
   refine Tk.x 8 rfl ?_
   try simp only [Tk.put]
   refine Tk.x 9 rfl ?_
   try simp only [Tk.put]
   refine Tk.x 10 rfl ?_
   try simp only [Tk.put]
   refine Tk.y 11 (v:=?_) rfl ?_ ?_
   rotate_left
   ·intro wS hSw
    obtain⟨hq1,hq2,hq3,hq4⟩:=hSw
    first | (go_simp;done) | (go_simp;with_reducible rfl)
   try simp only [Tk.put]
   refine Tk.x 12 rfl ?_
   try simp only [Tk.put]
   refine Tk.x 13 rfl ?_
   try simp only [Tk.put]
   refine Tk.y 14 (v:=?_) rfl ?_ ?_
   rotate_left
   ·intro wS hSw
    obtain⟨hq1,hq2,hq3,hq4⟩:=hSw
    first | (go_simp;done) | (go_simp;with_reducible rfl)
   try simp only [Tk.put]
   refine Tk.x 15 rfl ?_
   try simp only [Tk.put]
   refine Tk.x 16 rfl ?_
   try simp only [Tk.put]
   refine Tk.x 17 rfl ?_
   try simp only [Tk.put]
   refine Tk.s 18 rfl (fun Kq hK=>?_)
   go_simp
   refine hK.out _ _ ?_ (fun hHeld=>?_)
   ·exact⟨((World.cell?_setCell_far _ _ _ _ n3).trans hHeld.1),((World.cell?_setCell_far _ _ _ _ n1).trans hHeld.2.1),((World.cell?_setCell_far _ _ _ _ hbg).trans hHeld.2.2.1),((World.cell?_setCell_far _ _ _ _ n2).trans hHeld.2.2.2)⟩
   clear hK Kq
   try simp only [Tk.put]
   refine wpAnyH_done (by kernel_rfl) ?_ _
   have hgr:wr.grownBy (wr.drew.setCell ⟨gd,a1,none⟩ (.int .i16 (x - Z))) (some gd):=(Kit.grown_of_below (Below.refl _ _).drew (some gd)).trans (grown_set _ _ _ _)
   have HO4:=Lib.hid ((Kit.own_below HO.out (Below.refl wr.heap.size wr).drew).stored a1 (.int .i16 (x - Z))).1
   rw [I16v_set,HA1.out,listF_set F _ HFQ.out] at HO4
   have T1':=Lib.hid (BoxAt_grown T1.out hgr n1)
   have T2':=Lib.hid (NodeAt_grown T2.out hgr (NodeAt_size T2.out) n2)
   have T3':=Lib.hid (RowsAt_grown T3.out hgr n3)
   have HR':=Lib.hid (Rd_grown HR.out hgr hz6 hgB)
   have HG':=Lib.hid (HG.out.trans hgr)
   have hz7:=Nat.le_trans hz6 hgr.size
   clear hHeld T1 T2 T3 HO HR HG hgr hfr hcl
   rw [show a1+1=at_+(q+1) by have:=HA1.out;omega] at HO4
   go_wp2_with fail
   go_roundw
   case rel=>exact⟨q+1,by omega,by go_num,T1',T2',T3',HO4,HR',HG',hz7⟩
   case measure=>simp [intOf];omega
  ·obtain rfl:q=d:=by omega
   go_wp2_with fail
   go_end0
   exact⟨⟨_,rfl⟩,⟨T1.out,T2.out,T3.out,by rw [Nat.add_mul,Nat.one_mul,HAT.out];exact HO.out,HR.out,hz6⟩,HG.out⟩
end Go.Proofs.YtkpngknbiecdiaaGreatDoor.CPatch
end
