/- Texts of this seat, one behind the other: KindOwnD, GemmHold, GemmNum, BiasNum, TensorOf. -/
import Derived.Deep.CutRange
import Derived.Deep.RegionHeld3
import Derived.Handy
import Derived.Test.YtkpngknbiecdiaaGreatDoorGB6
import Derived.Test.YtkpngknbiecdiaaGreatDoorGB7
import Derived.Test.YtkpngknbiecdiaaGreatDoorGB11
import Derived.Test.YtkpngknbiecdiaaGreatDoorGB13
import Derived.Test.YtkpngknbiecdiaaGreatDoorGB17
section
namespace Go.Proofs.YtkpngknbiecdiaaGreatDoor.CKind
open Go Go.ChangeShapes Go.WideShapes Go.ChangeAt Go.RowKit Go.Deep
open Plain CSat CShape CTensor CConv
set_option linter.unusedVariables false
set_option linter.unusedSimpArgs false
def Nd.zero:Nd:=⟨0,0,0,0,0,0,0,0,0,none,0,0,none,0,0,0,0,0,0,0,0,0,0⟩
def Nd.ownK (x:Nd) (k:Int):Nd :=
 ⟨k,x.na,if k == 6 then x.nb else 0,if slidesB k then x.K else 0,if slidesB k then x.S else 0,if slidesB k || k == 8 then x.P else 0,if k == 1 || k == 3 then x.O else 0,if scaledB k || k == 8 then x.Z else 0,if k == 6 then x.Y else 0,
  if sumsB k then x.WA else none,if sumsB k then x.nW else 0,if sumsB k then x.cW else 0,if sumsB k then x.BA else none,if sumsB k then x.nB else 0,if sumsB k then x.cB else 0,
  if scaledB k then x.m1 else 0,if scaledB k then x.s1 else 0,if scaledB k then x.z1 else 0,if k == 6 then x.m2 else 0,if k == 6 then x.s2 else 0,0,if scaledB k then x.lo else 0,if scaledB k then x.hi else 0⟩
end Go.Proofs.YtkpngknbiecdiaaGreatDoor.CKind
end
section
namespace Go.Proofs.YtkpngknbiecdiaaGreatDoor.CGemm
open Go Go.ChangeShapes Go.WideShapes Go.ChangeAt Go.RowKit
open Plain
set_option linter.unusedVariables false
def holdsB (L r c:Int):Bool:=decide (1≤r∧r≤16384∧1≤c∧c≤16384∧L=r * c)
theorem small_mul {r c:Int} (h1:1≤r) (h2:r≤16384) (h3:1≤c) (h4:c≤16384):1≤r * c∧r * c≤268435456:=by
 have a:=Int.mul_le_mul h2 h4 (by omega) (by omega)
 have b:=Int.mul_le_mul h1 h3 (by omega) (by omega)
 omega
theorem holdsB_yes {L r c:Int} (h:holdsB L r c=true):1≤r∧r≤16384∧1≤c∧c≤16384∧L=r * c:=by simpa [holdsB] using h
theorem holds_to (L r c:Int) (b:Bool) (hb:holdsB L r c=b) (w:World) :
  Calls Tryz.prog 127 #[.int .i64 L,.int .i64 r,.int .i64 c] w fun e w'=>e=.returned (.bool b)∧w=w':=by
 have HB:=Lib.hid hb
 clear hb
 rcases (show r < 1∨(1≤r∧16384 < r)∨(1≤r∧r≤16384∧c < 1)∨(1≤r∧r≤16384∧1≤c∧16384 < c)∨(1≤r∧r≤16384∧1≤c∧c≤16384) by omega) with h1 | ⟨h1,h2⟩ | ⟨h1,h2,h3⟩ | ⟨h1,h2,h3,h4⟩ | ⟨h1,h2,h3,h4⟩
 ·obtain rfl:b=false:=by rw [← HB.out];simp [holdsB];omega
  go_enter Tryz.func127,Tryz.ntmps127
  go_wp2_with fail
  go_ret
  exact⟨rfl,rfl⟩
 ·obtain rfl:b=false:=by rw [← HB.out];simp [holdsB];omega
  go_enter Tryz.func127,Tryz.ntmps127
  go_wp2_with fail
  go_ret
  exact⟨rfl,rfl⟩
 ·obtain rfl:b=false:=by rw [← HB.out];simp [holdsB];omega
  go_enter Tryz.func127,Tryz.ntmps127
  go_wp2_with fail
  go_ret
  exact⟨rfl,rfl⟩
 ·obtain rfl:b=false:=by rw [← HB.out];simp [holdsB];omega
  go_enter Tryz.func127,Tryz.ntmps127
  go_wp2_with fail
  go_ret
  exact⟨rfl,rfl⟩
 ·obtain⟨s1,s2⟩:=small_mul h1 h2 h3 h4
  have e:IntKind.i64.wrap (r * c)=r * c:=IntWalk.i64_in _ (by omega)
  have hbb:decide (L=r * c)=b:=by rw [← HB.out];simp [holdsB,h1,h2,h3,h4]
  obtain⟨q,hq⟩:∃ q,r * c=q:=⟨_,rfl⟩
  rw [hq] at e hbb
  have e2:IntKind.i64.wrap (r * c)=q:=by rw [hq];exact e
  clear hq s1 s2 HB
  go_enter Tryz.func127,Tryz.ntmps127
  go_wp2_with fail
  go_ret
  refine⟨?_,rfl⟩
  rw [← hbb]
  first | rfl | simp
theorem tiles_to (n:Nat) (h:n≤16384) (w:World) :
  Calls Tryz.prog 128 #[.int .i64 (n:Int)] w fun e w'=>e=.returned (.int .i64 (((n+31) / 32:Nat):Int))∧w=w':=by
 have e1:IntKind.i64.wrap ((n:Int)+32)=(n:Int)+32:=IntWalk.i64_in _ (by omega)
 have e2:IntKind.i64.wrap ((n:Int)+32 - 1)=(n:Int)+31:=by rw [IntWalk.i64_in _ (by omega)];omega
 have e3:((n:Int)+31).tdiv 32=(((n+31) / 32:Nat):Int):=by
  rw [Int.tdiv_eq_ediv_of_nonneg (by omega)];omega
 have e4:IntKind.i64.wrap ((((n+31) / 32:Nat):Int))=(((n+31) / 32:Nat):Int):=IntWalk.i64_in _ (by omega)
 generalize (n+31) / 32=q at e3 e4 ⊢
 go_enter Tryz.func128,Tryz.ntmps128
 go_wp2_with fail
 go_ret
 exact⟨rfl,rfl⟩
theorem range_4 {w:World} {b:Nat} {v0 v1 v2 v3:Value} (h0:w.cell? ⟨b,0,none⟩=some v0) (h1:w.cell? ⟨b,1,none⟩=some v1) (h2:w.cell? ⟨b,2,none⟩=some v2) (h3:w.cell? ⟨b,3,none⟩=some v3) :
  w.rangeAt b 0 [v0,v1,v2,v3]:=fun j v hj=>by
 match j,hj with
 | 0,hj=>simp only [List.getElem?_cons_zero] at hj;cases hj;exact h0
 | 1,hj=>simp at hj;cases hj;exact h1
 | 2,hj=>simp at hj;cases hj;exact h2
 | 3,hj=>simp at hj;cases hj;exact h3
 | j+4,hj=>simp at hj
theorem bounds_to (p q e0 e1 e2 e3:Nat) (h:p≤1000) (h':q≤1000) (h0:p * 32=e0) (h1:(p+1) * 32=e1) (h2:q * 32=e2) (h3:(q+1) * 32=e3) (w:World) :
  Calls Tryz.prog 129 #[.int .i64 (p:Int),.int .i64 (q:Int)] w fun e w'=>e=.returned (.agg #[.int .i64 (e0:Int),.int .i64 (e1:Int),.int .i64 (e2:Int),.int .i64 (e3:Int)])∧Below w.heap.size w w':=by
 obtain⟨p',hp⟩:∃ p':Int,(p:Int)+1=p':=⟨_,rfl⟩
 obtain⟨q',hq⟩:∃ q':Int,(q:Int)+1=q':=⟨_,rfl⟩
 have g1:IntKind.i64.wrap ((p:Int) * 32)=(e0:Int):=by rw [IntWalk.i64_in _ (by omega)];omega
 have g2:IntKind.i64.wrap ((p:Int)+1)=p':=by rw [IntWalk.i64_in _ (by omega)];omega
 have g3:IntKind.i64.wrap (p' * 32)=(e1:Int):=by rw [IntWalk.i64_in _ (by omega)];omega
 have f1:IntKind.i64.wrap ((q:Int) * 32)=(e2:Int):=by rw [IntWalk.i64_in _ (by omega)];omega
 have f2:IntKind.i64.wrap ((q:Int)+1)=q':=by rw [IntWalk.i64_in _ (by omega)];omega
 have f3:IntKind.i64.wrap (q' * 32)=(e3:Int):=by rw [IntWalk.i64_in _ (by omega)];omega
 clear hp hq h0 h1 h2 h3
 go_enter Tryz.func129,Tryz.ntmps129
 go_wp2_with fail
 refine bodyPost_ret (Kit.results_c rfl _ _ w.heap.size 0 [.int .i64 (e0:Int),.int .i64 (e1:Int),.int .i64 (e2:Int),.int .i64 (e3:Int)] _ rfl (range_4 (by go_cell) (by go_cell) (by go_cell) (by go_cell)) Tryz.underlying160 rfl (by kernel_rfl)) rfl ?_
 exact⟨rfl,(Below.refl _ _).alloc (Nat.le_refl _) _⟩
end Go.Proofs.YtkpngknbiecdiaaGreatDoor.CGemm
end
section
namespace Go.Proofs.YtkpngknbiecdiaaGreatDoor.CGemm
open Go Go.ChangeShapes Go.WideShapes Go.ChangeAt Go.RowKit
open Plain
set_option linter.unusedVariables false
def I32v (zs:List Int):List Value:=zs.map (.int .i32)
def rowL (F:Nat→Int) (n:Nat):List Int:=(List.range n).map F
theorem rowL_len (F:Nat→Int) (n:Nat):(rowL F n).length=n:=by simp [rowL]
theorem rowL_at (F:Nat→Int) {n i:Nat} (h:i < n):(rowL F n)[i]?=some (F i):=by simp [rowL,h]
theorem rowL_congr {F G:Nat→Int} {n:Nat} (h:∀ i,i < n→F i=G i):rowL F n=rowL G n:=by
 apply List.ext_getElem?
 intro i
 by_cases hi:i < n
 ·rw [rowL_at F hi,rowL_at G hi,h i hi]
 ·rw [List.getElem?_eq_none (by rw [rowL_len];omega),List.getElem?_eq_none (by rw [rowL_len];omega)]
theorem eq_rowL {P:List Int} {F:Nat→Int} {n:Nat} (hl:P.length=n) (h:∀ i,i < n→P[i]?=some (F i)):P=rowL F n:=by
 apply List.ext_getElem?
 intro i
 by_cases hi:i < n
 ·rw [rowL_at F hi,h i hi]
 ·rw [List.getElem?_eq_none (by omega),List.getElem?_eq_none (by rw [rowL_len];omega)]
def Filled (n:Nat) (D:Nat→Prop) (F:Nat→Int) (P:List Int):Prop:=P.length=n∧∀ i,i < n→D i→P[i]?=some (F i)
theorem Filled.mono {n:Nat} {D D':Nat→Prop} {F:Nat→Int} {P:List Int} (h:Filled n D F P) (hd:∀ i,i < n→D' i→D i):Filled n D' F P:=⟨h.1,fun i hi hD=>h.2 i hi (hd i hi hD)⟩
theorem Filled.set {n:Nat} {D D':Nat→Prop} {F:Nat→Int} {P:List Int} (h:Filled n D F P) {j:Nat} {v:Int} (hv:F j=v) (hd:∀ i,i < n→D' i→D i∨i=j):Filled n D' F (P.set j v):=by
 refine⟨by simpa using h.1,fun i hi hD=>?_⟩
 rw [List.getElem?_set]
 by_cases e:j=i
 ·subst e
  rw [if_pos rfl,if_pos (by rw [h.1];exact hi),hv]
 ·rw [if_neg e]
  rcases hd i hi hD with h1 | h1
  ·exact h.2 i hi h1
  ·exact absurd h1.symm e
theorem Filled.all {n:Nat} {D:Nat→Prop} {F:Nat→Int} {P:List Int} (h:Filled n D F P) (hd:∀ i,i < n→D i):P=rowL F n:=eq_rowL h.1 fun i hi=>h.2 i hi (hd i hi)
theorem Filled.none {n:Nat} {D:Nat→Prop} {F:Nat→Int} (hd:∀ i,i < n→¬ D i):Filled n D F (List.replicate n 0):=⟨by simp,fun i hi hD=>absurd hD (hd i hi)⟩
theorem I32v_set (ys:List Int) (i:Nat) (x:Int):(I32v ys).set i (.int .i32 x)=I32v (ys.set i x):=by simp [I32v,List.map_set]
theorem I32v_len (ys:List Int):(I32v ys).length=ys.length:=by simp [I32v]
/-! ### tiles -/
def tileOf (cols:Nat) (i:Nat):Nat:=i / cols / 32 * ((cols+31) / 32)+i % cols / 32
theorem tile_parts {cols i k:Nat} (hc:0 < cols) (h:tileOf cols i=k):i / cols / 32=k / ((cols+31) / 32)∧i % cols / 32=k % ((cols+31) / 32):=by
 have hm:i % cols < cols:=Nat.mod_lt _ hc
 unfold tileOf at h
 have ha:0 < (cols+31) / 32:=by omega
 have hb:i % cols / 32 < (cols+31) / 32:=by omega
 generalize (cols+31) / 32=a at *
 subst h
 constructor
 ·rw [Nat.add_comm,Nat.add_mul_div_right _ _ ha,Nat.div_eq_of_lt hb,Nat.zero_add]
 ·rw [Nat.add_comm,Nat.add_mul_mod_self_right,Nat.mod_eq_of_lt hb]
theorem tile_last {rows cols i:Nat} (hc:0 < cols) (h:i < rows * cols):tileOf cols i < (rows+31) / 32 * ((cols+31) / 32):=by
 have hm:i % cols < cols:=Nat.mod_lt _ hc
 have hr:i / cols < rows:=Nat.div_lt_of_lt_mul (by rw [Nat.mul_comm];exact h)
 unfold tileOf
 have hb:i % cols / 32 < (cols+31) / 32:=by omega
 have hq:i / cols / 32+1≤(rows+31) / 32:=by omega
 have:=Nat.mul_le_mul_right ((cols+31) / 32) hq
 rw [Nat.add_mul,Nat.one_mul] at this
 omega
theorem place_of {cols r c:Nat} (hc:c < cols):(r * cols+c) / cols=r∧(r * cols+c) % cols=c:=by
 have h0:0 < cols:=by omega
 constructor
 ·rw [Nat.add_comm,Nat.add_mul_div_right _ _ h0,Nat.div_eq_of_lt hc,Nat.zero_add]
 ·rw [Nat.add_comm,Nat.add_mul_mod_self_right,Nat.mod_eq_of_lt hc]
theorem place_back {cols i:Nat} : i / cols * cols+i % cols=i:=by rw [Nat.mul_comm];exact Nat.div_add_mod i cols
theorem place_lt {rows cols r c:Nat} (hr:r < rows) (hc:c < cols):r * cols+c < rows * cols:=by
 have:=Nat.mul_le_mul_right cols (show r+1≤rows by omega)
 rw [Nat.add_mul,Nat.one_mul] at this
 omega
def Done3 (cols k r c i:Nat):Prop:=tileOf cols i < k∨(tileOf cols i=k∧(i / cols < r∨(i / cols=r∧i % cols < c)))
def Done2 (cols k r i:Nat):Prop:=tileOf cols i < k∨(tileOf cols i=k∧i / cols < r)
def Done1 (cols k i:Nat):Prop:=tileOf cols i < k
theorem done21 {cols k:Nat} (hc:0 < cols) {i:Nat} (h:Done2 cols k (k / ((cols+31) / 32) * 32) i):Done1 cols k i:=by
 rcases h with h | ⟨h1,h2⟩
 ·exact h
 ·have:=(tile_parts hc h1).1;omega
theorem done12 {cols k rows r i:Nat} (hc:0 < cols) (hi:i < rows * cols) (hr:r=rows∨(k / ((cols+31) / 32)+1) * 32≤r) (h:Done1 cols (k+1) i):Done2 cols k r i:=by
 have hq:i / cols < rows:=Nat.div_lt_of_lt_mul (by rw [Nat.mul_comm];exact hi)
 unfold Done1 at h
 rcases Nat.lt_or_ge (tileOf cols i) k with h1 | h1
 ·exact .inl h1
 ·have h2:tileOf cols i=k:=by omega
  have:=(tile_parts hc h2).1
  exact .inr ⟨h2,by omega⟩
theorem done32 {cols k r:Nat} (hc:0 < cols) {i:Nat} (h:Done3 cols k r (k % ((cols+31) / 32) * 32) i):Done2 cols k r i:=by
 rcases h with h | ⟨h1,h2⟩
 ·exact .inl h
 ·have:=(tile_parts hc h1).2
  exact .inr ⟨h1,by omega⟩
theorem done23 {cols k r c i:Nat} (hc:0 < cols) (hr:c=cols∨(k % ((cols+31) / 32)+1) * 32≤c) (h:Done2 cols k (r+1) i):Done3 cols k r c i:=by
 have hm:i % cols < cols:=Nat.mod_lt _ hc
 rcases h with h1 | ⟨h1,h2⟩
 ·exact .inl h1
 ·have:=(tile_parts hc h1).2
  exact .inr ⟨h1,by omega⟩
theorem done33 {cols k r c i:Nat} (h:Done3 cols k r (c+1) i):Done3 cols k r c i∨i=r * cols+c:=by
 rcases h with h1 | ⟨h1,h2⟩
 ·exact .inl (.inl h1)
 ·by_cases h3:i / cols=r∧i % cols=c
  ·right;rw [← h3.1, ← h3.2];exact place_back.symm
  ·exact .inl (.inr ⟨h1,by omega⟩)
section
variable {cols k a p q e0 e1 e2 e3:Nat} (hc:0 < cols) (ha:(cols+31) / 32=a) (hp:k / a=p) (hq:k % a=q)
include hc ha
theorem to21 (hp:k / a=p) (h0:p * 32=e0) {i:Nat} (h:Done2 cols k e0 i):Done1 cols k i:=by
 subst ha hp h0;exact done21 hc h
theorem to12 (hp:k / a=p) (h1:(p+1) * 32=e1) {rows r i:Nat} (hi:i < rows * cols) (hr:r=rows∨e1≤r) (h:Done1 cols (k+1) i):Done2 cols k r i:=by
 subst ha hp h1;exact done12 hc hi hr h
theorem to32 (hq:k % a=q) (h2:q * 32=e2) {r i:Nat} (h:Done3 cols k r e2 i):Done2 cols k r i:=by
 subst ha hq h2;exact done32 hc h
theorem to23 (hq:k % a=q) (h3:(q+1) * 32=e3) {r c i:Nat} (hr:c=cols∨e3≤c) (h:Done2 cols k (r+1) i):Done3 cols k r c i:=by
 subst ha hq h3;exact done23 hc hr h
end
def mulF (xs ys:List Int) (mid cols:Nat) (i:Nat):Int:=IntKind.i32.wrap (psum (fun k=>xs.getD (i / cols * mid+k) 0 * ys.getD (i % cols * mid+k) 0) mid)
theorem cut_getD (xs:List Int) {p m k:Nat} (h:k < m):((xs.drop p).take m).getD k 0=xs.getD (p+k) 0:=by
 rw [List.getD_eq_getElem?_getD,List.getElem?_take,if_pos h,List.getElem?_drop, ← List.getD_eq_getElem?_getD]
theorem cut_sum (xs ys:List Int) (p q m:Nat):psum (dotF ((xs.drop p).take m) ((ys.drop q).take m)) m=psum (fun k=>xs.getD (p+k) 0 * ys.getD (q+k) 0) m :=
 psum_congr fun k hk=>by unfold dotF;rw [cut_getD _ hk,cut_getD _ hk]
theorem getD_none (xs:List Int) {k:Nat} (h:xs.length≤k):xs.getD k 0=0:=by rw [List.getD_eq_getElem?_getD,List.getElem?_eq_none h];rfl
theorem cut_I16 {xs:List Int} (h:I16b xs) (p m:Nat):I16b ((xs.drop p).take m):=fun q=>by
 by_cases hq:q < m
 ·rw [cut_getD _ hq];exact h _
 ·rw [getD_none _ (by simp;omega)];omega
theorem cut_I8 {xs:List Int} (h:I8b xs) (p m:Nat):I8b ((xs.drop p).take m):=fun q=>by
 by_cases hq:q < m
 ·rw [cut_getD _ hq];exact h _
 ·rw [getD_none _ (by simp;omega)];omega
theorem cut_rd {w:World} {B:Nat} {b o:Nat} {k:IntKind} {zs:List Int} (h:Kit.Rd w B (some ⟨b,o,none⟩) (zs.map (.int k))) (p m:Nat):Kit.Rd w B (some ⟨b,o+p,none⟩) (((zs.drop p).take m).map (.int k)):=by
 have h9:=(h.drop p).take m
 rw [Option.map_some,Go.WideShapes.add_plain] at h9
 rw [List.map_take,List.map_drop];exact h9
theorem cut_len {zs:List Int} {n p m:Nat} (hl:zs.length=n) (h:p+m≤n):((zs.drop p).take m).length=m:=by simp;omega
theorem mul_at (xs ys:List Int) {m c i j I1 I2 A1 B1:Nat} (h1:i * c=I1) (h2:I1+j=I2) (hj:j < c) (h3:i * m=A1) (h4:j * m=B1) {F:Nat→Int} (hF:F=mulF xs ys m c) :
  IntKind.i32.wrap (psum (dotF ((xs.drop A1).take m) ((ys.drop B1).take m)) m)=F I2:=by
 subst h1 h2 h3 h4 hF
 obtain⟨e1,e2⟩:=place_of (r:=i) hj
 rw [cut_sum]
 unfold mulF
 rw [e1,e2]
end Go.Proofs.YtkpngknbiecdiaaGreatDoor.CGemm
end
section
namespace Go.Proofs.YtkpngknbiecdiaaGreatDoor.CConv
open Go Go.ChangeShapes Go.WideShapes Go.ChangeAt Go.RowKit
open Plain CSat CShape CTensor
set_option linter.unusedVariables false
theorem own_cells {w:World} {base:Nat} {e:TypeId} {n:Nat} {v:Value} {xs:List Value} (h:w.ownsRow base e 1 v n xs) (hn:0 < n) :
  ∃ g cap,v=.slice (some ⟨g,0,none⟩) n cap∧base≤g∧g < w.heap.size∧n≤cap∧cap≤maxLen∧(∀ j u,xs[j]?=some u→w.cell? ⟨g,j,none⟩=some u)∧(∀ j,w.frozen? ⟨g,j,none⟩=false):=by
 rcases h.2 with ⟨_,h0⟩ | ⟨g,cap,cur,rfl,hb,hh,hnc,hcm,hs,ht⟩
 ·omega
 ·refine⟨g,cap,rfl,hb,(Array.getElem?_eq_some_iff.1 hh).1,hnc,hcm,fun j u hu=>?_,fun j=>?_⟩
  ·rw [← ht] at hu
   unfold World.cell?
   rw [hh]
   have hj:j < n * 1:=by
    rcases Nat.lt_or_ge j (n * 1) with hlt | hge
    ·exact hlt
    ·rw [List.getElem?_eq_none (by simp;omega)] at hu;cases hu
   rw [List.getElem?_take_of_lt hj] at hu
   simpa using hu
  ·unfold World.frozen?;rw [hh];simp
end Go.Proofs.YtkpngknbiecdiaaGreatDoor.CConv
end
section
namespace Go.Proofs.YtkpngknbiecdiaaGreatDoor.CTensor
open Go Go.ChangeShapes Go.WideShapes Go.ChangeAt Go.RowKit
open Plain CSat CShape
set_option linter.unusedVariables false
def Made (w:World) (H W C:Int) (n:Nat) (zs:List Int) (x:Value) (e:Ending) (w':World):Prop :=
 ∃ v,e=.returned (.tuple #[.agg #[.int .i64 H,.int .i64 W,.int .i64 C,v],x])∧w'.ownsRow w.heap.size 22 1 v n (I8s zs)∧Below w.heap.size w w'
theorem of_yes (H W C:Int) (A:Option Addr) (zs:List Int) (n c:Nat) (hn:zs.length=n) (hl:n≤1000000) (ht:tensB H W C n=true) {B:Nat} (w:World) (hB:B≤w.heap.size) (hr:Kit.Rd w B A (zs.map (.int .i8))) :
  Calls Tryz.prog 67 #[.agg #[.int .i64 H,.int .i64 W,.int .i64 C],.slice A n c] w (Made w H W C n zs (.int .i64 0)):=by
 have HT:=Lib.hid ht
 have HN:=Lib.hid hn
 have HR:=Lib.hid hr
 clear ht hn hr
 go_enter Tryz.func67,Tryz.ntmps67
 have H0:=Lib.hid (Below.refl w.heap.size w)
 go_wp2_with (first
  | (go_at_call 17;((with_reducible refine (right_to H W C A n c true HT.out _).mono ?_);(rintro e w1 ⟨rfl,hb⟩;obtain⟨hc,hf⟩:=Kit.bcell hb;have hz:w.heap.size+3≤w1.heap.size:=(by have:=hb.size;simp at this;omega);have hw1:Below w.heap.size w w1:=Below.trans (by go_grown) (hb.mono (by simp;omega));have HB:=Lib.hid hb)))
  | (go_at_call 111;have hrd:=HR.out.below (hw1.mono hB);((with_reducible refine (clone_to H W C A zs n c HN.out hl (B:=B) _ (by omega) hrd).mono ?_);(rintro e w2 ⟨v2,rfl,ho2,hb2⟩;obtain⟨hc2,hf2⟩:=Kit.bcell hb2;obtain⟨A2,c2,rfl,_,_,_⟩:=Kit.own_rd ho2;have HO:=Lib.hid ho2;have HB2:=Lib.hid (hw1.trans (hb2.mono (by omega)));have hz2:w1.heap.size≤w2.heap.size:=hb2.size;have hz3:w.heap.size+1 < w1.heap.size:=(by omega);clear hw1 hrd ho2))))
 refine bodyPost_ret (Kit.results_ct rfl _ _ (w.heap.size+1) 0 [.int .i64 H,.int .i64 W,.int .i64 C,.slice A2 n c2] _ rfl (range_4 (by go_cell) (by go_cell) (by go_cell) (by go_cell)) Tryz.underlying32 rfl (by kernel_rfl)) rfl ?_
 refine⟨_,rfl,Kit.own_base (own_set (own_set (own_set (own_set HO.out _ _ ?_) _ _ ?_) _ _ ?_) _ _ ?_) ?_,?_⟩
 any_goals (first | omega | (simp;done) | (simp;omega))
 exact ((((HB2.out.setCell (p:=⟨w.heap.size+1,0,none⟩) (by simp) _).setCell (p:=⟨w.heap.size+1,1,none⟩) (by simp) _).setCell (p:=⟨w.heap.size+1,2,none⟩) (by simp) _).setCell (p:=⟨w.heap.size+1,3,none⟩) (by simp) _)
end Go.Proofs.YtkpngknbiecdiaaGreatDoor.CTensor
end
