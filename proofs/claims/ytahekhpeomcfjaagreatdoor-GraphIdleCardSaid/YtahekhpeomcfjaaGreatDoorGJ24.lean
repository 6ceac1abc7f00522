/- -/
import Derived.Test.YtahekhpeomcfjaaGreatDoorGJ23
open Go.Lib (hid)
open Nat (le_refl lt_of_succ_lt lt_succ_self)
set_option linter.unusedVariables false
set_option linter.unusedSimpArgs false
set_option maxRecDepth 100000
set_option maxHeartbeats 16000000
namespace Go.Proofs.YtahekhpeomcfjaaGreatDoor
namespace CConv
end CConv
namespace CFix
end CFix
namespace CKind
end CKind
namespace CSat
end CSat
namespace CShape
end CShape
namespace CTensor
end CTensor
open Go Go.ChangeShapes Go.WideShapes Go.ChangeAt Go.RowKit Go.Deep
section
namespace CKind
open Plain CSat CFix CShape CTensor CConv
def Nd.checkZ (x:Nd):Int :=
 if x.kd < 1∨9 < x.kd then 6 else if x.moreB=true then 2 else if ((zbv x.kd && !za0 x.m1 x.s1) || (x.kd == 6 && !za0 x.m2 x.s2))=true then 7 else if (zbv x.kd && decide (x.hi < x.lo))=true then 2 else 0
end CKind
end
section
namespace CRun
open Plain CSat CShape CTensor CConv CKind
structure Res where
 (X Y U:Int)
 (m:Nat)
 (xs:List Int)
 (er:Int)
def Res.bad (e:Int):Res:=⟨0,0,0,0,[],e⟩
def MAcc (w:World) (r:Res) (e:Ending) (w':World):Prop :=
 ∃ v,e=.returned (.tuple #[.agg #[.int .i64 r.X,.int .i64 r.Y,.int .i64 r.U,v],.int .i64 r.er])∧w'.ownsRow w.heap.size 21 1 v r.m (I32v r.xs)∧Below w.heap.size w w'
def MTen (w:World) (r:Res) (e:Ending) (w':World):Prop :=
 ∃ v,e=.returned (.tuple #[.agg #[.int .i64 r.X,.int .i64 r.Y,.int .i64 r.U,v],.int .i64 r.er])∧w'.ownsRow w.heap.size 39 1 v r.m (I8s r.xs)∧Below w.heap.size w w'
theorem own_none {w:World} (T:TypeId) (B:Nat):w.ownsRow B T 1 (.slice none 0 0) 0 []:=⟨rfl,.inl ⟨rfl,rfl⟩⟩
theorem zbg {w:World} {b:Nat} {x y z u:Value} (h0:w.cell? ⟨b,0,none⟩=some x) (h1:w.cell? ⟨b,1,none⟩=some y) (h2:w.cell? ⟨b,2,none⟩=some z) (h3:w.cell? ⟨b,3,none⟩=some u):w.rangeAt b 0 [x,y,z,u]:=by
 intro j v hj
 match j,hj with
 | 0,hj=>simpa [← hj] using h0
 | 1,hj=>simpa [← hj] using h1
 | 2,hj=>simpa [← hj] using h2
 | 3,hj=>simpa [← hj] using h3
 | j+4,hj=>simp at hj
theorem nd_k0 {g:Nat} {x:Nd} {w:World} {k:Int} (h:NdAt g x w) (hk:x.kd=k):w.cell? ⟨g,0,none⟩=some (.int .i64 k):=h.at 0 _ (by show some (Value.int .i64 x.kd)=_;rw [hk])
theorem ent1 (x:Nd) (H W C:Int) (A:Option Addr) (n c:Nat) (T:TypeId) (w:World):∃ W0,W0=(((w.alloc (.cells x.val 44)).alloc (.cells #[.int .i64 H,.int .i64 W,.int .i64 C,.slice A n c] 27)).alloc (.cells #[.int .i64 0,.int .i64 0,.int .i64 0,.slice none 0 0] T)) ∧
  Hid (NdAt w.heap.size x W0)∧Hid (Below w.heap.size w W0)∧w.heap.size+2 < W0.heap.size∧Hid (BoxAt (w.heap.size+1) H W C A n c W0)∧Hid (zbm (w.heap.size+2) W0):=by
 have hT:=zbd H W C A n c 27 (w.alloc (.cells x.val 44))
 have hF:=za5 T ((w.alloc (.cells x.val 44)).alloc (.cells #[.int .i64 H,.int .i64 W,.int .i64 C,.slice A n c] 27))
 simp only [World.size_alloc] at hT hF
 exact⟨_,rfl,hid ((NdAt.new x _ w).below (B:=w.heap.size+1) (by omega) (((Below.refl _ _).alloc (by simp) _).alloc (by first | (simp;done) | (simp;omega)) _)),hid ((((Below.refl _ _).alloc (le_refl _) _).alloc (by first | (simp;done) | (simp;omega)) _).alloc (by first | (simp;done) | (simp;omega)) _),by simp,hid (hT.below (lt_succ_self _) ((Below.refl _ _).alloc (by simp) _)),hid hF⟩
theorem ent2 (x:Nd) (H W C H2 W2 C2:Int) (A B:Option Addr) (n c m d:Nat) (T:TypeId) (w:World):∃ W0,W0=((((w.alloc (.cells x.val 44)).alloc (.cells #[.int .i64 H,.int .i64 W,.int .i64 C,.slice A n c] 27)).alloc (.cells #[.int .i64 H2,.int .i64 W2,.int .i64 C2,.slice B m d] 27)).alloc (.cells #[.int .i64 0,.int .i64 0,.int .i64 0,.slice none 0 0] T)) ∧
  Hid (NdAt w.heap.size x W0)∧Hid (Below w.heap.size w W0)∧w.heap.size+3 < W0.heap.size∧Hid (BoxAt (w.heap.size+1) H W C A n c W0)∧Hid (BoxAt (w.heap.size+2) H2 W2 C2 B m d W0)∧Hid (zbm (w.heap.size+3) W0):=by
 have hT:=zbd H W C A n c 27 (w.alloc (.cells x.val 44))
 have hU:=zbd H2 W2 C2 B m d 27 ((w.alloc (.cells x.val 44)).alloc (.cells #[.int .i64 H,.int .i64 W,.int .i64 C,.slice A n c] 27))
 have hF:=za5 T (((w.alloc (.cells x.val 44)).alloc (.cells #[.int .i64 H,.int .i64 W,.int .i64 C,.slice A n c] 27)).alloc (.cells #[.int .i64 H2,.int .i64 W2,.int .i64 C2,.slice B m d] 27))
 simp only [World.size_alloc] at hT hU hF
 exact⟨_,rfl,hid ((NdAt.new x _ w).below (B:=w.heap.size+1) (by omega) ((((Below.refl _ _).alloc (by simp) _).alloc (by first | (simp;done) | (simp;omega)) _).alloc (by first | (simp;done) | (simp;omega)) _)),hid (((((Below.refl _ _).alloc (le_refl _) _).alloc (by first | (simp;done) | (simp;omega)) _).alloc (by first | (simp;done) | (simp;omega)) _).alloc (by first | (simp;done) | (simp;omega)) _),by simp,hid (hT.below (lt_succ_self _) (((Below.refl _ _).alloc (by simp) _).alloc (by first | (simp;done) | (simp;omega)) _)),hid (hU.below (lt_succ_self _) ((Below.refl _ _).alloc (by simp) _)),hid hF⟩
end CRun
end
section
namespace CGemm
open Go Go.ChangeShapes Go.WideShapes Go.ChangeAt Go.RowKit
open Plain
def I32v (zs:List Int):List Value:=zs.map (.int .i32)
def rowL (F:Nat→Int) (n:Nat):List Int:=(List.range n).map F
theorem zbn (F:Nat→Int) (n:Nat):(rowL F n).length=n:=by simp [rowL]
theorem rowL_at (F:Nat→Int) {n i:Nat} (h:i < n):(rowL F n)[i]?=some (F i):=by simp [rowL,h]
theorem rowL_congr {F G:Nat→Int} {n:Nat} (h:∀ i,i < n→F i=G i):rowL F n=rowL G n:=by
 apply List.ext_getElem?
 intro i
 by_cases hi:i < n
 ·rw [rowL_at F hi,rowL_at G hi,h i hi]
 ·rw [List.getElem?_eq_none (by rw [zbn];omega),List.getElem?_eq_none (by rw [zbn];omega)]
theorem eq_rowL {P:List Int} {F:Nat→Int} {n:Nat} (hl:P.length=n) (h:∀ i,i < n→P[i]?=some (F i)):P=rowL F n:=by
 apply List.ext_getElem?
 intro i
 by_cases hi:i < n
 ·rw [rowL_at F hi,h i hi]
 ·rw [List.getElem?_eq_none (by omega),List.getElem?_eq_none (by rw [zbn];omega)]
def zcj (n:Nat) (D:Nat→Prop) (F:Nat→Int) (P:List Int):Prop:=P.length=n∧∀ i,i < n→D i→P[i]?=some (F i)
theorem zcj.mono {n:Nat} {D D':Nat→Prop} {F:Nat→Int} {P:List Int} (h:zcj n D F P) (hd:∀ i,i < n→D' i→D i):zcj n D' F P:=⟨h.1,fun i hi hD=>h.2 i hi (hd i hi hD)⟩
theorem zcj.set {n:Nat} {D D':Nat→Prop} {F:Nat→Int} {P:List Int} (h:zcj n D F P) {j:Nat} {v:Int} (hv:F j=v) (hd:∀ i,i < n→D' i→D i∨i=j):zcj n D' F (P.set j v):=by
 refine⟨by simpa using h.1,fun i hi hD=>?_⟩
 rw [List.getElem?_set]
 by_cases e:j=i
 ·subst e
  rw [if_pos rfl,if_pos (by rw [h.1];exact hi),hv]
 ·rw [if_neg e]
  rcases hd i hi hD with h1 | h1
  ·exact h.2 i hi h1
  ·exact absurd h1.symm e
theorem zcj.all {n:Nat} {D:Nat→Prop} {F:Nat→Int} {P:List Int} (h:zcj n D F P) (hd:∀ i,i < n→D i):P=rowL F n:=eq_rowL h.1 fun i hi=>h.2 i hi (hd i hi)
theorem zcj.none {n:Nat} {D:Nat→Prop} {F:Nat→Int} (hd:∀ i,i < n→¬ D i):zcj n D F (List.replicate n 0):=⟨by simp,fun i hi hD=>absurd hD (hd i hi)⟩
theorem I32v_set (ys:List Int) (i:Nat) (x:Int):(I32v ys).set i (.int .i32 x)=I32v (ys.set i x):=by simp [I32v,List.map_set]
theorem I32v_len (ys:List Int):(I32v ys).length=ys.length:=by simp [I32v]
/-! ### tiles -/
def tileOf (cols:Nat) (i:Nat):Nat:=i / cols / 32 * ((cols+31) / 32)+i % cols / 32
theorem tile_parts {cols i k:Nat} (hc:0 < cols) (h:tileOf cols i=k):i / cols / 32=k / ((cols+31) / 32)∧i % cols / 32=k % ((cols+31) / 32):=by
 have hm:i % cols < cols:=Nat.mod_lt _ hc
 unfold tileOf at h
 have ha:0 < (cols+31) / 32:=by omega
 have hb:i % cols / 32 < (cols+31) / 32:=by omega
 generalize (cols+31) / 32=a at *
 subst h
 constructor
 ·rw [Nat.add_comm,Nat.add_mul_div_right _ _ ha,Nat.div_eq_of_lt hb,Nat.zero_add]
 ·rw [Nat.add_comm,Nat.add_mul_mod_self_right,Nat.mod_eq_of_lt hb]
theorem tile_last {rows cols i:Nat} (hc:0 < cols) (h:i < rows * cols):tileOf cols i < (rows+31) / 32 * ((cols+31) / 32):=by
 have hm:i % cols < cols:=Nat.mod_lt _ hc
 have hr:i / cols < rows:=Nat.div_lt_of_lt_mul (by rw [Nat.mul_comm];exact h)
 unfold tileOf
 have hb:i % cols / 32 < (cols+31) / 32:=by omega
 have hq:i / cols / 32+1≤(rows+31) / 32:=by omega
 have:=Nat.mul_le_mul_right ((cols+31) / 32) hq
 rw [Nat.add_mul,Nat.one_mul] at this
 omega
theorem place_of {cols r c:Nat} (hc:c < cols):(r * cols+c) / cols=r∧(r * cols+c) % cols=c:=by
 have h0:0 < cols:=by omega
 constructor
 ·rw [Nat.add_comm,Nat.add_mul_div_right _ _ h0,Nat.div_eq_of_lt hc,Nat.zero_add]
 ·rw [Nat.add_comm,Nat.add_mul_mod_self_right,Nat.mod_eq_of_lt hc]
theorem place_back {cols i:Nat} : i / cols * cols+i % cols=i:=by rw [Nat.mul_comm];exact Nat.div_add_mod i cols
theorem place_lt {rows cols r c:Nat} (hr:r < rows) (hc:c < cols):r * cols+c < rows * cols:=by
 have:=Nat.mul_le_mul_right cols (show r+1≤rows by omega)
 rw [Nat.add_mul,Nat.one_mul] at this
 omega
def Done3 (cols k r c i:Nat):Prop:=tileOf cols i < k∨(tileOf cols i=k∧(i / cols < r∨(i / cols=r∧i % cols < c)))
def Done2 (cols k r i:Nat):Prop:=tileOf cols i < k∨(tileOf cols i=k∧i / cols < r)
def Done1 (cols k i:Nat):Prop:=tileOf cols i < k
theorem done21 {cols k:Nat} (hc:0 < cols) {i:Nat} (h:Done2 cols k (k / ((cols+31) / 32) * 32) i):Done1 cols k i:=by
 rcases h with h | ⟨h1,h2⟩
 ·exact h
 ·have:=(tile_parts hc h1).1;omega
theorem done12 {cols k rows r i:Nat} (hc:0 < cols) (hi:i < rows * cols) (hr:r=rows∨(k / ((cols+31) / 32)+1) * 32≤r) (h:Done1 cols (k+1) i):Done2 cols k r i:=by
 have hq:i / cols < rows:=Nat.div_lt_of_lt_mul (by rw [Nat.mul_comm];exact hi)
 unfold Done1 at h
 rcases Nat.lt_or_ge (tileOf cols i) k with h1 | h1
 ·exact .inl h1
 ·have h2:tileOf cols i=k:=by omega
  have:=(tile_parts hc h2).1
  exact .inr ⟨h2,by omega⟩
theorem done32 {cols k r:Nat} (hc:0 < cols) {i:Nat} (h:Done3 cols k r (k % ((cols+31) / 32) * 32) i):Done2 cols k r i:=by
 rcases h with h | ⟨h1,h2⟩
 ·exact .inl h
 ·have:=(tile_parts hc h1).2
  exact .inr ⟨h1,by omega⟩
theorem done23 {cols k r c i:Nat} (hc:0 < cols) (hr:c=cols∨(k % ((cols+31) / 32)+1) * 32≤c) (h:Done2 cols k (r+1) i):Done3 cols k r c i:=by
 have hm:i % cols < cols:=Nat.mod_lt _ hc
 rcases h with h1 | ⟨h1,h2⟩
 ·exact .inl h1
 ·have:=(tile_parts hc h1).2
  exact .inr ⟨h1,by omega⟩
theorem done33 {cols k r c i:Nat} (h:Done3 cols k r (c+1) i):Done3 cols k r c i∨i=r * cols+c:=by
 rcases h with h1 | ⟨h1,h2⟩
 ·exact .inl (.inl h1)
 ·by_cases h3:i / cols=r∧i % cols=c
  ·right;rw [← h3.1, ← h3.2];exact place_back.symm
  ·exact .inl (.inr ⟨h1,by omega⟩)
section
variable {cols k a p q e0 e1 e2 e3:Nat} (hc:0 < cols) (ha:(cols+31) / 32=a) (hp:k / a=p) (hq:k % a=q)
include hc ha
theorem to21 (hp:k / a=p) (h0:p * 32=e0) {i:Nat} (h:Done2 cols k e0 i):Done1 cols k i:=by
 subst ha hp h0;exact done21 hc h
theorem to12 (hp:k / a=p) (h1:(p+1) * 32=e1) {rows r i:Nat} (hi:i < rows * cols) (hr:r=rows∨e1≤r) (h:Done1 cols (k+1) i):Done2 cols k r i:=by
 subst ha hp h1;exact done12 hc hi hr h
theorem to32 (hq:k % a=q) (h2:q * 32=e2) {r i:Nat} (h:Done3 cols k r e2 i):Done2 cols k r i:=by
 subst ha hq h2;exact done32 hc h
theorem to23 (hq:k % a=q) (h3:(q+1) * 32=e3) {r c i:Nat} (hr:c=cols∨e3≤c) (h:Done2 cols k (r+1) i):Done3 cols k r c i:=by
 subst ha hq h3;exact done23 hc hr h
end
def mulF (xs ys:List Int) (mid cols:Nat) (i:Nat):Int:=IntKind.i32.wrap (psum (fun k=>xs.getD (i / cols * mid+k) 0 * ys.getD (i % cols * mid+k) 0) mid)
theorem cut_getD (xs:List Int) {p m k:Nat} (h:k < m):((xs.drop p).take m).getD k 0=xs.getD (p+k) 0:=by
 rw [List.getD_eq_getElem?_getD,List.getElem?_take,if_pos h,List.getElem?_drop, ← List.getD_eq_getElem?_getD]
theorem cut_sum (xs ys:List Int) (p q m:Nat):psum (dotF ((xs.drop p).take m) ((ys.drop q).take m)) m=psum (fun k=>xs.getD (p+k) 0 * ys.getD (q+k) 0) m :=
 zb8 fun k hk=>by unfold dotF;rw [cut_getD _ hk,cut_getD _ hk]
theorem getD_none (xs:List Int) {k:Nat} (h:xs.length≤k):xs.getD k 0=0:=by rw [List.getD_eq_getElem?_getD,List.getElem?_eq_none h];rfl
theorem cut_I16 {xs:List Int} (h:I16b xs) (p m:Nat):I16b ((xs.drop p).take m):=fun q=>by
 by_cases hq:q < m
 ·rw [cut_getD _ hq];exact h _
 ·rw [getD_none _ (by simp;omega)];omega
theorem cut_I8 {xs:List Int} (h:I8b xs) (p m:Nat):I8b ((xs.drop p).take m):=fun q=>by
 by_cases hq:q < m
 ·rw [cut_getD _ hq];exact h _
 ·rw [getD_none _ (by simp;omega)];omega
theorem cut_rd {w:World} {B:Nat} {b o:Nat} {k:IntKind} {zs:List Int} (h:Kit.Rd w B (some ⟨b,o,none⟩) (zs.map (.int k))) (p m:Nat):Kit.Rd w B (some ⟨b,o+p,none⟩) (((zs.drop p).take m).map (.int k)):=by
 have h9:=(h.drop p).take m
 rw [Option.map_some,Go.WideShapes.add_plain] at h9
 rw [List.map_take,List.map_drop];exact h9
theorem cut_len {zs:List Int} {n p m:Nat} (hl:zs.length=n) (h:p+m≤n):((zs.drop p).take m).length=m:=by simp;omega
theorem mul_at (xs ys:List Int) {m c i j I1 I2 A1 B1:Nat} (h1:i * c=I1) (h2:I1+j=I2) (hj:j < c) (h3:i * m=A1) (h4:j * m=B1) {F:Nat→Int} (hF:F=mulF xs ys m c) :
  IntKind.i32.wrap (psum (dotF ((xs.drop A1).take m) ((ys.drop B1).take m)) m)=F I2:=by
 subst h1 h2 h3 h4 hF
 obtain⟨e1,e2⟩:=place_of (r:=i) hj
 rw [cut_sum]
 unfold mulF
 rw [e1,e2]
end CGemm
end
section
namespace CConv
open Go Go.ChangeShapes Go.WideShapes Go.ChangeAt Go.RowKit
open Plain CSat CShape CTensor
theorem own_cells {w:World} {base:Nat} {e:TypeId} {n:Nat} {v:Value} {xs:List Value} (h:w.ownsRow base e 1 v n xs) (hn:0 < n) :
  ∃ g cap,v=.slice (some ⟨g,0,none⟩) n cap∧base≤g∧g < w.heap.size∧n≤cap∧cap≤maxLen∧(∀ j u,xs[j]?=some u→w.cell? ⟨g,j,none⟩=some u)∧(∀ j,w.frozen? ⟨g,j,none⟩=false):=by
 rcases h.2 with ⟨_,h0⟩ | ⟨g,cap,cur,rfl,hb,hh,hnc,hcm,hs,ht⟩
 ·omega
 ·refine⟨g,cap,rfl,hb,(Array.getElem?_eq_some_iff.1 hh).1,hnc,hcm,fun j u hu=>?_,fun j=>?_⟩
  ·rw [← ht] at hu
   unfold World.cell?
   rw [hh]
   have hj:j < n * 1:=by
    rcases Nat.lt_or_ge j (n * 1) with hlt | hge
    ·exact hlt
    ·rw [List.getElem?_eq_none (by simp;omega)] at hu;cases hu
   rw [List.getElem?_take_of_lt hj] at hu
   simpa using hu
  ·unfold World.frozen?;rw [hh];simp
end CConv
end
section
namespace CPool
open Go Go.ChangeShapes Go.WideShapes Go.ChangeAt Go.RowKit
open Plain CSat CShape CTensor CConv
def hereL (zs:List Int) (H W C top left:Int) (o i j:Nat):List Int :=
 if 0≤top+(i:Int)∧top+(i:Int) < H∧0≤left+(j:Int)∧left+(j:Int) < W then [zs.getD (((top+(i:Int)) * W+(left+(j:Int))) * C+(o:Int)).toNat 0] else []
def colL (zs:List Int) (H W C top left:Int) (o i:Nat):Nat→List Int
 | 0=>[]
 | j+1=>colL zs H W C top left o i j ++ hereL zs H W C top left o i j
def rowsL (zs:List Int) (H W C top left:Int) (kk o:Nat):Nat→List Int
 | 0=>[]
 | i+1=>rowsL zs H W C top left kk o i ++ colL zs H W C top left o i kk
def windowL (zs:List Int) (H W C top left:Int) (kk o:Nat):List Int:=rowsL zs H W C top left kk o kk
theorem info_i8p:(Tryz.prog.info? 39).map (fun i=>(i.zero,i.size,i.bytes))=some (some (.int .i8 0),1,1):=by kernel_rfl
def MadeP (w:World) (H W C:Int) (n:Nat) (zs:List Int) (x:Value) (e:Ending) (w':World):Prop :=
 ∃ v,e=.returned (.tuple #[.agg #[.int .i64 H,.int .i64 W,.int .i64 C,v],x])∧w'.ownsRow w.heap.size 39 1 v n (I8s zs)∧Below w.heap.size w w'
end CPool
end
section
namespace CPad
open Go Go.ChangeShapes Go.WideShapes Go.ChangeAt Go.RowKit
open Plain CSat CShape CTensor
def mayZ (H W C:Int) (n:Nat) (p:Int):Int:=if tensB H W C n=true then (if p < 0∨4 < p then 2 else 0) else 5
theorem tens_bd2 {H W C:Int} {n:Nat} (ht:tensB H W C n=true):1≤H∧H≤16∧1≤W∧W≤16:=by
 simp only [tensB,Bool.and_eq_true] at ht
 obtain⟨a1,a2,a3,a4, -⟩:=zab ht.1
 exact⟨a1,a2,a3,a4⟩
theorem around_err (H W C:Int) (A:Option Addr) (n c:Nat) (p z:Int) (er:Int) (he:mayZ H W C n p=er) (h0:er≠0) (w:World) :
  Calls Tryz.prog 48 #[.agg #[.int .i64 H,.int .i64 W,.int .i64 C,.slice A n c],.int .i64 p,.int .i8 z] w (Made w 0 0 0 0 [] (.int .i64 er)):=by
 have HE:=hid (show (if tensB H W C n=true then (if p < 0∨4 < p then 2 else 0) else 5)=er from he)
 have h0b:(er != 0)=true:=by simpa using h0
 have h0c:(er == 0)=false:=by simpa using h0
 clear he
 go_enter Tryz.func48,Tryz.ntmps48
 go_wp2_with (go_at_call 91;(refine (za1 H W C A n c p er HE.out _).mono ?_);(rintro e w1 ⟨rfl,hb⟩;obtain⟨hcc,hff⟩:=Kit.bcell hb;have hz:w.heap.size+2≤w1.heap.size:=(by have:=hb.size;simp at this;omega);have hz1:w.heap.size+1 < w1.heap.size:=(by omega);have hz0:w.heap.size < w1.heap.size:=(by omega);have HB0:=hid hb;clear hb))
 refine bodyPost_ret (Kit.zaa rfl _ _ (w.heap.size+1) 0 [.int .i64 0,.int .i64 0,.int .i64 0,.slice none 0 0] _ rfl (zan (by go_cell) (by go_cell) (by go_cell) (by go_cell)) Tryz.underlying27 rfl (by kernel_rfl)) rfl ?_
 have hB1:Below w.heap.size w w1:=Below.trans (((Below.refl _ _).alloc (le_refl _) _).alloc (by simp) _) (HB0.out.mono (by first | omega | (simp;done) | (simp;omega)))
 exact⟨_,rfl,World.ownsRow_nil _ _ _ _,((((hB1.setCell (p:=⟨w.heap.size+1,0,none⟩) (by simp) _).setCell (p:=⟨w.heap.size+1,1,none⟩) (by simp) _).setCell (p:=⟨w.heap.size+1,2,none⟩) (by simp) _).setCell (p:=⟨w.heap.size+1,3,none⟩) (by simp) _)⟩
theorem around_yes (H W C:Int) (A:Option Addr) (zs:List Int) (n c:Nat) (p z:Int) (hn:zs.length=n) (hc:n≤c) (ht:tensB H W C n=true) (p0:0≤p) (p4:p≤4) (hs:zad (H+2 * p) (W+2 * p) C=true) (a b d:Nat) (hU:(H+2 * p)=(a:Int)) (hV:(W+2 * p)=(b:Int)) (hC:C=(d:Int)) (m:Nat) (hm:a * b * d=m) (F:Nat→Int) (hF:∀ i j k:Nat,i < a→j < b→k < d→pixZ zs H W C (IntKind.i64.wrap ((i:Int) - p)) (IntKind.i64.wrap ((j:Int) - p)) (k:Int) z=F ((i * b+j) * d+k)) {Bz:Nat} (w:World) (hBz:Bz≤w.heap.size) (hr:Kit.Rd w Bz A (I8s zs)) :
  Calls Tryz.prog 48 #[.agg #[.int .i64 H,.int .i64 W,.int .i64 C,.slice A n c],.int .i64 p,.int .i8 z] w (Made w (H+2 * p) (W+2 * p) C m (rowL F m) (.int .i64 0)):=by
 obtain⟨g1,g2,g3,g4⟩:=tens_bd2 ht
 have HE:=hid (show (if tensB H W C n=true then (if p < 0∨4 < p then 2 else 0) else 5)=(0:Int) by rw [if_pos ht,if_neg (by omega)])
 have HS:=hid hs
 have HT:=hid ht
 have HN:=hid hn
 have HU:=hid hU
 have HV:=hid hV
 have HCd:=hid hC
 have HMm:=hid hm
 have HF:=hid hF
 have HR:=hid hr
 have hcc0:n≤c:=hc
 clear hn hU hV hC hm hF hr
 clear hs ht
 go_enter Tryz.func48,Tryz.ntmps48
 go_wp2_with (go_at_call 91;(refine (za1 H W C A n c p 0 HE.out _).mono ?_);(rintro e w1 ⟨rfl,hb⟩;obtain⟨hcc,hff⟩:=Kit.bcell hb;have hz:w.heap.size+2≤w1.heap.size:=(by have:=hb.size;simp at this;omega);have hz1:w.heap.size+1 < w1.heap.size:=(by omega);have hz0:w.heap.size < w1.heap.size:=(by omega);have HB0:=hid hb;clear hb))
 have hbx:BoxAt w.heap.size H W C A n c w1.drew:=((BoxAt.newq H W C A n c 27 w).below (lt_succ_self _) ((Below.refl _ _).alloc (by simp) (.cells #[.int .i64 0,.int .i64 0,.int .i64 0,.slice none 0 0] 27))).below (by first | omega | (simp;done) | (simp;omega)) HB0.out.drew
 have HFR:Hid (zbm (w.heap.size+1) w1.drew):=hid ((zbm.new 27 (w.alloc (.cells #[.int .i64 H,.int .i64 W,.int .i64 C,.slice A n c] 27)) (w.heap.size+1) (by simp)).below (by first | omega | (simp;done) | (simp;omega)) HB0.out.drew)
 have HBW:Hid (Below w.heap.size w w1.drew):=hid ((Below.trans (((Below.refl _ _).alloc (le_refl _) _).alloc (by simp) _) (HB0.out.mono (by first | omega | (simp;done) | (simp;omega)))).drew)
 have hz:w.heap.size+2≤w1.drew.heap.size:=hz
 clear hcc hff HB0 hz1 hz0
 refine wp_region_held_drew (S:=BoxAt w.heap.size H W C A n c) (by kernel_rfl) hbx (fun hHeld=>?_)
 clear hbx
 generalize w1.drew=Wa at HFR HBW hz hHeld ⊢
 refine Tk.x 0 rfl ?_
 try simp only [Tk.put]
 refine Tk.y 1 (v:=?_) rfl ?_ ?_
 rotate_left
 ·intro wS hSw
  obtain⟨s1,s2,s3,s4⟩:=hSw
  first | (go_simp;done) | (go_simp;with_reducible rfl)
 try simp only [Tk.put]
 refine Tk.x 2 rfl ?_
 try simp only [Tk.put]
 refine Tk.y 4 (v:=?_) rfl ?_ ?_
 rotate_left
 ·intro wS hSw
  obtain⟨s1,s2,s3,s4⟩:=hSw
  first | (go_simp;done) | (go_simp;with_reducible rfl)
 try simp only [Tk.put]
 refine Tk.x 5 rfl ?_
 try simp only [Tk.put]
 refine Tk.x 6 rfl ?_
 try simp only [Tk.put]
 refine Tk.x 7 rfl ?_
 try simp only [Tk.put]
 refine Tk.s 3 rfl (fun K hK=>?_)
 go_simp
 go_at_call 93
 refine (widened_to H W C p g1 g2 g3 g4 (by omega) (by omega) _).mono ?_
 rintro e Wb ⟨rfl,hb1⟩
 have hS1:=hHeld.below (B':=_) (by omega) hb1
 replace HFR:=hid (HFR.out.below (B':=_) (by omega) hb1)
 replace HBW:=hid (HBW.out.trans (hb1.mono (by omega)))
 replace hz:=Nat.le_trans hz hb1.size
 clear hb1 hHeld
 dsimp only
 refine hK.out _ _ ?_ (fun hHeld=>?_)
 ·exact hS1
 clear hK K
 try simp only [Tk.put]
 refine Tk.s 8 rfl (fun K hK=>?_)
 go_simp
 go_at_call 94
 refine (moved_to H W C A n c p p z _).mono ?_
 rintro e Wc ⟨rfl,hmv,hzm,hb2⟩
 have HMV:=hid hmv
 have hS1:=hHeld.below (B':=_) (by omega) hb2
 replace HFR:=hid (HFR.out.below (B':=_) (by omega) hb2)
 replace HBW:=hid (HBW.out.trans (hb2.mono (by omega)))
 have hzc:=Nat.le_trans hz hb2.size
 have hzg:w.heap.size+2≤Wb.heap.size:=by assumption
 clear hb2 hHeld hmv
 dsimp only
 refine hK.out _ _ ?_ (fun hHeld=>?_)
 ·exact hS1
 clear hK K
 try simp only [Tk.put]
 refine Tk.s 9 rfl (fun K hK=>?_)
 go_simp
 go_at_call 92
 refine (build_yes (H+2 * p) (W+2 * p) H W C A zs n c HN.out hcc0 HT.out HS.out a b d HU.out HV.out HCd.out m HMm.out p p z F HF.out (B:=Wb.heap.size) (Bz:=Bz) _ HMV.out hzm (Nat.le_trans hBz HBW.out.size) (HR.out.below (HBW.out.mono hBz))).mono ?_
 rintro e Wd ⟨vd,rfl,ho3,hb3⟩
 obtain⟨Ad,cd,rfl, -, -, -⟩:=Kit.zam ho3
 have HO:=hid (Kit.zah ho3 (show w.heap.size+2≤Wc.heap.size by omega))
 have hS1:=hHeld.below (B':=_) (by omega) hb3
 replace HFR:=hid (HFR.out.below (B':=_) (by omega) hb3)
 replace HBW:=hid (HBW.out.trans (hb3.mono (by omega)))
 have hzd:=Nat.le_trans hzc hb3.size
 clear hb3 hHeld ho3
 obtain⟨⟨z0,z1,z2,z3⟩,z4,z5,z6,z7⟩:=HFR.out
 dsimp only
 refine hK.out _ _ ?_ (fun hHeld=>?_)
 ·exact hS1
 clear hK K
 try simp only [Tk.put]
 refine Tk.x 10 rfl ?_
 try simp only [Tk.put]
 refine Tk.x 11 rfl ?_
 try simp only [Tk.put]
 refine Tk.s 12 rfl (fun K hK=>?_)
 go_simp
 refine hK.out _ _ ?_ (fun hHeld=>?_)
 ·exact hHeld.stores (by omega) _ _ _ _
 clear hK K
 try simp only [Tk.put]
 refine Tk.x 13 rfl ?_
 try simp only [Tk.put]
 refine wpAnyH_done (by kernel_rfl) ?_ _
 go_wp2_with fail
 refine bodyPost_ret (Kit.zaa rfl _ _ (w.heap.size+1) 0 [.int .i64 (H+2 * p),.int .i64 (W+2 * p),.int .i64 C,.slice Ad m cd] _ rfl (zan (by go_cell) (by go_cell) (by go_cell) (by go_cell)) Tryz.underlying27 rfl (by kernel_rfl)) rfl ?_
 refine⟨_,rfl,Kit.zah (zat (zat (zat (zat HO.out _ _ ?_) _ _ ?_) _ _ ?_) _ _ ?_) ?_,?_⟩
 any_goals (first | omega | (simp;done) | (simp;omega))
 exact ((((HBW.out.setCell (p:=⟨w.heap.size+1,0,none⟩) (by simp) _).setCell (p:=⟨w.heap.size+1,1,none⟩) (by simp) _).setCell (p:=⟨w.heap.size+1,2,none⟩) (by simp) _).setCell (p:=⟨w.heap.size+1,3,none⟩) (by simp) _)
theorem around_no (H W C:Int) (A:Option Addr) (n c:Nat) (p z:Int) (ht:tensB H W C n=true) (p0:0≤p) (p4:p≤4) (hs:zad (H+2 * p) (W+2 * p) C=false) (w:World) :
  Calls Tryz.prog 48 #[.agg #[.int .i64 H,.int .i64 W,.int .i64 C,.slice A n c],.int .i64 p,.int .i8 z] w (Made w 0 0 0 0 [] (.int .i64 5)):=by
 obtain⟨g1,g2,g3,g4⟩:=tens_bd2 ht
 have HE:=hid (show (if tensB H W C n=true then (if p < 0∨4 < p then 2 else 0) else 5)=(0:Int) by rw [if_pos ht,if_neg (by omega)])
 have HS:=hid hs
 have HT:=hid ht
 clear hs ht
 go_enter Tryz.func48,Tryz.ntmps48
 go_wp2_with (go_at_call 91;(refine (za1 H W C A n c p 0 HE.out _).mono ?_);(rintro e w1 ⟨rfl,hb⟩;obtain⟨hcc,hff⟩:=Kit.bcell hb;have hz:w.heap.size+2≤w1.heap.size:=(by have:=hb.size;simp at this;omega);have hz1:w.heap.size+1 < w1.heap.size:=(by omega);have hz0:w.heap.size < w1.heap.size:=(by omega);have HB0:=hid hb;clear hb))
 have hbx:BoxAt w.heap.size H W C A n c w1.drew:=((BoxAt.newq H W C A n c 27 w).below (lt_succ_self _) ((Below.refl _ _).alloc (by simp) (.cells #[.int .i64 0,.int .i64 0,.int .i64 0,.slice none 0 0] 27))).below (by first | omega | (simp;done) | (simp;omega)) HB0.out.drew
 have HFR:Hid (zbm (w.heap.size+1) w1.drew):=hid ((zbm.new 27 (w.alloc (.cells #[.int .i64 H,.int .i64 W,.int .i64 C,.slice A n c] 27)) (w.heap.size+1) (by simp)).below (by first | omega | (simp;done) | (simp;omega)) HB0.out.drew)
 have HBW:Hid (Below w.heap.size w w1.drew):=hid ((Below.trans (((Below.refl _ _).alloc (le_refl _) _).alloc (by simp) _) (HB0.out.mono (by first | omega | (simp;done) | (simp;omega)))).drew)
 have hz:w.heap.size+2≤w1.drew.heap.size:=hz
 clear hcc hff HB0 hz1 hz0
 refine wp_region_held_drew (S:=BoxAt w.heap.size H W C A n c) (by kernel_rfl) hbx (fun hHeld=>?_)
 clear hbx
 generalize w1.drew=Wa at HFR HBW hz hHeld ⊢
 refine Tk.x 0 rfl ?_
 try simp only [Tk.put]
 refine Tk.y 1 (v:=?_) rfl ?_ ?_
 rotate_left
 ·intro wS hSw
  obtain⟨s1,s2,s3,s4⟩:=hSw
  first | (go_simp;done) | (go_simp;with_reducible rfl)
 try simp only [Tk.put]
 refine Tk.x 2 rfl ?_
 try simp only [Tk.put]
 refine Tk.y 4 (v:=?_) rfl ?_ ?_
 rotate_left
 ·intro wS hSw
  obtain⟨s1,s2,s3,s4⟩:=hSw
  first | (go_simp;done) | (go_simp;with_reducible rfl)
 try simp only [Tk.put]
 refine Tk.x 5 rfl ?_
 try simp only [Tk.put]
 refine Tk.x 6 rfl ?_
 try simp only [Tk.put]
 refine Tk.x 7 rfl ?_
 try simp only [Tk.put]
 refine Tk.s 3 rfl (fun K hK=>?_)
 go_simp
 go_at_call 93
 refine (widened_to H W C p g1 g2 g3 g4 (by omega) (by omega) _).mono ?_
 rintro e Wb ⟨rfl,hb1⟩
 have hS1:=hHeld.below (B':=_) (by omega) hb1
 replace HFR:=hid (HFR.out.below (B':=_) (by omega) hb1)
 replace HBW:=hid (HBW.out.trans (hb1.mono (by omega)))
 replace hz:=Nat.le_trans hz hb1.size
 clear hb1 hHeld
 dsimp only
 refine hK.out _ _ ?_ (fun hHeld=>?_)
 ·exact hS1
 clear hK K
 try simp only [Tk.put]
 refine Tk.s 8 rfl (fun K hK=>?_)
 go_simp
 go_at_call 94
 refine (moved_to H W C A n c p p z _).mono ?_
 rintro e Wc ⟨rfl,hmv,hzm,hb2⟩
 have HMV:=hid hmv
 have hS1:=hHeld.below (B':=_) (by omega) hb2
 replace HFR:=hid (HFR.out.below (B':=_) (by omega) hb2)
 replace HBW:=hid (HBW.out.trans (hb2.mono (by omega)))
 have hzc:=Nat.le_trans hz hb2.size
 have hzg:w.heap.size+2≤Wb.heap.size:=by assumption
 clear hb2 hHeld hmv
 dsimp only
 refine hK.out _ _ ?_ (fun hHeld=>?_)
 ·exact hS1
 clear hK K
 try simp only [Tk.put]
 refine Tk.s 9 rfl (fun K hK=>?_)
 go_simp
 go_at_call 92
 refine (build_no (H+2 * p) (W+2 * p) C HS.out _ _).mono ?_
 rintro e Wd ⟨rfl,hb3⟩
 have hS1:=hHeld.below (B':=_) (by omega) hb3
 replace HFR:=hid (HFR.out.below (B':=_) (by omega) hb3)
 replace HBW:=hid (HBW.out.trans (hb3.mono (by omega)))
 have hzd:=Nat.le_trans hzc hb3.size
 clear hb3 hHeld
 obtain⟨⟨z0,z1,z2,z3⟩,z4,z5,z6,z7⟩:=HFR.out
 dsimp only
 refine hK.out _ _ ?_ (fun hHeld=>?_)
 ·exact hS1
 clear hK K
 try simp only [Tk.put]
 refine Tk.x 10 rfl ?_
 try simp only [Tk.put]
 refine Tk.x 11 rfl ?_
 try simp only [Tk.put]
 refine Tk.s 12 rfl (fun K hK=>?_)
 go_simp
 refine hK.out _ _ ?_ (fun hHeld=>?_)
 ·exact hHeld.stores (by omega) _ _ _ _
 clear hK K
 try simp only [Tk.put]
 refine Tk.x 13 rfl ?_
 try simp only [Tk.put]
 refine wpAnyH_done (by kernel_rfl) ?_ _
 go_wp2_with fail
 refine bodyPost_ret (Kit.zaa rfl _ _ (w.heap.size+1) 0 [.int .i64 0,.int .i64 0,.int .i64 0,.slice none 0 0] _ rfl (zan (by go_cell) (by go_cell) (by go_cell) (by go_cell)) Tryz.underlying27 rfl (by kernel_rfl)) rfl ?_
 exact⟨_,rfl,World.ownsRow_nil _ _ _ _,((((HBW.out.setCell (p:=⟨w.heap.size+1,0,none⟩) (by simp) _).setCell (p:=⟨w.heap.size+1,1,none⟩) (by simp) _).setCell (p:=⟨w.heap.size+1,2,none⟩) (by simp) _).setCell (p:=⟨w.heap.size+1,3,none⟩) (by simp) _)⟩
def gridF (b d:Nat) (G:Nat→Nat→Nat→Int) (i:Nat):Int:=G (i / d / b) (i / d % b) (i % d)
theorem grid_at (b d:Nat) (G:Nat→Nat→Nat→Int) {i j k:Nat} (hj:j < b) (hk:k < d):gridF b d G ((i * b+j) * d+k)=G i j k:=by
 unfold gridF
 have h1:((i * b+j) * d+k) / d=i * b+j:=by rw [Nat.mul_comm,Nat.mul_add_div (by omega),Nat.div_eq_of_lt hk];rfl
 have h2:((i * b+j) * d+k) % d=k:=by rw [Nat.mul_comm,Nat.mul_add_mod,Nat.mod_eq_of_lt hk]
 have h3:(i * b+j) / b=i:=by rw [Nat.mul_comm,Nat.mul_add_div (by omega),Nat.div_eq_of_lt hj];rfl
 have h4:(i * b+j) % b=j:=by rw [Nat.mul_comm,Nat.mul_add_mod,Nat.mod_eq_of_lt hj]
 rw [h1,h2,h3,h4]
end CPad
end
end Go.Proofs.YtahekhpeomcfjaaGreatDoor
