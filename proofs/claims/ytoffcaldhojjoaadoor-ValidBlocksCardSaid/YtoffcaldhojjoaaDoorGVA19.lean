/- -/
import Derived.Test.YtoffcaldhojjoaaDoorGVA18
open Go.Lib (hid)
open Nat (le_refl lt_of_succ_lt lt_succ_self)
set_option linter.unusedVariables false
set_option linter.unusedSimpArgs false
set_option maxRecDepth 100000
set_option maxHeartbeats 16000000
namespace Go.Proofs.YtoffcaldhojjoaaDoor
namespace CConv
end CConv
namespace CDense
end CDense
namespace CFix
end CFix
namespace CGraph
end CGraph
namespace CKind
end CKind
namespace CSat
end CSat
namespace CTensor
end CTensor
namespace Kit
end Kit
open Go Go.ChangeShapes Go.WideShapes Go.ChangeAt Go.RowKit Go.Deep
section
namespace CGraph
open Plain CSat CFix CShape CTensor CConv CDense CDepth CKind
abbrev Tri:=Int × Int × Int
def triA (a:Array Value):Tri:=(intOf (a.getD 0 undef),intOf (a.getD 1 undef),intOf (a.getD 2 undef))
def sndZ (x:Nd):Int:=if x.kd=6 then x.nb else x.na
def zbm (x:Nd) (many:Nat):Bool:=decide (0≤x.na∧x.na < many∧(x.kd=6→0≤x.nb∧x.nb < many))
def tri0:Tri:=(0,0,0)
def nextE (x:Nd) (l:List Tri):Int :=
 x.shE (l.getD x.na.toNat tri0).1 (l.getD x.na.toNat tri0).2.1 (l.getD x.na.toNat tri0).2.2 (l.getD (sndZ x).toNat tri0).1 (l.getD (sndZ x).toNat tri0).2.1 (l.getD (sndZ x).toNat tri0).2.2
def nextT (x:Nd) (l:List Tri):Tri :=
 triA (x.shV (l.getD x.na.toNat tri0).1 (l.getD x.na.toNat tri0).2.1 (l.getD x.na.toNat tri0).2.2 (l.getD (sndZ x).toNat tri0).1 (l.getD (sndZ x).toNat tri0).2.1 (l.getD (sndZ x).toNat tri0).2.2)
def stopZ (x:Nd) (l:List Tri):Int:=if x.checkZ≠0 then x.checkZ else if zbm x l.length=false then 8 else nextE x l
def shL (X:Nat→Nd) (t0:Tri):Nat→List Tri
 | 0=>[t0]
 | k+1=>shL X t0 k ++ [nextT (X k) (shL X t0 k)]
theorem shL_len (X:Nat→Nd) (t0:Tri) (k:Nat):(shL X t0 k).length=k+1:=by
 induction k with
 | zero=>rfl
 | succ k ih=>simp [shL,ih]
def zbn (X:Nat→Nd) (t0:Tri):Nat→Option (Nat × Int)
 | 0=>none
 | k+1=>match zbn X t0 k with
   | some r=>some r
   | none=>if stopZ (X k) (shL X t0 k)=0 then none else some (k,stopZ (X k) (shL X t0 k))
theorem stopAt_go {X:Nat→Nd} {t0:Tri} {k:Nat} (h:zbn X t0 k=none) (hz:stopZ (X k) (shL X t0 k)=0):zbn X t0 (k+1)=none:=by
 simp [zbn,h,hz]
theorem stopAt_end {X:Nat→Nd} {t0:Tri} {k n:Nat} (hk:k < n) (h:zbn X t0 k=none) (hz:stopZ (X k) (shL X t0 k)≠0):zbn X t0 n=some (k,stopZ (X k) (shL X t0 k)):=by
 obtain⟨d,rfl⟩:∃ d,n=k+1+d:=⟨n - (k+1),by omega⟩
 clear hk
 induction d with
 | zero=>simp [zbn,h,hz]
 | succ d ih=>rw [show k+1+(d+1)=(k+1+d)+1 by omega,zbn,ih]
theorem check_nb {x:Nd} (h:x.checkZ=0) (hk:x.kd≠6):x.nb=0:=by
 have h1:x.moreB=false:=by
  unfold Nd.checkZ at h
  by_cases a:x.kd < 1∨9 < x.kd
  ·rw [if_pos a] at h;omega
  ·rw [if_neg a] at h
   cases e:x.moreB with
   | false=>rfl
   | true=>rw [e] at h;simp at h
 unfold Nd.moreB at h1
 simp only [Bool.or_eq_false_iff,Bool.and_eq_false_iff] at h1
 have h2:=h1.1.1.1.2
 rcases h2 with h2 | h2
 ·exact absurd (by simpa using h2) hk
 ·simpa using h2.1.1.1
theorem sh_indep (x:Nd) (hk:x.kd≠6) (H W C a b c a' b' c':Int):x.shE H W C a b c=x.shE H W C a' b' c'∧x.shV H W C a b c=x.shV H W C a' b' c':=by
 have e:x.shE H W C a b c=x.shE H W C a' b' c':=by
  unfold Nd.shE
  simp only [hk,false_and,if_false]
 refine⟨e,?_⟩
 unfold Nd.shV
 rw [e]
def opL (x:Nd):List Int:=if x.kd=6 then [x.na,x.nb] else [x.na]
def earB:List Int→Int→Bool
 | [],_=>true
 | v :: r,m=>decide (0≤v∧v < m) && earB r m
theorem ear_there (x:Nd) (many:Nat):earB (opL x) many=zbm x many:=by
 unfold opL zbm
 by_cases h:x.kd=6
 ·rw [if_pos h];simp [earB,h];rw [Bool.eq_iff_iff];simp;omega
 ·rw [if_neg h];simp [earB,h]
def tvV:List Tri→List Value
 | []=>[]
 | a :: r=>.int .i64 a.1 :: .int .i64 a.2.1 :: .int .i64 a.2.2 :: tvV r
theorem tvV_len:∀ L,(tvV L).length=L.length * 3
 | []=>rfl
 | a :: r=>by simp [tvV,tvV_len r];omega
theorem tvV_append:∀ L M,tvV (L ++ M)=tvV L ++ tvV M
 | [],M=>rfl
 | a :: r,M=>by simp [tvV,tvV_append r M]
theorem tvV_get:∀ (L:List Tri) (k:Nat) (a:Tri),L[k]?=some a→(tvV L)[k * 3]?=some (.int .i64 a.1)∧(tvV L)[k * 3+1]?=some (.int .i64 a.2.1)∧(tvV L)[k * 3+2]?=some (.int .i64 a.2.2)
 | [],k,a,h=>by simp at h
 | b :: r,0,a,h=>by simp at h;subst h;simp [tvV]
 | b :: r,k+1,a,h=>by
   obtain⟨h1,h2,h3⟩:=tvV_get r k a (by simpa using h)
   rw [show (k+1) * 3=k * 3+1+1+1 by omega,tvV]
   refine⟨?_,?_,?_⟩
   ·simpa using h1
   ·rw [show k * 3+1+1+1+1=(k * 3+1)+1+1+1 by omega];simpa using h2
   ·rw [show k * 3+1+1+1+2=(k * 3+2)+1+1+1 by omega];simpa using h3
theorem tv_cells {w:World} {B:Nat} {A:Option Addr} {L:List Tri} (h:Kit.Rd w B A (tvV L)) (hn:0 < L.length) :
  ∃ b o,A=some ⟨b,o,none⟩∧b < B∧∀ k a,L[k]?=some a→w.rangeAt b (o+k * 3) [.int .i64 a.1,.int .i64 a.2.1,.int .i64 a.2.2]:=by
 obtain⟨b,o,e,hb,hc⟩:=h.plain (by rw [tvV_len];omega)
 refine⟨b,o,e,hb,fun k a hk q v hq=>?_⟩
 obtain⟨h1,h2,h3⟩:=tvV_get L k a hk
 match q,hq with
 | 0,hq=>simp at hq;subst hq;exact hc (k * 3) _ h1
 | 1,hq=>simp at hq;subst hq;rw [Nat.add_assoc];exact hc (k * 3+1) _ h2
 | 2,hq=>simp at hq;subst hq;rw [Nat.add_assoc];exact hc (k * 3+2) _ h3
theorem NodesAt.below {w w':World} {B:Nat} {A:Option Addr} {n:Nat} {X:Nat→Nd} (h:NodesAt w B A n X) (hb:Below B w w'):NodesAt w' B A n X:=fun j hj=>by
 obtain⟨b,o,e,h1,h2⟩:=h j hj
 exact⟨b,o,e,h1,fun q v hq=>(hb.cell (p:=⟨b,o+j * 19+q,none⟩) h1).trans (h2 q v hq)⟩
theorem NodesAt.more {w:World} {B B':Nat} {A:Option Addr} {n:Nat} {X:Nat→Nd} (h:NodesAt w B A n X) (hb:B≤B'):NodesAt w B' A n X:=fun j hj=>by
 obtain⟨b,o,e,h1,h2⟩:=h j hj
 exact⟨b,o,e,Nat.lt_of_lt_of_le h1 hb,h2⟩
end CGraph
end
section
namespace CKind
open Plain CSat CShape CTensor CConv
theorem zci (a b c x y z:Int) (w:World):(Op.equalIn 10000 65 (.agg #[.int .i32 a,.int .i64 b,.int .i8 c]) (.agg #[.int .i32 x,.int .i64 y,.int .i8 z])).run Tryd.prog w=.ok (a == x && (b == y && c == z)) w:=by
 have u1:=Tryd.underlying21
 have a1:=Tryd.isAgg21
 have z1:=Tryd.sizeOf21
 have u2:=Tryd.underlying59
 have a2:=Tryd.isAgg59
 have z2:=Tryd.sizeOf59
 have u3:=Tryd.underlying3
 have a3:=Tryd.isAgg3
 have z3:=Tryd.sizeOf3
 have hS:Tryd.prog.underlying 65=some (.struct (Tryd.prog.fieldsOf 65)):=by kernel_rfl
 rw [show (10000:Nat)=9999+1 from rfl,run_equalIn_agg w 9999 65 _ _ hS Tryd.stoodInHeld65]
 simp only [Program.fieldsOf,Tryd.underlying65]
 go_simp
 by_cases h1:a=x <;> by_cases h2:b=y <;> by_cases h3:c=z <;> simp [h1,h2,h3]
end CKind
end
section
namespace CBund
open Kit CKind CGraph
theorem ListOk.below {w w':World} {B:Nat} {k:IntKind} {A:Option Addr} {n c:Nat} (h:ListOk w B k A n c) (hb:Below B w w'):ListOk w' B k A n c:=by
 obtain⟨zs,h1,h2,h3,h4,h5⟩:=h
 exact⟨zs,h1,h2,h3,h4,h5.below hb⟩
theorem ListOk.more {w:World} {B B':Nat} {k:IntKind} {A:Option Addr} {n c:Nat} (h:ListOk w B k A n c) (hB:B≤B'):ListOk w B' k A n c:=by
 obtain⟨zs,h1,h2,h3,h4,h5⟩:=h
 exact⟨zs,h1,h2,h3,h4,h5.more hB⟩
theorem NdOk.below {w w':World} {B:Nat} {x:Nd} (h:NdOk w B x) (hb:Below B w w'):NdOk w' B x:=by
 obtain⟨h1,h2,h3,h4,h5,h6,⟨zs,a1,a2,a3,a4,a5⟩,⟨ys,b1,b2,b3,b4,b5⟩⟩:=h
 exact⟨h1,h2,h3,h4,h5,h6,⟨zs,a1,a2,a3,a4,a5.below hb⟩,⟨ys,b1,b2,b3,b4,b5.below hb⟩⟩
theorem NdOk.more {w:World} {B B':Nat} {x:Nd} (h:NdOk w B x) (hB:B≤B'):NdOk w B' x:=by
 obtain⟨h1,h2,h3,h4,h5,h6,⟨zs,a1,a2,a3,a4,a5⟩,⟨ys,b1,b2,b3,b4,b5⟩⟩:=h
 exact⟨h1,h2,h3,h4,h5,h6,⟨zs,a1,a2,a3,a4,a5.more hB⟩,⟨ys,b1,b2,b3,b4,b5.more hB⟩⟩
theorem BkOk.below {w w':World} {B:Nat} {b:Bk} (h:BkOk w B b) (hb:Below B w w'):BkOk w' B b :=
 ⟨h.cap,h.nodes.below hb,fun j hj=>NdOk.below (h.each j hj) hb,h.head.1,h.head.2.1.below hb,h.head.2.2.below hb⟩
theorem BkOk.more {w:World} {B B':Nat} {b:Bk} (h:BkOk w B b) (hB:B≤B'):BkOk w B' b :=
 ⟨h.cap,h.nodes.more hB,fun j hj=>NdOk.more (h.each j hj) hB,h.head.1,h.head.2.1.more hB,h.head.2.2.more hB⟩
theorem MdOk.below {w w':World} {B:Nat} {m:Md} (h:MdOk w B m) (hb:Below B w w'):MdOk w' B m :=
 ⟨h.cap,zbz.below h.blocks hb,fun j hj=>(h.each j hj).below hb⟩
theorem MdOk.more {w:World} {B B':Nat} {m:Md} (h:MdOk w B m) (hB:B≤B'):MdOk w B' m :=
 ⟨h.cap,zbz.more h.blocks hB,fun j hj=>(h.each j hj).more hB⟩
theorem BuOk.below {w w':World} {B:Nat} {u:Bu} (h:BuOk w B u) (hb:Below B w w'):BuOk w' B u :=
 ⟨h.nums,h.cap,zbz.below h.models hb,fun j hj=>(h.each j hj).below hb⟩
theorem BuOk.more {w:World} {B B':Nat} {u:Bu} (h:BuOk w B u) (hB:B≤B'):BuOk w B' u :=
 ⟨h.nums,h.cap,zbz.more h.models hB,fun j hj=>(h.each j hj).more hB⟩
end CBund
end
section
namespace CFix
open Go Go.ChangeShapes Go.WideShapes Go.ChangeAt Go.RowKit
open Plain CSat
theorem refRound_int (v s t:Int) (h1:0≤s) (h2:s≤62) (hv1 : -9223372036854775808≤v) (hv2:v≤9223372036854775807) (ht:zbb v s.toNat=t) (w:World) :
  Calls Tryd.prog 63 #[.int .i64 v,.int .i64 s] w fun e w'=>e=.returned (.int .i64 t)∧∃ m,w'=w.drewN m:=by
 obtain⟨n,rfl⟩:=Int.eq_ofNat_of_zero_le h1
 exact ht ▸ refRound_yes v n (by omega) hv1 hv2 w
theorem scale_int (a m s t:Int) (h1:0≤s) (h2:s≤62) (ha1 : -2147483648≤a) (ha2:a≤2147483647) (hm1 : -2147483648≤m) (hm2:m≤2147483647) (ht:zbb (a * m) s.toNat=t) (w:World) :
  Calls Tryd.prog 101 #[.int .i32 a,.int .i32 m,.int .i64 s] w fun e w'=>e=.returned (.int .i64 t)∧w=w':=by
 obtain⟨n,rfl⟩:=Int.eq_ofNat_of_zero_le h1
 exact ht ▸ scale_yes a m n (by omega) ha1 ha2 hm1 hm2 w
end CFix
end
section
namespace CJoin
open Plain CSat CFix CShape CTensor CConv
def NBd (Z Y m1 z1 m2 z2 lo hi:Int):Prop:=(-128≤Z∧Z≤127)∧(-128≤Y∧Y≤127)∧(-2147483648≤m1∧m1≤2147483647)∧(-128≤z1∧z1≤127)∧(-2147483648≤m2∧m2≤2147483647)∧(-128≤z2∧z2≤127)∧(-128≤lo∧lo≤127)∧(-128≤hi∧hi≤127)
def oneZ (x y Z Y m1 s1 z1 m2 s2 lo hi:Int):Int :=
 if (zay m1 s1 && zay m2 s2)=true then zbq (zbb ((x - Z) * m1) s1.toNat+zbb ((y - Y) * m2) s2.toNat+z1) lo hi else 0
theorem clampZ_bd (v lo hi:Int) (hl1 : -128≤lo) (hl2:lo≤127) (hh1 : -128≤hi) (hh2:hi≤127) : -128≤zbq v lo hi∧zbq v lo hi≤127:=by
 unfold zbq;split <;> (try split) <;> omega
theorem rightB_yes {m s:Int} (h:zay m s=true):0 < m∧0≤s∧s≤62:=by simpa [zay] using h
theorem jclamp_to (v lo hi r:Int) (h:zbq v lo hi=r) (hl1 : -128≤lo) (hl2:lo≤127) (hh1 : -128≤hi) (hh2:hi≤127) (w:World) :
  Calls Tryd.prog 91 #[.int .i64 v,.int .i8 lo,.int .i8 hi] w fun e w'=>e=.returned (.int .i8 r)∧w=w':=by
 subst h
 by_cases h1:v < lo
 ·go_enter Tryd.func91,Tryd.ntmps91
  go_wp2
  go_ret
  exact⟨zbo (by exact clampZ_lo (by omega)),rfl⟩
 ·by_cases h2:v > hi
  ·go_enter Tryd.func91,Tryd.ntmps91
   go_wp2
   go_ret
   exact⟨zbo (by exact clampZ_hi (by omega) (by omega)),rfl⟩
  ·go_enter Tryd.func91,Tryd.ntmps91
   go_wp2
   go_ret
   exact⟨zbo (by exact clampZ_in (by omega) (by omega)),rfl⟩
theorem term_abs {x Z m:Int} (hx1 : -128≤x) (hx2:x≤127) (hz1 : -128≤Z) (hz2:Z≤127) (hm1:0 < m) (hm2:m≤2147483647) : -547608329985≤(x - Z) * m∧(x - Z) * m≤547608329985:=by
 have h1:(x - Z) * m≤255 * 2147483647:=by
  by_cases h:0≤x - Z
  ·exact Int.mul_le_mul (by omega) (by omega) (by omega) (by omega)
  ·exact Int.le_trans (Int.mul_nonpos_of_nonpos_of_nonneg (by omega) (by omega)) (by omega)
 have h2:(Z - x) * m≤255 * 2147483647:=by
  by_cases h:0≤Z - x
  ·exact Int.mul_le_mul (by omega) (by omega) (by omega) (by omega)
  ·exact Int.le_trans (Int.mul_nonpos_of_nonpos_of_nonneg (by omega) (by omega)) (by omega)
 have h3:(Z - x) * m = -((x - Z) * m):=by rw [← Int.neg_mul];congr 1;omega
 omega
theorem round_term {x Z m s:Int} (hx1 : -128≤x) (hx2:x≤127) (hz1 : -128≤Z) (hz2:Z≤127) (hm2:m≤2147483647) (h:zay m s=true) : -547608329985≤zbb ((x - Z) * m) s.toNat∧zbb ((x - Z) * m) s.toNat≤547608329985:=by
 obtain⟨h1,h2,h3⟩:=rightB_yes h
 obtain⟨b1,b2⟩:=term_abs hx1 hx2 hz1 hz2 h1 hm2
 have:=round_abs ((x - Z) * m) s.toNat (by omega) (by omega) (by omega)
 omega
theorem scaled_to (x Z m s z t:Int) (hx1 : -128≤x) (hx2:x≤127) (hz1 : -128≤Z) (hz2:Z≤127) (hm2:m≤2147483647) (h:zay m s=true) (ht:zbb ((x - Z) * m) s.toNat=t) (w:World) :
  Calls Tryd.prog 92 #[.int .i8 x,.int .i8 Z,.agg #[.int .i32 m,.int .i64 s,.int .i8 z]] w fun e w'=>e=.returned (.int .i64 t)∧Below w.heap.size w w':=by
 obtain⟨h1,h2,h3⟩:=rightB_yes h
 obtain⟨y,hy⟩:∃ y,x - Z=y:=⟨_,rfl⟩
 have hw:IntKind.i32.wrap (x - Z)=y:=by rw [IntWalk.i32_in _ (by omega),hy]
 have e1:IntKind.i32.wrap x=x:=IntWalk.i32_in _ (by omega)
 have e2:IntKind.i32.wrap Z=Z:=IntWalk.i32_in _ (by omega)
 have y1 : -2147483648≤y:=by omega
 have y2:y≤2147483647:=by omega
 have m1 : -2147483648≤m:=by omega
 rw [hy] at ht
 have HT:=hid ht
 clear hy ht h
 go_enter Tryd.func92,Tryd.ntmps92
 go_wp2_with (go_at_call 101;refine (scale_int y m s t h2 h3 y1 y2 m1 hm2 HT.out _).mono ?_;rintro e w' ⟨rfl,rfl⟩)
 go_ret
 exact⟨rfl,(Below.refl _ _).alloc (le_refl _) _⟩
theorem zb7 (m s z:Int) (w:World):Calls Tryd.prog 71 #[.agg #[.int .i32 m,.int .i64 s,.int .i8 z]] w fun e w'=>e=.returned (.bool (zay m s))∧Below w.heap.size w w':=by
 cases h:zay m s
 ·exact isRight_no m s z h w
 ·exact isRight_yes m s z h w
theorem zbl (m s z:Int) (w:World):Calls Tryd.prog 42 #[.agg #[.int .i32 m,.int .i64 s,.int .i8 z]] w fun e w'=>e=.returned (.bool (zay m s))∧Below w.heap.size w w':=by
 cases h:zay m s
 ·exact refRight_no m s z h w
 ·exact refRight_yes m s z h w
theorem scales_to (x0 x1 x2:Value) (K S P O Z Y:Int) (WA BA:Option Addr) (nW cW nB cB:Nat) (m1 s1 z1 m2 s2 z2 lo hi:Int) (w:World) :
  Calls Tryd.prog 90 #[.agg #[x0,x1,x2,.int .i64 K,.int .i64 S,.int .i64 P,.int .i64 O,.int .i8 Z,.int .i8 Y,.slice WA nW cW,.slice BA nB cB,.int .i32 m1,.int .i64 s1,.int .i8 z1,.int .i32 m2,.int .i64 s2,.int .i8 z2,.int .i8 lo,.int .i8 hi]] w fun e w'=>e=.returned (.bool (zay m1 s1 && zay m2 s2))∧Below w.heap.size w w':=by
 cases h1:zay m1 s1 <;> cases h2:zay m2 s2
 ·have H1:=hid h1
  have H2:=hid h2
  clear h1 h2
  go_enter Tryd.func90,Tryd.ntmps90
  go_wp2_with (first
   | (go_at_call 71
      have hal:Below w.heap.size w (w.alloc (.cells #[x0,x1,x2,.int .i64 K,.int .i64 S,.int .i64 P,.int .i64 O,.int .i8 Z,.int .i8 Y,.slice WA nW cW,.slice BA nB cB,.int .i32 m1,.int .i64 s1,.int .i8 z1,.int .i32 m2,.int .i64 s2,.int .i8 z2,.int .i8 lo,.int .i8 hi] 67)):=(Below.refl _ _).alloc (by first | exact le_refl _ | (simp;done) | (simp;omega)) _
      refine (zb7 _ _ _ _).mono ?_
      rintro e w1 ⟨rfl,hb⟩
      have hh:Below w.heap.size w w1:=hal.trans (hb.mono hal.size)
      have qTN:=(zax.new x0 x1 x2 (.int .i8 Y) (.int .i32 m1) (.int .i64 s1) (.int .i8 z1) (.int .i32 m2) (.int .i64 s2) (.int .i8 z2) (.int .i8 lo) (.int .i8 hi) K S P O Z WA BA nW cW nB cB 67) w
      try simp only [World.size_alloc] at qTN
      have TN:=hid (qTN.below (by first | (simp;done) | (simp;omega)) hb)
      have yTN:w.heap.size < w1.heap.size:=by have:=hb.size;simp at this;omega
      clear qTN
      have HBW:Hid (Below w.heap.size w w1):=hid hh
      rw [H1.out]
      have n14:=TN.out.at 14 _ rfl
      have n15:=TN.out.at 15 _ rfl
      have n16:=TN.out.at 16 _ rfl
      clear hb hh hal))
  go_ret
  exact⟨rfl,HBW.out⟩
 ·have H1:=hid h1
  have H2:=hid h2
  clear h1 h2
  go_enter Tryd.func90,Tryd.ntmps90
  go_wp2_with (first
   | (go_at_call 71
      have hal:Below w.heap.size w (w.alloc (.cells #[x0,x1,x2,.int .i64 K,.int .i64 S,.int .i64 P,.int .i64 O,.int .i8 Z,.int .i8 Y,.slice WA nW cW,.slice BA nB cB,.int .i32 m1,.int .i64 s1,.int .i8 z1,.int .i32 m2,.int .i64 s2,.int .i8 z2,.int .i8 lo,.int .i8 hi] 67)):=(Below.refl _ _).alloc (by first | exact le_refl _ | (simp;done) | (simp;omega)) _
      refine (zb7 _ _ _ _).mono ?_
      rintro e w1 ⟨rfl,hb⟩
      have hh:Below w.heap.size w w1:=hal.trans (hb.mono hal.size)
      have qTN:=(zax.new x0 x1 x2 (.int .i8 Y) (.int .i32 m1) (.int .i64 s1) (.int .i8 z1) (.int .i32 m2) (.int .i64 s2) (.int .i8 z2) (.int .i8 lo) (.int .i8 hi) K S P O Z WA BA nW cW nB cB 67) w
      try simp only [World.size_alloc] at qTN
      have TN:=hid (qTN.below (by first | (simp;done) | (simp;omega)) hb)
      have yTN:w.heap.size < w1.heap.size:=by have:=hb.size;simp at this;omega
      clear qTN
      have HBW:Hid (Below w.heap.size w w1):=hid hh
      rw [H1.out]
      have n14:=TN.out.at 14 _ rfl
      have n15:=TN.out.at 15 _ rfl
      have n16:=TN.out.at 16 _ rfl
      clear hb hh hal))
  go_ret
  exact⟨rfl,HBW.out⟩
 ·have H1:=hid h1
  have H2:=hid h2
  clear h1 h2
  go_enter Tryd.func90,Tryd.ntmps90
  go_wp2_with (first
   | (go_at_call 71
      have hal:Below w.heap.size w (w.alloc (.cells #[x0,x1,x2,.int .i64 K,.int .i64 S,.int .i64 P,.int .i64 O,.int .i8 Z,.int .i8 Y,.slice WA nW cW,.slice BA nB cB,.int .i32 m1,.int .i64 s1,.int .i8 z1,.int .i32 m2,.int .i64 s2,.int .i8 z2,.int .i8 lo,.int .i8 hi] 67)):=(Below.refl _ _).alloc (by first | exact le_refl _ | (simp;done) | (simp;omega)) _
      refine (zb7 _ _ _ _).mono ?_
      rintro e w1 ⟨rfl,hb⟩
      have hh:Below w.heap.size w w1:=hal.trans (hb.mono hal.size)
      have qTN:=(zax.new x0 x1 x2 (.int .i8 Y) (.int .i32 m1) (.int .i64 s1) (.int .i8 z1) (.int .i32 m2) (.int .i64 s2) (.int .i8 z2) (.int .i8 lo) (.int .i8 hi) K S P O Z WA BA nW cW nB cB 67) w
      try simp only [World.size_alloc] at qTN
      have TN:=hid (qTN.below (by first | (simp;done) | (simp;omega)) hb)
      have yTN:w.heap.size < w1.heap.size:=by have:=hb.size;simp at this;omega
      clear qTN
      have HBW:Hid (Below w.heap.size w w1):=hid hh
      rw [H1.out]
      have n14:=TN.out.at 14 _ rfl
      have n15:=TN.out.at 15 _ rfl
      have n16:=TN.out.at 16 _ rfl
      clear hb hh hal)
   | (go_at_call 71
      have hal:Below w1.heap.size w1 w1:=Below.refl _ _
      refine (zb7 _ _ _ _).mono ?_
      rintro e w2 ⟨rfl,hb⟩
      have hh:Below w1.heap.size w1 w2:=hal.trans (hb.mono hal.size)
      replace TN:=hid (TN.out.below yTN hh)
      replace yTN:=Nat.lt_of_lt_of_le yTN hh.size
      replace HBW:=hid (HBW.out.trans (hh.mono HBW.out.size))
      clear n14 n15 n16
      rw [H2.out]
      have n14:=TN.out.at 14 _ rfl
      have n15:=TN.out.at 15 _ rfl
      have n16:=TN.out.at 16 _ rfl
      clear hb hh hal))
  go_ret
  exact⟨rfl,HBW.out⟩
 ·have H1:=hid h1
  have H2:=hid h2
  clear h1 h2
  go_enter Tryd.func90,Tryd.ntmps90
  go_wp2_with (first
   | (go_at_call 71
      have hal:Below w.heap.size w (w.alloc (.cells #[x0,x1,x2,.int .i64 K,.int .i64 S,.int .i64 P,.int .i64 O,.int .i8 Z,.int .i8 Y,.slice WA nW cW,.slice BA nB cB,.int .i32 m1,.int .i64 s1,.int .i8 z1,.int .i32 m2,.int .i64 s2,.int .i8 z2,.int .i8 lo,.int .i8 hi] 67)):=(Below.refl _ _).alloc (by first | exact le_refl _ | (simp;done) | (simp;omega)) _
      refine (zb7 _ _ _ _).mono ?_
      rintro e w1 ⟨rfl,hb⟩
      have hh:Below w.heap.size w w1:=hal.trans (hb.mono hal.size)
      have qTN:=(zax.new x0 x1 x2 (.int .i8 Y) (.int .i32 m1) (.int .i64 s1) (.int .i8 z1) (.int .i32 m2) (.int .i64 s2) (.int .i8 z2) (.int .i8 lo) (.int .i8 hi) K S P O Z WA BA nW cW nB cB 67) w
      try simp only [World.size_alloc] at qTN
      have TN:=hid (qTN.below (by first | (simp;done) | (simp;omega)) hb)
      have yTN:w.heap.size < w1.heap.size:=by have:=hb.size;simp at this;omega
      clear qTN
      have HBW:Hid (Below w.heap.size w w1):=hid hh
      rw [H1.out]
      have n14:=TN.out.at 14 _ rfl
      have n15:=TN.out.at 15 _ rfl
      have n16:=TN.out.at 16 _ rfl
      clear hb hh hal)
   | (go_at_call 71
      have hal:Below w1.heap.size w1 w1:=Below.refl _ _
      refine (zb7 _ _ _ _).mono ?_
      rintro e w2 ⟨rfl,hb⟩
      have hh:Below w1.heap.size w1 w2:=hal.trans (hb.mono hal.size)
      replace TN:=hid (TN.out.below yTN hh)
      replace yTN:=Nat.lt_of_lt_of_le yTN hh.size
      replace HBW:=hid (HBW.out.trans (hh.mono HBW.out.size))
      clear n14 n15 n16
      rw [H2.out]
      have n14:=TN.out.at 14 _ rfl
      have n15:=TN.out.at 15 _ rfl
      have n16:=TN.out.at 16 _ rfl
      clear hb hh hal))
  go_ret
  exact⟨rfl,HBW.out⟩
end CJoin
end
end Go.Proofs.YtoffcaldhojjoaaDoor
