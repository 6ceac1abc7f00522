/- Texts of this seat, one behind the other: PadRef, ConvProd, ConvWin, FourBack0, WheelOne, OpenRows, OpenTensor. -/
import Derived.IntWalk
import Derived.BigQuiet
import Derived.Handy
import Derived.Laws.FloatArith
import Derived.Lib.SmallJoins
import Derived.Test.YtkpngknbiecdiaaGreatDoorGB1
import Derived.Test.YtkpngknbiecdiaaGreatDoorGB2
import Derived.Test.YtkpngknbiecdiaaGreatDoorGB3
import Derived.Test.YtkpngknbiecdiaaGreatDoorGB4
import Derived.Test.YtkpngknbiecdiaaGreatDoorGB5
import Derived.Test.YtkpngknbiecdiaaGreatDoorGB6
import Derived.Test.YtkpngknbiecdiaaGreatDoorGB7
import Derived.Test.YtkpngknbiecdiaaGreatDoorGB8
import Derived.Test.YtkpngknbiecdiaaGreatDoorGB9
section
namespace Go.Proofs.YtkpngknbiecdiaaGreatDoor.CPad
open Go Go.ChangeShapes Go.WideShapes Go.ChangeAt Go.RowKit
open Plain CSat CShape CTensor
set_option linter.unusedVariables false
def pixZ (zs:List Int) (H W C h w k z:Int):Int:=if 0≤h∧h < H∧0≤w∧w < W then zs.getD ((h * W+w) * C+k).toNat 0 else z
theorem mul_lt {a b c d:Int} (h0:0≤a) (h1:a < b) (h2:0≤c) (h3:c < d):0≤a * d+c∧a * d+c < b * d:=by
 have e1:0≤a * d:=Int.mul_nonneg h0 (by omega)
 have e2:(a+1) * d≤b * d:=Int.mul_le_mul_of_nonneg_right (by omega) (by omega)
 rw [Int.add_mul,Int.one_mul] at e2
 omega
theorem place_bd {H W C h w k:Int} {n:Nat} (hs:shapeB H W C=true) (hn:(n:Int)=H * W * C) (h0:0≤h) (h1:h < H) (w0:0≤w) (w1:w < W) (k0:0≤k) (k1:k < C) :
  0≤h * W∧h * W≤256∧0≤h * W+w∧h * W+w≤256∧0≤(h * W+w) * C∧(h * W+w) * C≤1024∧0≤(h * W+w) * C+k∧(h * W+w) * C+k < (n:Int):=by
 obtain⟨a1,a2,a3,a4,a5,a6,a7⟩:=shapeB_yes hs
 have m1:=mul_lt h0 h1 w0 w1
 have m2:=mul_lt m1.1 m1.2 k0 k1
 have e1:0≤h * W:=Int.mul_nonneg h0 (by omega)
 have e2:H * W≤256:=Int.mul_le_mul a2 a4 (by omega) (by omega)
 have e3:0≤(h * W+w) * C:=Int.mul_nonneg m1.1 (by omega)
 rw [← hn] at m2 a7
 exact⟨e1,by omega,m1.1,by omega,e3,by omega,m2.1,m2.2⟩
end Go.Proofs.YtkpngknbiecdiaaGreatDoor.CPad
end
section
namespace Go.Proofs.YtkpngknbiecdiaaGreatDoor.CConv
open Go Go.ChangeShapes Go.WideShapes Go.ChangeAt Go.RowKit
open Plain CSat CShape CTensor
set_option linter.unusedVariables false
theorem boxNew (H W C:Int) (A:Option Addr) (n c:Nat) (T:TypeId) (w:World):BoxAt w.heap.size H W C A n c (w.alloc (.cells #[.int .i64 H,.int .i64 W,.int .i64 C,.slice A n c] T)):=BoxAt.new H W C A n c T w
def psum (G:Nat→Int):Nat→Int
 | 0=>0
 | n+1=>psum G n+G n
theorem psum_bd {G:Nat→Int} {b:Int} {n:Nat} (h:∀ k,k < n → -b≤G k∧G k≤b) : -(b * n)≤psum G n∧psum G n≤b * n:=by
 induction n with
 | zero=>simp [psum]
 | succ n ih =>
   have h1:=ih (fun k hk=>h k (by omega))
   have h2:=h n (by omega)
   have e:b * ((n+1:Nat):Int)=b * (n:Int)+b:=by rw [show ((n+1:Nat):Int)=(n:Int)+1 by omega,Int.mul_add,Int.mul_one]
   rw [e]
   simp only [psum]
   omega
theorem psum_congr {G G':Nat→Int} {n:Nat} (h:∀ k,k < n→G k=G' k):psum G n=psum G' n:=by
 induction n with
 | zero=>rfl
 | succ n ih=>simp only [psum];rw [ih (fun k hk=>h k (by omega)),h n (by omega)]
theorem psum_zero {G:Nat→Int} {n:Nat} (h:∀ k,k < n→G k=0):psum G n=0:=by
 induction n with
 | zero=>rfl
 | succ n ih=>simp only [psum];rw [ih (fun k hk=>h k (by omega)),h n (by omega)];rfl
theorem wrap32_add (a b:Int):IntKind.i32.wrap (IntKind.i32.wrap a+b)=IntKind.i32.wrap (a+b):=by rw [IntKind.wrap_i32,IntKind.wrap_i32,IntKind.wrap_i32];omega
theorem wrap32_add' (a b:Int):IntKind.i32.wrap (a+IntKind.i32.wrap b)=IntKind.i32.wrap (a+b):=by rw [IntKind.wrap_i32,IntKind.wrap_i32,IntKind.wrap_i32];omega
theorem term_bd {x y z:Int} (x1 : -128≤x) (x2:x≤127) (y1 : -128≤y) (y2:y≤127) (z1 : -128≤z) (z2:z≤127) : -32640≤y * (x - z)∧y * (x - z)≤32640:=by
 have h1 : -255≤x - z:=by omega
 have h2:x - z≤255:=by omega
 generalize x - z=u at h1 h2
 have a1:0≤(128+y) * (255 - u):=Int.mul_nonneg (by omega) (by omega)
 have a2:0≤(128+y) * (255+u):=Int.mul_nonneg (by omega) (by omega)
 have a3:0≤(127 - y) * (255 - u):=Int.mul_nonneg (by omega) (by omega)
 have a4:0≤(127 - y) * (255+u):=Int.mul_nonneg (by omega) (by omega)
 simp only [Int.add_mul,Int.sub_mul,Int.mul_sub,Int.mul_add] at a1 a2 a3 a4
 omega
def I8b (zs:List Int):Prop:=∀ q, -128≤zs.getD q 0∧zs.getD q 0≤127
def termF (zs ws:List Int) (st o:Nat) (Z:Int) (c:Nat):Int:=ws.getD (o+c) 0 * (zs.getD (st+c) 0 - Z)
theorem ints_getD {w:World} {B:Nat} {A:Option Addr} {k:IntKind} {zs:List Int} (h:Kit.Rd w B A (zs.map (.int k))) {j:Nat} (hj:j < zs.length) :
  ∃ b off,A=some ⟨b,off,none⟩∧b < B∧∀ i,i < zs.length→w.cell? ⟨b,off+i,none⟩=some (.int k (zs.getD i 0)):=by
 obtain⟨b,off,e,hb,hc⟩:=h.plain (by simp;omega)
 exact⟨b,off,e,hb,fun i hi=>hc i _ (by simp [List.getD_eq_getElem?_getD,List.getElem?_eq_getElem hi])⟩
end Go.Proofs.YtkpngknbiecdiaaGreatDoor.CConv
end
section
namespace Go.Proofs.YtkpngknbiecdiaaGreatDoor.CConv
open Go Go.ChangeShapes Go.WideShapes Go.ChangeAt Go.RowKit
open Plain CSat CShape CTensor
set_option linter.unusedVariables false
def NodeAt (B:Nat) (x0 x1 x2 x8 x11 x12 x13 x14 x15 x16 x17 x18:Value) (K S P O Z:Int) (WA BA:Option Addr) (nW cW nB cB:Nat) (wd:World):Prop:=wd.rangeAt B 0 [x0,x1,x2,.int .i64 K,.int .i64 S,.int .i64 P,.int .i64 O,.int .i8 Z,x8,.slice WA nW cW,.slice BA nB cB,x11,x12,x13,x14,x15,x16,x17,x18]
theorem NodeAt.new (x0 x1 x2 x8 x11 x12 x13 x14 x15 x16 x17 x18:Value) (K S P O Z:Int) (WA BA:Option Addr) (nW cW nB cB:Nat) (T:TypeId) (w:World):NodeAt w.heap.size x0 x1 x2 x8 x11 x12 x13 x14 x15 x16 x17 x18 K S P O Z WA BA nW cW nB cB (w.alloc (.cells #[x0,x1,x2,.int .i64 K,.int .i64 S,.int .i64 P,.int .i64 O,.int .i8 Z,x8,.slice WA nW cW,.slice BA nB cB,x11,x12,x13,x14,x15,x16,x17,x18] T)):=fun j v hj=>by
 rw [Nat.zero_add,Kit.new_cell]
 simpa using hj
theorem NodeAt.below {B B':Nat} {x0 x1 x2 x8 x11 x12 x13 x14 x15 x16 x17 x18:Value} {K S P O Z:Int} {WA BA:Option Addr} {nW cW nB cB:Nat} {w w':World} (h:NodeAt B x0 x1 x2 x8 x11 x12 x13 x14 x15 x16 x17 x18 K S P O Z WA BA nW cW nB cB w) (hB:B < B') (hb:Below B' w w'):NodeAt B x0 x1 x2 x8 x11 x12 x13 x14 x15 x16 x17 x18 K S P O Z WA BA nW cW nB cB w':=fun j v hj =>
 (hb.cell (p:=⟨B,0+j,none⟩) hB).trans (h j v hj)
theorem NodeAt.at {B:Nat} {x0 x1 x2 x8 x11 x12 x13 x14 x15 x16 x17 x18:Value} {K S P O Z:Int} {WA BA:Option Addr} {nW cW nB cB:Nat} {w:World} (h:NodeAt B x0 x1 x2 x8 x11 x12 x13 x14 x15 x16 x17 x18 K S P O Z WA BA nW cW nB cB w) (i:Nat) (v:Value) (hi:([x0,x1,x2,.int .i64 K,.int .i64 S,.int .i64 P,.int .i64 O,.int .i8 Z,x8,.slice WA nW cW,.slice BA nB cB,x11,x12,x13,x14,x15,x16,x17,x18]:List Value)[i]?=some v):w.cell? ⟨B,i,none⟩=some v:=by
 have:=h i v hi
 rwa [Nat.zero_add] at this
def placeF (zs ws:List Int) (H W C top left:Int) (d kk o:Nat) (Z:Int) (i j:Nat):Int :=
 if 0≤top+(i:Int)∧top+(i:Int) < H∧0≤left+(j:Int)∧left+(j:Int) < W then psum (termF zs ws (((top+(i:Int)) * W+(left+(j:Int))) * C).toNat (((o * kk+i) * kk+j) * d) Z) d else 0
def rowF (zs ws:List Int) (H W C top left:Int) (d kk o:Nat) (Z:Int) (i:Nat):Int:=psum (placeF zs ws H W C top left d kk o Z i) kk
def winF (zs ws:List Int) (H W C top left:Int) (d kk o:Nat) (Z:Int):Int:=psum (rowF zs ws H W C top left d kk o Z) kk
theorem drop_term (zs ws:List Int) (st o:Nat) (Z:Int) (d:Nat):psum (termF zs (ws.drop o) st 0 Z) d=psum (termF zs ws st o Z) d :=
 psum_congr fun k _=>by simp [termF,List.getD_eq_getElem?_getD,List.getElem?_drop]
theorem drop_I8b {ws:List Int} (h:I8b ws) (o:Nat):I8b (ws.drop o):=fun q=>by
 have:=h (o+q)
 rw [List.getD_eq_getElem?_getD,List.getElem?_drop, ← List.getD_eq_getElem?_getD]
 exact this
theorem i8s_drop (ws:List Int) (o:Nat):(I8s ws).drop o=I8s (ws.drop o):=by simp [I8s,List.map_drop]
theorem place_le {a b c d i j k:Nat} (hi:i < a) (hj:j < b) (hk:k < c):((i * b+j) * c+k) * d+d≤a * b * c * d:=by
 have e1:(i+1) * b≤a * b:=Nat.mul_le_mul_right _ hi
 have e2:(i * b+j+1) * c≤a * b * c:=Nat.mul_le_mul_right _ (by rw [Nat.add_mul,Nat.one_mul] at e1;omega)
 have e3:((i * b+j) * c+k+1) * d≤a * b * c * d:=Nat.mul_le_mul_right _ (by rw [Nat.add_mul _ 1 c,Nat.one_mul] at e2;omega)
 rw [Nat.add_mul _ 1 d,Nat.one_mul] at e3
 exact e3
end Go.Proofs.YtkpngknbiecdiaaGreatDoor.CConv
end
section
namespace Go.Proofs.YtkpngknbiecdiaaGreatDoor.CFour
open Go Go.ChangeShapes Go.WideShapes Go.ChangeAt Go.RowKit
open FloatNum
set_option linter.unusedVariables false
def agi (L:Nat→Int):Value:=.agg #[.int .i64 (L 0),.int .i64 (L 1),.int .i64 (L 2),.int .i64 (L 3)]
def IntR (L:Nat→Int) (k:Nat) (S:Nat→Value):Prop:=∀ i,i < 4→S i=.int .i64 (if i < k then L i else 0)
theorem IntR.step {L:Nat→Int} {k:Nat} {S:Nat→Value} (h:IntR L k S):IntR L (k+1) (fun i=>if i=k then .int .i64 (L k) else S i):=fun i hi=>by
 by_cases e:i=k
 ·subst e;simp only [if_true];rw [if_pos (by omega)]
 ·simp only [if_neg e]
  rw [h i hi]
  by_cases h1:i < k
  ·rw [if_pos h1,if_pos (by omega)]
  ·rw [if_neg h1,if_neg (by omega)]
theorem IntR.all {L:Nat→Int} {S:Nat→Value} (h:IntR L 4 S) {i:Nat} (hi:i < 4):S i=.int .i64 (L i):=by rw [h i hi,if_pos hi]
set_option maxHeartbeats 4000000 in
theorem back_to (c:Nat→Value) (p:Nat→G) (B:Nat) (hB:B≤2 ^ 48) (hc:∀ i,i < 4→IsC (c i) (p i)) (hp:∀ i,Bd B (p i)) (L:Nat→Int) (hL:∀ i,i < 4→(gpart p 1 i 4).1=4 * L i) (w:World) :
  Calls Tryz.prog 154 #[agg4 c] w fun e' w'=>e'=.returned (agi L)∧Below w.heap.size w w':=by
 have HC:=Lib.hid hc
 have HP:=Lib.hid hp
 have HL:=Lib.hid hL
 have HBB:=Lib.hid hB
 clear hc hp hB hL
 have hn1:IsC (.complex .f64 0 4607182418800017408) (0,1):=⟨_,_,rfl,isF_zero,isF_one⟩
 have HN:=Lib.hid hn1
 clear hn1
 go_enter Tryz.func154,Tryz.ntmps154
 go_wp2_with (go_at_call 158;((with_reducible refine (turned_to c p (.complex .f64 0 4607182418800017408) 1 (.inl rfl) B HBB.out HC.out HP.out HN.out _).mono ?_);rintro e2 w2 ⟨⟨Y,rfl,hAll⟩,hb2⟩;obtain⟨hcc,hff⟩:=Kit.bcell hb2))
 have HY:=Lib.hid hAll
 clear hAll
 have hR:Four (w.heap.size+1) (fun _=>.int .i64 0) w2:=by
  have h1:=(Four.new (w.alloc (.cells #[c 0,c 1,c 2,c 3] 179)) (.int .i64 0) 193).below ((Below.refl _ _).alloc (Nat.le_refl _) (.cells #[.int .i64 0,.int .i64 0,.int .i64 0,.int .i64 0] 193)) (by simp)
  have e1:(w.alloc (.cells #[c 0,c 1,c 2,c 3] 179)).heap.size=w.heap.size+1:=by simp
  rw [e1] at h1
  exact h1.below hb2 (by simp)
 have hF:Four (w.heap.size+1+1) (fun _=>.int .i64 0) w2:=by
  have h1:=(Four.new ((w.alloc (.cells #[c 0,c 1,c 2,c 3] 179)).alloc (.cells #[.int .i64 0,.int .i64 0,.int .i64 0,.int .i64 0] 193)) (.int .i64 0) 193)
  have e1:((w.alloc (.cells #[c 0,c 1,c 2,c 3] 179)).alloc (.cells #[.int .i64 0,.int .i64 0,.int .i64 0,.int .i64 0] 193)).heap.size=w.heap.size+1+1:=by simp
  rw [e1] at h1
  exact h1.below hb2 (by simp)
 have hBw:Below w.heap.size w w2:=((((Below.refl _ _).alloc (Nat.le_refl _) _).alloc (by simp) _).alloc (by simp;omega) _).trans (hb2.mono (by simp;omega))
 clear hcc hff hb2
 have HR:=Lib.hid hR
 have HF:=Lib.hid hF
 have HBw:=Lib.hid hBw
 clear hR hF hBw
 go_loopw [8] (fun u wr=>∃ (k:Nat) (S:Nat→Value),k≤4∧u=.int .i64 k∧Hid (IntR L k S)∧Hid (Four (w.heap.size+1+1) S wr)∧Hid (Four (w.heap.size+1) (fun _=>.int .i64 0) wr)∧Hid (Below w.heap.size w wr)) (fun u _=>4 - (intOf u).toNat)
 case atStart=>exact⟨0,fun _=>.int .i64 0,by omega,rfl,Lib.hid (fun i hi=>by rw [if_neg (by omega)]),HF,HR,HBw⟩
 case round =>
  obtain⟨k,S,hk,rfl,hS,hF,hR,hB1⟩:=hrel
  by_cases hlt:k < 4
  ·obtain⟨a,b,hY,h1,h2⟩:=HY.out k hlt
   rw [HL.out k hlt] at h1
   have hbd:(4 * L k).natAbs≤2 ^ 50:=by
    have:=(gpart_bd (.inl rfl) HP.out k 4).1
    rw [HL.out k hlt] at this
    have:=HBB.out
    omega
   obtain⟨r,hr1,hr2⟩:=h1.quarter (Nat.lt_of_le_of_lt hbd (by decide))
   have hi:=hr2.toInt (by omega) .i64 (by show (-9223372036854775808:Int)≤_;omega) (by show _≤(9223372036854775807:Int);omega)
   have hq:∀ (w:World) (t:TypeId),(binOp .quo t (.float .f64 a) (.float .f64 4616189618054758400)).run Tryz.prog w=.ok (.float .f64 r) w:=fun w t=>run_float_arith w .quo t .f64 a _ r hr1
   have hcv:∀ (w:World),(convert 199 2 (.float .f64 r)).run Tryz.prog w=.ok (.int .i64 (L k)) w:=fun w=>run_convert_float_int w _ _ .f64 .i64 r _ (by kernel_rfl) (by kernel_rfl) hi
   have HT:=Lib.hid hS.out.step
   have HG:=Lib.hid (hF.out.set hlt (.int .i64 (L k)))
   have HR1:=Lib.hid (hR.out.other (g':=w.heap.size+1+1) (k:=k) (.int .i64 (L k)) (by omega))
   have HB1:=Lib.hid (hB1.out.setCell (p:=⟨w.heap.size+1+1,k,none⟩) (by show w.heap.size≤w.heap.size+1+1;omega) (.int .i64 (L k)))
   clear hi hr1 hr2 h1 h2 hbd
   have x0:=ix0 Y
   have x1:=ix1 Y
   have x2:=ix2 Y
   have x3:=ix3 Y
   have c0:=hF.out.1 0 (by omega)
   have c1:=hF.out.1 1 (by omega)
   have c2:=hF.out.1 2 (by omega)
   have c3:=hF.out.1 3 (by omega)
   have f0:=hF.out.2.1 0 (by omega)
   have f1:=hF.out.2.1 1 (by omega)
   have f2:=hF.out.2.1 2 (by omega)
   have f3:=hF.out.2.1 3 (by omega)
   obtain rfl | rfl | rfl | rfl:=lt4 hlt
   all_goals
    go_wp2
    go_roundw
    case rel=>exact⟨_,_,by omega,by go_num,HT,HG,HR1,HB1⟩
    case measure=>simp [intOf]
  ·have hk4:k=4:=by omega
   subst hk4
   have c0:=hF.out.1 0 (by omega)
   have c1:=hF.out.1 1 (by omega)
   have c2:=hF.out.1 2 (by omega)
   have c3:=hF.out.1 3 (by omega)
   have d0:=hR.out.1 0 (by omega)
   have d1:=hR.out.1 1 (by omega)
   have d2:=hR.out.1 2 (by omega)
   have d3:=hR.out.1 3 (by omega)
   have f0:=hR.out.2.1 0 (by omega)
   have f1:=hR.out.2.1 1 (by omega)
   have f2:=hR.out.2.1 2 (by omega)
   have f3:=hR.out.2.1 3 (by omega)
   have s0:=hS.out.all (i:=0) (by omega)
   have s1:=hS.out.all (i:=1) (by omega)
   have s2:=hS.out.all (i:=2) (by omega)
   have s3:=hS.out.all (i:=3) (by omega)
   rw [s0] at c0
   rw [s1] at c1
   rw [s2] at c2
   rw [s3] at c3
   clear s0 s1 s2 s3 hlt hk
   go_wp2
   refine bodyPost_ret (Kit.results_c rfl _ _ (w.heap.size+1) 0 [.int .i64 (L 0),.int .i64 (L 1),.int .i64 (L 2),.int .i64 (L 3)] _ rfl (range_4 (by go_cell) (by go_cell) (by go_cell) (by go_cell)) Tryz.underlying193 rfl (by kernel_rfl)) rfl ?_
   refine⟨rfl,?_⟩
   have:=hB1.out
   go_grown
end Go.Proofs.YtkpngknbiecdiaaGreatDoor.CFour
end
section
namespace Go.Proofs.YtkpngknbiecdiaaGreatDoor.CWheel
open Go Go.ChangeShapes Go.WideShapes Go.ChangeAt Go.RowKit
open FloatNum CFour
set_option linter.unusedVariables false
abbrev w3 (x y z:Int):Value:=.agg #[.int .i8 x,.int .i8 y,.int .i8 z]
set_option maxHeartbeats 4000000 in
theorem rolled_to (x y z:Int) (hx:InW x) (hy:InW y) (hz:InW z) (w:World) :
  Calls Tryz.prog 144 #[w3 x y z] w fun e' w'=>(∃ S,e'=.returned (agg4 S)∧∀ i,i < 4→IsC (S i) (wh4 x 0 z y i))∧Below w.heap.size w w':=by
 have h0:In16 0:=by unfold In16;omega
 have H0:=Lib.hid h0
 have HX:=Lib.hid hx.to16
 have HY:=Lib.hid hy.to16
 have HZ:=Lib.hid hz.to16
 have e1:IntKind.i16.wrap x=x:=IntWalk.i16_in _ (by unfold InW at hx;omega)
 have e2:IntKind.i16.wrap y=y:=IntWalk.i16_in _ (by unfold InW at hy;omega)
 have e3:IntKind.i16.wrap z=z:=IntWalk.i16_in _ (by unfold InW at hz;omega)
 clear hx hy hz h0
 go_enter Tryz.func144,Tryz.ntmps144
 go_wp2_with fail
 go_at_call 153
 refine (of_to x 0 z y HX.out H0.out HZ.out HY.out _).mono ?_
 rintro e2 w2 ⟨⟨S,rfl,hS⟩,hb2⟩
 have HS:=Lib.hid hS
 have hR:Four (w.heap.size+1) (fun _=>z0) w2:=by
  have h1:=Four.new (w.alloc (.cells #[.int .i8 x,.int .i8 y,.int .i8 z] 154)) z0 179
  have e1:(w.alloc (.cells #[.int .i8 x,.int .i8 y,.int .i8 z] 154)).heap.size=w.heap.size+1:=by simp
  rw [e1] at h1
  exact h1.below hb2 (by simp)
 have hBw:Below w.heap.size w w2:=(((Below.refl _ _).alloc (Nat.le_refl _) _).alloc (by simp) _).trans (hb2.mono (by simp;omega))
 have h1c:=oneC hS
 have HR:=Lib.hid hR
 have HBw:=Lib.hid hBw
 clear hR hBw hb2 hS e1 e2 e3
 go_wp2_with (refine wpList_store_mid rfl 179 (.tmp 2) (.tmp 13) rfl (w.heap.size+1) 0 #[S 0,S 1,S 2,S 3] rfl rfl HR.out.there (by kernel_rfl) h1c ?_;change wpList _ _ _ _ _ (CFour.set4 (w.heap.size+1) S w2);have hR2:=HR.out.set4 S;have hB2:=below_set4 HBw.out (g:=w.heap.size+1) (by omega) S;generalize CFour.set4 (w.heap.size+1) S w2=w3' at hR2 hB2 ⊢;have c0:=hR2.1 0 (by omega);have c1:=hR2.1 1 (by omega);have c2:=hR2.1 2 (by omega);have c3:=hR2.1 3 (by omega))
 refine bodyPost_ret (Kit.results_c rfl _ _ (w.heap.size+1) 0 [S 0,S 1,S 2,S 3] _ rfl (range_4 c0 c1 c2 c3) Tryz.underlying179 rfl (by kernel_rfl)) rfl ?_
 exact⟨⟨S,rfl,HS.out⟩,hB2⟩
set_option maxHeartbeats 4000000 in
theorem unrolled_to (c:Nat→Value) (p:Nat→G) (B:Nat) (hB:B≤2 ^ 48) (hc:∀ i,i < 4→IsC (c i) (p i)) (hp:∀ i,Bd B (p i)) (L:Nat→Int) (hL:∀ i,i < 4→bk p i=4 * L i) (a b:Int) (ha:L 0=a) (hb:L 1=b) (w:World) :
  Calls Tryz.prog 146 #[agg4 c] w fun e' w'=>e'=.returned (.agg #[.int .i64 a,.int .i64 b])∧Below w.heap.size w w':=by
 have HC:=Lib.hid hc
 have HP:=Lib.hid hp
 have HL:=Lib.hid hL
 have HBB:=Lib.hid hB
 subst ha hb
 clear hc hp hB hL
 go_enter Tryz.func146,Tryz.ntmps146
 go_wp2_with fail
 go_at_call 154
 refine (back_to c p B HBB.out HC.out HP.out L HL.out _).mono ?_
 rintro e2 w2 ⟨rfl,hb2⟩
 have hR:Two (w.heap.size+1) (.int .i64 0) (.int .i64 0) w2:=by
  have h1:=Two.new (w.alloc (.cells #[c 0,c 1,c 2,c 3] 179)) (.int .i64 0) (.int .i64 0) 181
  have e1:(w.alloc (.cells #[c 0,c 1,c 2,c 3] 179)).heap.size=w.heap.size+1:=by simp
  rw [e1] at h1
  exact h1.below hb2 (by simp)
 have hBw:Below w.heap.size w w2:=(((Below.refl _ _).alloc (Nat.le_refl _) _).alloc (by simp) _).trans (hb2.mono (by simp;omega))
 have hlt:w.heap.size+1 < w2.heap.size:=hR.2.2.2
 have HR:=Lib.hid hR
 have HBw:=Lib.hid hBw
 clear hR hBw hb2
 go_wp2_with (first
  | (refine wpList_store_mid rfl 193 (.tmp 3) (.tmp 5) rfl w2.heap.size 0 #[.int .i64 (L 0),.int .i64 (L 1),.int .i64 (L 2),.int .i64 (L 3)] rfl rfl (Four.new w2 (.int .i64 0) 193).there (by kernel_rfl) (one4 _ _ _ _) ?_;change wpList _ _ _ _ _ (CFour.set4 w2.heap.size (fun i=>.int .i64 (L i)) (w2.alloc (.cells #[.int .i64 0,.int .i64 0,.int .i64 0,.int .i64 0] 193)));have hF:=(Four.new w2 (.int .i64 0) 193).set4 (fun i=>.int .i64 (L i));have hR2:=(HR.out.below ((Below.refl w2.heap.size w2).alloc (Nat.le_refl _) (.cells #[.int .i64 0,.int .i64 0,.int .i64 0,.int .i64 0] 193)) hlt).oth4 (g':=w2.heap.size) (fun i=>.int .i64 (L i)) (Nat.ne_of_lt hlt);have hB2:=below_set4 (HBw.out.trans (((Below.refl w2.heap.size w2).alloc (Nat.le_refl _) (.cells #[.int .i64 0,.int .i64 0,.int .i64 0,.int .i64 0] 193)).mono (by omega))) (g:=w2.heap.size) (by omega) (fun i=>.int .i64 (L i));generalize CFour.set4 w2.heap.size (fun i=>Value.int .i64 (L i)) (w2.alloc (.cells #[.int .i64 0,.int .i64 0,.int .i64 0,.int .i64 0] 193))=w3' at hF hR2 hB2 ⊢;generalize w2.heap.size=gg at hF hR2 hB2 hlt ⊢;have d0:=hF.1 0 (by omega);have d1:=hF.1 1 (by omega);have HR2:=Lib.hid hR2;have HB2:=Lib.hid hB2;clear hF hR2 hB2)
  | (refine wpList_store_mid rfl 181 (.tmp 2) (.tmp 10) rfl (w.heap.size+1) 0 #[.int .i64 (L 0),.int .i64 (L 1)] rfl rfl HR2.out.there (by kernel_rfl) (all_oneCell_toArray (cs:=[Value.int .i64 (L 0),.int .i64 (L 1)]) (by intro v hv;simp at hv;rcases hv with rfl | rfl <;> rfl)) ?_;change wpList _ _ _ _ _ (CFour.set2 (w.heap.size+1) (.int .i64 (L 0)) (.int .i64 (L 1)) w3');have hR3:=HR2.out.set2 (.int .i64 (L 0)) (.int .i64 (L 1));have hB3:=below_set2 HB2.out (g:=w.heap.size+1) (by omega) (.int .i64 (L 0)) (.int .i64 (L 1));generalize CFour.set2 (w.heap.size+1) (.int .i64 (L 0)) (.int .i64 (L 1)) w3'=w4 at hR3 hB3 ⊢))
 refine bodyPost_ret (Kit.results_c rfl _ _ (w.heap.size+1) 0 [.int .i64 (L 0),.int .i64 (L 1)] _ rfl (Kit.range_2 hR3.1 hR3.2.1) Tryz.underlying181 rfl (by kernel_rfl)) rfl ?_
 exact⟨rfl,hB3⟩
theorem blocks_to (n:Int) (h1 : -9223372036854775808≤n) (h2:n≤9223372036854775807) (b:Int) (hb:b=if n < 3 then 0 else (n - 1) / 2) (w:World) :
  Calls Tryz.prog 145 #[.int .i64 n] w fun e' w'=>e'=.returned (.int .i64 b)∧w=w':=by
 by_cases h:n < 3
 ·rw [if_pos h] at hb
  subst hb
  go_enter Tryz.func145,Tryz.ntmps145
  go_wp2_with fail
  go_ret
  exact⟨rfl,rfl⟩
 ·rw [if_neg h] at hb
  have e1:IntKind.i64.wrap (n - 3)=n - 3:=IntWalk.i64_in _ (by omega)
  have e2:IntKind.i64.wrap (n - 3+2)=n - 1:=by rw [IntWalk.i64_in _ (by omega)];omega
  have e3:(n - 1).tdiv 2=b:=by rw [hb];exact Int.tdiv_eq_ediv_of_nonneg (by omega)
  have e4:IntKind.i64.wrap b=b:=IntWalk.i64_in _ (by omega)
  clear hb
  go_enter Tryz.func145,Tryz.ntmps145
  go_wp2_with fail
  go_ret
  exact⟨rfl,rfl⟩
end Go.Proofs.YtkpngknbiecdiaaGreatDoor.CWheel
end
section
namespace Go.Proofs.YtkpngknbiecdiaaGreatDoor.Kit
open Go Go.ChangeShapes Go.WideShapes Go.ChangeAt Go.RowKit Go.Deep
set_option linter.unusedVariables false
def RowsAt (w:World) (B:Nat) (k:IntKind) (A:Option Addr) (rows:List (List Int)):Prop :=
 ∃ vs:List Value,vs.length=rows.length∧Rd w B A vs∧∀ (i:Nat) (row:List Int),rows[i]?=some row→∃ (Ai:Option Addr) (n ci:Nat),row.length=n∧vs[i]?=some (.slice Ai n ci)∧n≤ci∧ci≤maxLen∧Rd w B Ai (row.map (.int k))
theorem RowsAt.below {w w':World} {B:Nat} {k:IntKind} {A:Option Addr} {rows:List (List Int)} (h:RowsAt w B k A rows) (hb:Below B w w'):RowsAt w' B k A rows:=by
 obtain⟨vs,h1,h2,h3⟩:=h
 refine⟨vs,h1,h2.below hb,fun i row hr=>?_⟩
 obtain⟨Ai,n,ci,e,a,b,c,d⟩:=h3 i row hr
 exact⟨Ai,n,ci,e,a,b,c,d.below hb⟩
theorem RowsAt.more {w:World} {B B':Nat} {k:IntKind} {A:Option Addr} {rows:List (List Int)} (h:RowsAt w B k A rows) (hb:B≤B'):RowsAt w B' k A rows:=by
 obtain⟨vs,h1,h2,h3⟩:=h
 refine⟨vs,h1,h2.more hb,fun i row hr=>?_⟩
 obtain⟨Ai,n,ci,e,a,b,c,d⟩:=h3 i row hr
 exact⟨Ai,n,ci,e,a,b,c,d.more hb⟩
theorem RowsAt.row {w:World} {B:Nat} {k:IntKind} {A:Option Addr} {rows:List (List Int)} (h:RowsAt w B k A rows) {i:Nat} (hi:i < rows.length) :
  ∃ (b o:Nat) (Ai:Option Addr) (n ci:Nat),A=some ⟨b,o,none⟩∧b < B∧w.cell? ⟨b,o+i,none⟩=some (.slice Ai n ci)∧rows[i].length=n∧n≤ci∧ci≤maxLen∧Rd w B Ai (rows[i].map (.int k)):=by
 obtain⟨vs,h1,h2,h3⟩:=h
 obtain⟨Ai,n,ci,e,a,b,c,d⟩:=h3 i _ (List.getElem?_eq_getElem hi)
 obtain⟨bb,o,rfl,hb,hc⟩:=h2.plain (by omega)
 exact⟨bb,o,Ai,n,ci,rfl,hb,hc i _ a,e,b,c,d⟩
section
variable {H:Type} {enc:TypeId × Value→H} {P:Program} {w:World} {base b0:Nat} {spare:Nat→Bool} {held:Bool} {r:Reach}
end
end Go.Proofs.YtkpngknbiecdiaaGreatDoor.Kit
end
section
namespace Go.Proofs.YtkpngknbiecdiaaGreatDoor.Kit
open Go Go.ChangeShapes Go.WideShapes Go.ChangeAt Go.RowKit Go.Deep
set_option linter.unusedVariables false
section
variable {H:Type} {enc:TypeId × Value→H} {P:Program} {w:World} {base b0:Nat} {spare:Nat→Bool} {held:Bool} {r:Reach}
theorem open_tensor {t s d e i:TypeId} {k:IntKind} {f0 f1 g0 g1 g2:Field} {v:Value} {D:DataW H} {ps:List MemPlace}
  (ht:P.underlying t=some (.struct #[f0,f1])) (hs:P.underlying s=some (.struct #[g0,g1,g2])) (hd:P.underlying d=some (.slice e)) (he:P.underlying e=some (.int k)) (hi:P.underlying i=some (.int .i64)) (hce:P.cellsOf e=1)
  (hct:P.cellsOf t=4) (hcs:P.cellsOf s=3) (hcd:P.cellsOf d=1) (hci:P.cellsOf i=1) (hf:f0.type=s∧f0.offset=0∧f1.type=d∧f1.offset=3) (hg:g0.type=i∧g0.offset=0∧g1.type=i∧g1.offset=1∧g2.type=i∧g2.offset=2)
  (hv:Value.okWide P w r b0 t v) (h:DataW.Trod enc P w base spare held t v D ps) :
  ∃ (x y z:Int) (A:Option Addr) (zs:List Int) (c:Nat),v=.agg #[.int .i64 x,.int .i64 y,.int .i64 z,.slice A zs.length c]∧(Lit.int .i64 x).wf=true∧(Lit.int .i64 y).wf=true∧(Lit.int .i64 z).wf=true ∧
   zs.length≤c∧c≤maxLen∧(∀ n∈zs,(Lit.int k n).wf=true)∧Rd w w.heap.size A (zs.map (.int k)):=by
 obtain⟨cs,rfl,hsz⟩:=okWide_struct ht hv
 rw [hct] at hsz
 obtain⟨c0,c1,c2,c3,rfl⟩:=size_4 hsz
 obtain⟨fuel,hfu⟩:=h
 obtain⟨xs,n,_,_,_,hlen,hx⟩:=DataW.trod_struct ht hfu
 have h0:=hx 0 f0 rfl
 have h1:=hx 1 f1 rfl
 rw [hf.1,hf.2.1,hcs] at h0
 rw [hf.2.2.1,hf.2.2.2,hcd] at h1
 have e0:((Value.agg #[c0,c1,c2,c3]).cells.toList.drop 0).take 3=[c0,c1,c2]:=rfl
 have e1:((Value.agg #[c0,c1,c2,c3]).cells.toList.drop 3).take 1=[c3]:=rfl
 rw [e0] at h0
 rw [e1] at h1
 have hl2:xs.length=2:=by simpa using hlen
 rw [List.getElem?_eq_getElem (by omega)] at h0 h1
 obtain⟨ys,m,_,_,_,hlen2,hy⟩:=DataW.trod_struct hs h0
 have hm2:ys.length=3:=by simpa using hlen2
 have a0:=hy 0 g0 rfl
 have a1:=hy 1 g1 rfl
 have a2:=hy 2 g2 rfl
 rw [hg.1,hg.2.1,hci] at a0
 rw [hg.2.2.1,hg.2.2.2.1,hci] at a1
 rw [hg.2.2.2.2.1,hg.2.2.2.2.2,hci] at a2
 have q0:([c0,c1,c2].drop 0).take 1=[c0]:=rfl
 have q1:([c0,c1,c2].drop 1).take 1=[c1]:=rfl
 have q2:([c0,c1,c2].drop 2).take 1=[c2]:=rfl
 rw [q0,List.getElem?_eq_getElem (by omega)] at a0
 rw [q1,List.getElem?_eq_getElem (by omega)] at a1
 rw [q2,List.getElem?_eq_getElem (by omega)] at a2
 obtain⟨x,ex,_,wx⟩:=DataW.trod_int hi a0
 obtain⟨y,ey,_,wy⟩:=DataW.trod_int hi a1
 obtain⟨z,ez,_,wz⟩:=DataW.trod_int hi a2
 simp at ex ey ez
 subst ex ey ez
 obtain⟨a3,len,cap,e3⟩:=Go.Joins.slice_form hd h1
 simp at e3
 subst e3
 rcases open_ints hd he hce h1 with ⟨hcs,_⟩ | ⟨a,len',cap',zs,hcs,_,hl,hm,hz,_,hcell,hwz⟩
 ·simp at hcs
  obtain⟨rfl,rfl,rfl⟩:=hcs
  exact⟨x,y,z,none,[],0,rfl,wx,wy,wz,by simp,by simp,by simp,Rd.nil⟩
 ·simp at hcs
  obtain⟨rfl,rfl,rfl⟩:=hcs
  have hlz:len≤zs.length:=by rw [hz];split <;> omega
  refine⟨x,y,z,some a,zs.take len,cap,?_,wx,wy,wz,?_,hm,fun n hn=>hwz n (List.mem_of_mem_take hn),fun j u hu=>?_⟩
  ·rw [List.length_take,Nat.min_eq_left hlz]
  ·rw [List.length_take,Nat.min_eq_left hlz];exact hl
  ·rw [List.getElem?_map,List.getElem?_take] at hu
   split at hu
   ·rename_i hj
    have hjz:j < zs.length:=by omega
    rw [List.getElem?_eq_getElem hjz] at hu
    simp only [Option.map_some,Option.some.injEq] at hu
    subst hu
    have h9:=hcell j hjz
    rw [List.getD_eq_getElem?_getD,List.getElem?_eq_getElem hjz,Option.getD_some] at h9
    exact⟨a,rfl,by have:=block_lt h9;rwa [add_block] at this,h9⟩
   ·simp at hu
end
end Go.Proofs.YtkpngknbiecdiaaGreatDoor.Kit
end
