/- Texts of this seat, one behind the other: KindName, KindOwnD, RunSumC, RunSumD, TensorRep. -/
import Derived.Deep.CutRange
import Derived.Laws.CopyOwn
import Derived.Laws.AppendOwn
import Derived.Deep.OwnRows
import Derived.IntWalk
import Derived.Test.YtoghpoopgkahiaaGreatDoorGA1
import Derived.Test.YtoghpoopgkahiaaGreatDoorGA4
import Derived.Test.YtoghpoopgkahiaaGreatDoorGA7
import Derived.Test.YtoghpoopgkahiaaGreatDoorGA8
import Derived.Test.YtoghpoopgkahiaaGreatDoorGA9
import Derived.Test.YtoghpoopgkahiaaGreatDoorGA14
import Derived.Test.YtoghpoopgkahiaaGreatDoorGA15
import Derived.Test.YtoghpoopgkahiaaGreatDoorGA19
section
namespace Go.Proofs.YtoghpoopgkahiaaGreatDoor.CKind
open Go Go.ChangeShapes Go.WideShapes Go.ChangeAt Go.RowKit Go.Deep
open Plain CSat CFix CShape CTensor CConv
set_option linter.unusedVariables false
set_option linter.unusedSimpArgs false
/-- what a kind is called. -/
def kname (k : Int) : ByteArray :=
  if k = 1 then ⟨#[99, 111, 110, 118]⟩ else if k = 2 then ⟨#[100, 101, 112, 116, 104]⟩ else if k = 3 then ⟨#[100, 101, 110, 115, 101]⟩ else if k = 4 then ⟨#[109, 97, 120, 112, 111, 111, 108]⟩ else if k = 5 then ⟨#[97, 118, 103, 112, 111, 111, 108]⟩ else if k = 6 then ⟨#[106, 111, 105, 110]⟩ else if k = 7 then ⟨#[97, 99, 116]⟩ else if k = 8 then ⟨#[112, 97, 100]⟩ else if k = 9 then ⟨#[102, 108, 97, 116]⟩ else ⟨#[]⟩
theorem kname_no {k : Int} (h : k < 1 ∨ 9 < k) : kname k = ⟨#[]⟩ := by
  unfold kname
  simp only [show ¬ k = 1 by omega, show ¬ k = 2 by omega, show ¬ k = 3 by omega, show ¬ k = 4 by omega, show ¬ k = 5 by omega, show ¬ k = 6 by omega, show ¬ k = 7 by omega, show ¬ k = 8 by omega, show ¬ k = 9 by omega, if_false]
end Go.Proofs.YtoghpoopgkahiaaGreatDoor.CKind
end
section
namespace Go.Proofs.YtoghpoopgkahiaaGreatDoor.CKind
open Go Go.ChangeShapes Go.WideShapes Go.ChangeAt Go.RowKit Go.Deep
open Plain CSat CShape CTensor CConv
set_option linter.unusedVariables false
set_option linter.unusedSimpArgs false
/-- the node of no numbers. -/
def Nd.zero : Nd := ⟨0, 0, 0, 0, 0, 0, 0, 0, 0, none, 0, 0, none, 0, 0, 0, 0, 0, 0, 0, 0, 0, 0⟩
/-- a node with what kind k tells alone. -/
def Nd.ownK (x : Nd) (k : Int) : Nd :=
  ⟨k, x.na, if k == 6 then x.nb else 0, if slidesB k then x.K else 0, if slidesB k then x.S else 0, if slidesB k || k == 8 then x.P else 0, if k == 1 || k == 3 then x.O else 0, if scaledB k || k == 8 then x.Z else 0, if k == 6 then x.Y else 0,
   if sumsB k then x.WA else none, if sumsB k then x.nW else 0, if sumsB k then x.cW else 0, if sumsB k then x.BA else none, if sumsB k then x.nB else 0, if sumsB k then x.cB else 0,
   if scaledB k then x.m1 else 0, if scaledB k then x.s1 else 0, if scaledB k then x.z1 else 0, if k == 6 then x.m2 else 0, if k == 6 then x.s2 else 0, 0, if scaledB k then x.lo else 0, if scaledB k then x.hi else 0⟩
end Go.Proofs.YtoghpoopgkahiaaGreatDoor.CKind
end
section
namespace Go.Proofs.YtoghpoopgkahiaaGreatDoor.CRun
set_option maxRecDepth 100000
open Go Go.ChangeShapes Go.WideShapes Go.ChangeAt Go.RowKit Go.Deep
open Plain CSat CShape CTensor CConv CKind
set_option linter.unusedVariables false
set_option linter.unusedSimpArgs false
theorem set4_alloc {g : Nat} {w w' : World} (h : Below w.heap.size w w') (hg : w.heap.size ≤ g) (a b c d : Value) (o : Obj) :
    Below w.heap.size w (((((w'.setCell ⟨g, 0, none⟩ a).setCell ⟨g, 1, none⟩ b).setCell ⟨g, 2, none⟩ c).setCell ⟨g, 3, none⟩ d).alloc o) := by
  have h4 := (((h.setCell (p := ⟨g, 0, none⟩) hg a).setCell (p := ⟨g, 1, none⟩) hg b).setCell (p := ⟨g, 2, none⟩) hg c).setCell (p := ⟨g, 3, none⟩) hg d
  exact h4.alloc h4.size o
set_option maxRecDepth 100000 in
set_option maxHeartbeats 4000000 in
theorem csum_lane (x : Nd) (hk : x.kd = 1) (hf : (decide (x.K = 3) && decide (x.S = 1)) = true) (H W C : Int) (A : Option Addr) (n c : Nat) (r : Res) (w : World) (hC : ∀ w1 : World, Below w.heap.size w w1 → Calls Tryz.prog 33 #[.agg #[.int .i64 H, .int .i64 W, .int .i64 C, .slice A n c], .agg x.val] w1 (MAcc w1 r)) :
    Calls Tryz.prog 10 #[.agg x.val, .agg #[.int .i64 H, .int .i64 W, .int .i64 C, .slice A n c]] w (MAcc w r) := by
  have HC := Lib.hid hC
  have HF : Hid (∀ w, Calls Tryz.prog 32 #[.agg x.val] w fun e w' => e = .returned (.bool true) ∧ Below w.heap.size w w') := Lib.hid (fun w => CLane.fits_to (.int .i64 x.kd) (.int .i64 x.na) (.int .i64 x.nb) (.int .i8 x.Y) (.int .i32 x.m1) (.int .i64 x.s1) (.int .i8 x.z1) (.int .i32 x.m2) (.int .i64 x.s2) (.int .i8 x.z2) (.int .i8 x.lo) (.int .i8 x.hi) x.K x.S x.P x.O x.Z x.WA x.BA x.nW x.cW x.nB x.cB true hf w)
  clear hC hf
  have HK := Lib.hid hk
  clear hk
  have HE := Lib.hid (ent1 x H W C A n c 41 w)
  go_enter Tryz.func10, Tryz.ntmps10
  go_upto_region 1 with fail
  obtain ⟨W0, hW0, TN, HB, hz, TA, FR⟩ := HE.out
  rw [← hW0]
  clear hW0 HE
  obtain ⟨k00, k01, k02, k03⟩ := TA.out
  obtain ⟨⟨z0, z1, z2, z3⟩, f0, f1, f2, f3⟩ := FR.out
  have q0 := nd_k0 TN.out HK.out
  go_wp2_with (first
    | (refine nd_load rfl _ rfl w.heap.size x rfl TN.out ?_)
    | (go_at_call 32; (with_reducible refine (HF.out _).mono ?_); rintro e1 w1 ⟨rfl, hb⟩; (replace TN := Lib.hid (TN.out.below (by omega) hb)); (replace TA := Lib.hid (TA.out.below (by omega) hb)); (replace FR := Lib.hid (FR.out.below hz hb)); clear k00 k01 k02 k03 z0 z1 z2 z3 f0 f1 f2 f3; obtain ⟨k00, k01, k02, k03⟩ := TA.out; obtain ⟨⟨z0, z1, z2, z3⟩, f0, f1, f2, f3⟩ := FR.out; have hzo := hz; (replace hz : w.heap.size + 2 < w1.heap.size := Nat.lt_of_lt_of_le hz hb.size); (replace HB := Lib.hid (HB.out.trans (hb.mono HB.out.size))); clear hb hzo)
    | (go_at_call 33; (with_reducible refine (HC.out _ HB.out).mono ?_); rintro e1 w1 ⟨v, rfl, ho, hb⟩; (replace TN := Lib.hid (TN.out.below (by omega) hb)); (replace TA := Lib.hid (TA.out.below (by omega) hb)); (replace FR := Lib.hid (FR.out.below hz hb)); clear k00 k01 k02 k03 z0 z1 z2 z3 f0 f1 f2 f3; obtain ⟨k00, k01, k02, k03⟩ := TA.out; obtain ⟨⟨z0, z1, z2, z3⟩, f0, f1, f2, f3⟩ := FR.out; have hzo := hz; (replace hz : w.heap.size + 2 < w1.heap.size := Nat.lt_of_lt_of_le hz hb.size); have HO := Lib.hid (Kit.own_base ho (show w.heap.size + 2 + 1 ≤ _ from hzo)); have HZO := Lib.hid (Nat.lt_succ_self (w.heap.size + 2)); obtain ⟨A2, c2, rfl, -, -, -⟩ := Kit.own_rd ho; (replace HB := Lib.hid (HB.out.trans (hb.mono HB.out.size))); clear ho hb))
  refine bodyPost_ret (Kit.results_ct rfl _ _ (w.heap.size + 2) 0 [.int .i64 r.X, .int .i64 r.Y, .int .i64 r.U, .slice A2 r.m c2] _ rfl (range_4r (by go_cell) (by go_cell) (by go_cell) (by go_cell)) Tryz.underlying41 rfl (by kernel_rfl)) rfl ?_
  refine ⟨_, rfl, Kit.own_base (own_set4 HO.out HZO.out) (by omega), ?_⟩
  exact (((HB.out.setCell (p := ⟨w.heap.size + 2, 0, none⟩) (Nat.le_add_right _ _) _).setCell (p := ⟨w.heap.size + 2, 1, none⟩) (Nat.le_add_right _ _) _).setCell (p := ⟨w.heap.size + 2, 2, none⟩) (Nat.le_add_right _ _) _).setCell (p := ⟨w.heap.size + 2, 3, none⟩) (Nat.le_add_right _ _) _
set_option maxRecDepth 100000 in
set_option maxHeartbeats 4000000 in
theorem csum_lower (x : Nd) (hk : x.kd = 1) (hf : (decide (x.K = 3) && decide (x.S = 1)) = false) (H W C : Int) (A : Option Addr) (n c : Nat) (r : Res) (w : World) (hC : ∀ w1 : World, Below w.heap.size w w1 → Calls Tryz.prog 34 #[.agg #[.int .i64 H, .int .i64 W, .int .i64 C, .slice A n c], .agg x.val] w1 (MAcc w1 r)) :
    Calls Tryz.prog 10 #[.agg x.val, .agg #[.int .i64 H, .int .i64 W, .int .i64 C, .slice A n c]] w (MAcc w r) := by
  have HC := Lib.hid hC
  have HF : Hid (∀ w, Calls Tryz.prog 32 #[.agg x.val] w fun e w' => e = .returned (.bool false) ∧ Below w.heap.size w w') := Lib.hid (fun w => CLane.fits_to (.int .i64 x.kd) (.int .i64 x.na) (.int .i64 x.nb) (.int .i8 x.Y) (.int .i32 x.m1) (.int .i64 x.s1) (.int .i8 x.z1) (.int .i32 x.m2) (.int .i64 x.s2) (.int .i8 x.z2) (.int .i8 x.lo) (.int .i8 x.hi) x.K x.S x.P x.O x.Z x.WA x.BA x.nW x.cW x.nB x.cB false hf w)
  clear hC hf
  have HK := Lib.hid hk
  clear hk
  have HE := Lib.hid (ent1 x H W C A n c 41 w)
  go_enter Tryz.func10, Tryz.ntmps10
  go_upto_region 1 with fail
  obtain ⟨W0, hW0, TN, HB, hz, TA, FR⟩ := HE.out
  rw [← hW0]
  clear hW0 HE
  obtain ⟨k00, k01, k02, k03⟩ := TA.out
  obtain ⟨⟨z0, z1, z2, z3⟩, f0, f1, f2, f3⟩ := FR.out
  have q0 := nd_k0 TN.out HK.out
  go_wp2_with (first
    | (refine nd_load rfl _ rfl w.heap.size x rfl TN.out ?_)
    | (go_at_call 32; (with_reducible refine (HF.out _).mono ?_); rintro e1 w1 ⟨rfl, hb⟩; (replace TN := Lib.hid (TN.out.below (by omega) hb)); (replace TA := Lib.hid (TA.out.below (by omega) hb)); (replace FR := Lib.hid (FR.out.below hz hb)); clear k00 k01 k02 k03 z0 z1 z2 z3 f0 f1 f2 f3; obtain ⟨k00, k01, k02, k03⟩ := TA.out; obtain ⟨⟨z0, z1, z2, z3⟩, f0, f1, f2, f3⟩ := FR.out; have hzo := hz; (replace hz : w.heap.size + 2 < w1.heap.size := Nat.lt_of_lt_of_le hz hb.size); (replace HB := Lib.hid (HB.out.trans (hb.mono HB.out.size))); clear hb hzo)
    | (go_at_call 34; (with_reducible refine (HC.out _ HB.out).mono ?_); rintro e1 w1 ⟨v, rfl, ho, hb⟩; (replace TN := Lib.hid (TN.out.below (by omega) hb)); (replace TA := Lib.hid (TA.out.below (by omega) hb)); (replace FR := Lib.hid (FR.out.below hz hb)); clear k00 k01 k02 k03 z0 z1 z2 z3 f0 f1 f2 f3; obtain ⟨k00, k01, k02, k03⟩ := TA.out; obtain ⟨⟨z0, z1, z2, z3⟩, f0, f1, f2, f3⟩ := FR.out; have hzo := hz; (replace hz : w.heap.size + 2 < w1.heap.size := Nat.lt_of_lt_of_le hz hb.size); have HO := Lib.hid (Kit.own_base ho (show w.heap.size + 2 + 1 ≤ _ from hzo)); have HZO := Lib.hid (Nat.lt_succ_self (w.heap.size + 2)); obtain ⟨A2, c2, rfl, -, -, -⟩ := Kit.own_rd ho; (replace HB := Lib.hid (HB.out.trans (hb.mono HB.out.size))); clear ho hb))
  refine bodyPost_ret (Kit.results_ct rfl _ _ (w.heap.size + 2) 0 [.int .i64 r.X, .int .i64 r.Y, .int .i64 r.U, .slice A2 r.m c2] _ rfl (range_4r (by go_cell) (by go_cell) (by go_cell) (by go_cell)) Tryz.underlying41 rfl (by kernel_rfl)) rfl ?_
  refine ⟨_, rfl, Kit.own_base (own_set4 HO.out HZO.out) (by omega), ?_⟩
  exact (((HB.out.setCell (p := ⟨w.heap.size + 2, 0, none⟩) (Nat.le_add_right _ _) _).setCell (p := ⟨w.heap.size + 2, 1, none⟩) (Nat.le_add_right _ _) _).setCell (p := ⟨w.heap.size + 2, 2, none⟩) (Nat.le_add_right _ _) _).setCell (p := ⟨w.heap.size + 2, 3, none⟩) (Nat.le_add_right _ _) _
set_option maxRecDepth 100000 in
set_option maxHeartbeats 4000000 in
theorem csum_depth (x : Nd) (hk : x.kd = 2) (H W C : Int) (A : Option Addr) (n c : Nat) (r : Res) (w : World) (hC : ∀ w1 : World, Below w.heap.size w w1 → Calls Tryz.prog 35 #[.agg #[.int .i64 H, .int .i64 W, .int .i64 C, .slice A n c], .agg x.val] w1 (MAcc w1 r)) :
    Calls Tryz.prog 10 #[.agg x.val, .agg #[.int .i64 H, .int .i64 W, .int .i64 C, .slice A n c]] w (MAcc w r) := by
  have HC := Lib.hid hC
  clear hC
  have HK := Lib.hid hk
  clear hk
  have HE := Lib.hid (ent1 x H W C A n c 41 w)
  go_enter Tryz.func10, Tryz.ntmps10
  go_upto_region 1 with fail
  obtain ⟨W0, hW0, TN, HB, hz, TA, FR⟩ := HE.out
  rw [← hW0]
  clear hW0 HE
  obtain ⟨k00, k01, k02, k03⟩ := TA.out
  obtain ⟨⟨z0, z1, z2, z3⟩, f0, f1, f2, f3⟩ := FR.out
  have q0 := nd_k0 TN.out HK.out
  go_wp2_with (first
    | (refine nd_load rfl _ rfl w.heap.size x rfl TN.out ?_)
    | (go_at_call 35; (with_reducible refine (HC.out _ HB.out).mono ?_); rintro e1 w1 ⟨v, rfl, ho, hb⟩; (replace TN := Lib.hid (TN.out.below (by omega) hb)); (replace TA := Lib.hid (TA.out.below (by omega) hb)); (replace FR := Lib.hid (FR.out.below hz hb)); clear k00 k01 k02 k03 z0 z1 z2 z3 f0 f1 f2 f3; obtain ⟨k00, k01, k02, k03⟩ := TA.out; obtain ⟨⟨z0, z1, z2, z3⟩, f0, f1, f2, f3⟩ := FR.out; have hzo := hz; (replace hz : w.heap.size + 2 < w1.heap.size := Nat.lt_of_lt_of_le hz hb.size); have HO := Lib.hid (Kit.own_base ho (show w.heap.size + 2 + 1 ≤ _ from hzo)); have HZO := Lib.hid (Nat.lt_succ_self (w.heap.size + 2)); obtain ⟨A2, c2, rfl, -, -, -⟩ := Kit.own_rd ho; (replace HB := Lib.hid (HB.out.trans (hb.mono HB.out.size))); clear ho hb))
  refine bodyPost_ret (Kit.results_ct rfl _ _ (w.heap.size + 2) 0 [.int .i64 r.X, .int .i64 r.Y, .int .i64 r.U, .slice A2 r.m c2] _ rfl (range_4r (by go_cell) (by go_cell) (by go_cell) (by go_cell)) Tryz.underlying41 rfl (by kernel_rfl)) rfl ?_
  refine ⟨_, rfl, Kit.own_base (own_set4 HO.out HZO.out) (by omega), ?_⟩
  exact (((HB.out.setCell (p := ⟨w.heap.size + 2, 0, none⟩) (Nat.le_add_right _ _) _).setCell (p := ⟨w.heap.size + 2, 1, none⟩) (Nat.le_add_right _ _) _).setCell (p := ⟨w.heap.size + 2, 2, none⟩) (Nat.le_add_right _ _) _).setCell (p := ⟨w.heap.size + 2, 3, none⟩) (Nat.le_add_right _ _) _
set_option maxRecDepth 100000 in
set_option maxHeartbeats 4000000 in
theorem csum_dense (x : Nd) (hk : x.kd = 3) (H W C : Int) (A : Option Addr) (n c : Nat) (r : Res) (w : World) (hC : ∀ w1 : World, Below w.heap.size w w1 → Calls Tryz.prog 36 #[.agg #[.int .i64 H, .int .i64 W, .int .i64 C, .slice A n c], .agg x.val] w1 (MAcc w1 r)) :
    Calls Tryz.prog 10 #[.agg x.val, .agg #[.int .i64 H, .int .i64 W, .int .i64 C, .slice A n c]] w (MAcc w r) := by
  have HC := Lib.hid hC
  clear hC
  have HK := Lib.hid hk
  clear hk
  have HE := Lib.hid (ent1 x H W C A n c 41 w)
  go_enter Tryz.func10, Tryz.ntmps10
  go_upto_region 1 with fail
  obtain ⟨W0, hW0, TN, HB, hz, TA, FR⟩ := HE.out
  rw [← hW0]
  clear hW0 HE
  obtain ⟨k00, k01, k02, k03⟩ := TA.out
  obtain ⟨⟨z0, z1, z2, z3⟩, f0, f1, f2, f3⟩ := FR.out
  have q0 := nd_k0 TN.out HK.out
  go_wp2_with (first
    | (refine nd_load rfl _ rfl w.heap.size x rfl TN.out ?_)
    | (go_at_call 36; (with_reducible refine (HC.out _ HB.out).mono ?_); rintro e1 w1 ⟨v, rfl, ho, hb⟩; (replace TN := Lib.hid (TN.out.below (by omega) hb)); (replace TA := Lib.hid (TA.out.below (by omega) hb)); (replace FR := Lib.hid (FR.out.below hz hb)); clear k00 k01 k02 k03 z0 z1 z2 z3 f0 f1 f2 f3; obtain ⟨k00, k01, k02, k03⟩ := TA.out; obtain ⟨⟨z0, z1, z2, z3⟩, f0, f1, f2, f3⟩ := FR.out; have hzo := hz; (replace hz : w.heap.size + 2 < w1.heap.size := Nat.lt_of_lt_of_le hz hb.size); have HO := Lib.hid (Kit.own_base ho (show w.heap.size + 2 + 1 ≤ _ from hzo)); have HZO := Lib.hid (Nat.lt_succ_self (w.heap.size + 2)); obtain ⟨A2, c2, rfl, -, -, -⟩ := Kit.own_rd ho; (replace HB := Lib.hid (HB.out.trans (hb.mono HB.out.size))); clear ho hb))
  refine bodyPost_ret (Kit.results_ct rfl _ _ (w.heap.size + 2) 0 [.int .i64 r.X, .int .i64 r.Y, .int .i64 r.U, .slice A2 r.m c2] _ rfl (range_4r (by go_cell) (by go_cell) (by go_cell) (by go_cell)) Tryz.underlying41 rfl (by kernel_rfl)) rfl ?_
  refine ⟨_, rfl, Kit.own_base (own_set4 HO.out HZO.out) (by omega), ?_⟩
  exact (((HB.out.setCell (p := ⟨w.heap.size + 2, 0, none⟩) (Nat.le_add_right _ _) _).setCell (p := ⟨w.heap.size + 2, 1, none⟩) (Nat.le_add_right _ _) _).setCell (p := ⟨w.heap.size + 2, 2, none⟩) (Nat.le_add_right _ _) _).setCell (p := ⟨w.heap.size + 2, 3, none⟩) (Nat.le_add_right _ _) _
set_option maxRecDepth 100000 in
set_option maxHeartbeats 4000000 in
theorem csum_no (x : Nd) (hk : ¬ x.kd = 1 ∧ ¬ x.kd = 2 ∧ ¬ x.kd = 3) (H W C : Int) (A : Option Addr) (n c : Nat) (w : World) : Calls Tryz.prog 10 #[.agg x.val, .agg #[.int .i64 H, .int .i64 W, .int .i64 C, .slice A n c]] w (MAcc w (Res.bad 6)) := by
  have HK := Lib.hid hk
  clear hk
  have HE := Lib.hid (ent1 x H W C A n c 41 w)
  go_enter Tryz.func10, Tryz.ntmps10
  go_upto_region 1 with fail
  obtain ⟨W0, hW0, TN, HB, hz, TA, FR⟩ := HE.out
  rw [← hW0]
  clear hW0 HE
  obtain ⟨k00, k01, k02, k03⟩ := TA.out
  obtain ⟨⟨z0, z1, z2, z3⟩, f0, f1, f2, f3⟩ := FR.out
  have q0 := TN.out.at 0 (.int .i64 x.kd) rfl
  have hk := HK.out
  have e1 : (x.kd == 1) = false := by simp; omega
  have g1 : ¬ x.kd = 1 := by omega
  have e2 : (x.kd == 2) = false := by simp; omega
  have g2 : ¬ x.kd = 2 := by omega
  have e3 : (x.kd == 3) = false := by simp; omega
  have g3 : ¬ x.kd = 3 := by omega
  go_wp2_with fail
  refine bodyPost_ret (Kit.results_ct rfl _ _ (w.heap.size + 2) 0 [.int .i64 0, .int .i64 0, .int .i64 0, .slice none 0 0] _ rfl (range_4r (by go_cell) (by go_cell) (by go_cell) (by go_cell)) Tryz.underlying41 rfl (by kernel_rfl)) rfl ?_
  refine ⟨_, rfl, own_none _ _, ?_⟩
  exact (((HB.out.setCell (p := ⟨w.heap.size + 2, 0, none⟩) (Nat.le_add_right _ _) _).setCell (p := ⟨w.heap.size + 2, 1, none⟩) (Nat.le_add_right _ _) _).setCell (p := ⟨w.heap.size + 2, 2, none⟩) (Nat.le_add_right _ _) _).setCell (p := ⟨w.heap.size + 2, 3, none⟩) (Nat.le_add_right _ _) _
set_option maxRecDepth 100000 in
set_option maxHeartbeats 4000000 in
theorem csummed_err (x : Nd) (H W C : Int) (A : Option Addr) (n c : Nat) (r : Res) (h0 : r.er ≠ 0) (w : World) (hS : ∀ w1 : World, Below w.heap.size w w1 → Calls Tryz.prog 10 #[.agg x.val, .agg #[.int .i64 H, .int .i64 W, .int .i64 C, .slice A n c]] w1 (MAcc w1 r)) : Calls Tryz.prog 24 #[.agg x.val, .agg #[.int .i64 H, .int .i64 W, .int .i64 C, .slice A n c]] w (MTen w (Res.bad r.er)) := by
  have HC := Lib.hid hS
  have d1 : (r.er != 0) = true := by simpa using h0
  have d2 : (r.er == 0) = false := by simpa using h0
  clear hS
  have HE := Lib.hid (ent1 x H W C A n c 32 w)
  go_enter Tryz.func24, Tryz.ntmps24
  go_upto_region 1 with fail
  obtain ⟨W0, hW0, TN, HB, hz, TA, FR⟩ := HE.out
  rw [← hW0]
  clear hW0 HE
  obtain ⟨k00, k01, k02, k03⟩ := TA.out
  obtain ⟨⟨z0, z1, z2, z3⟩, f0, f1, f2, f3⟩ := FR.out
  go_wp2_with (first
    | (refine nd_load rfl _ rfl w.heap.size x rfl TN.out ?_)
    | (go_at_call 10; (with_reducible refine (HC.out _ HB.out).mono ?_); rintro e1 w1 ⟨v, rfl, ho, hb⟩; (replace TN := Lib.hid (TN.out.below (by omega) hb)); (replace TA := Lib.hid (TA.out.below (by omega) hb)); (replace FR := Lib.hid (FR.out.below hz hb)); clear k00 k01 k02 k03 z0 z1 z2 z3 f0 f1 f2 f3; obtain ⟨k00, k01, k02, k03⟩ := TA.out; obtain ⟨⟨z0, z1, z2, z3⟩, f0, f1, f2, f3⟩ := FR.out; have hzo := hz; (replace hz : w.heap.size + 2 < w1.heap.size := Nat.lt_of_lt_of_le hz hb.size); have HO1 := Lib.hid ho; obtain ⟨A2, c2, rfl, -, -, hr2⟩ := Kit.own_rd ho; have HR2 := Lib.hid hr2; (replace HB := Lib.hid (HB.out.trans (hb.mono HB.out.size))); clear ho hb hzo hr2))
  refine bodyPost_ret (Kit.results_ct rfl _ _ (w.heap.size + 2) 0 [.int .i64 0, .int .i64 0, .int .i64 0, .slice none 0 0] _ rfl (range_4r (by go_cell) (by go_cell) (by go_cell) (by go_cell)) Tryz.underlying32 rfl (by kernel_rfl)) rfl ?_
  refine ⟨_, rfl, own_none _ _, ?_⟩
  exact set4_alloc HB.out (by omega) _ _ _ _ _
end Go.Proofs.YtoghpoopgkahiaaGreatDoor.CRun
end
section
namespace Go.Proofs.YtoghpoopgkahiaaGreatDoor.CRun
set_option maxRecDepth 100000
open Go Go.ChangeShapes Go.WideShapes Go.ChangeAt Go.RowKit Go.Deep
open Plain CSat CShape CTensor CConv CKind
set_option linter.unusedVariables false
set_option linter.unusedSimpArgs false
set_option maxRecDepth 100000 in
set_option maxHeartbeats 4000000 in
theorem csummed_ok (x : Nd) (H W C : Int) (A : Option Addr) (n c : Nat) (r q : Res) (h0 : r.er = 0) (w : World) (hS : ∀ w1 : World, Below w.heap.size w w1 → Calls Tryz.prog 10 #[.agg x.val, .agg #[.int .i64 H, .int .i64 W, .int .i64 C, .slice A n c]] w1 (MAcc w1 r)) (hP : ∀ (w1 : World) (A2 : Option Addr) (c2 : Nat), Below w.heap.size w w1 → Kit.Rd w1 w1.heap.size A2 (I32v r.xs) → Calls Tryz.prog 68 #[.agg #[.int .i64 r.X, .int .i64 r.Y, .int .i64 r.U, .slice A2 r.m c2], .agg x.val] w1 (MTen w1 q)) : Calls Tryz.prog 24 #[.agg x.val, .agg #[.int .i64 H, .int .i64 W, .int .i64 C, .slice A n c]] w (MTen w q) := by
  have HC := Lib.hid hS
  have HP := Lib.hid hP
  clear hS hP
  have HE := Lib.hid (ent1 x H W C A n c 32 w)
  go_enter Tryz.func24, Tryz.ntmps24
  go_upto_region 1 with fail
  obtain ⟨W0, hW0, TN, HB, hz, TA, FR⟩ := HE.out
  rw [← hW0]
  clear hW0 HE
  obtain ⟨k00, k01, k02, k03⟩ := TA.out
  obtain ⟨⟨z0, z1, z2, z3⟩, f0, f1, f2, f3⟩ := FR.out
  have d1 : (r.er != 0) = false := by simpa using h0
  have d2 : (r.er == 0) = true := by simpa using h0
  go_wp2_with (first
    | (refine nd_load rfl _ rfl w.heap.size x rfl TN.out ?_)
    | (go_at_call 10; (with_reducible refine (HC.out _ HB.out).mono ?_); rintro e1 w1 ⟨v, rfl, ho, hb⟩; (replace TN := Lib.hid (TN.out.below (by omega) hb)); (replace TA := Lib.hid (TA.out.below (by omega) hb)); (replace FR := Lib.hid (FR.out.below hz hb)); clear k00 k01 k02 k03 z0 z1 z2 z3 f0 f1 f2 f3; obtain ⟨k00, k01, k02, k03⟩ := TA.out; obtain ⟨⟨z0, z1, z2, z3⟩, f0, f1, f2, f3⟩ := FR.out; have hzo := hz; (replace hz : w.heap.size + 2 < w1.heap.size := Nat.lt_of_lt_of_le hz hb.size); have HO1 := Lib.hid ho; obtain ⟨A2, c2, rfl, -, -, hr2⟩ := Kit.own_rd ho; have HR2 := Lib.hid hr2; (replace HB := Lib.hid (HB.out.trans (hb.mono HB.out.size))); clear ho hb hzo hr2)
    | (refine nd_load rfl _ rfl w.heap.size x rfl (TN.out.below (show w.heap.size < w1.heap.size by omega) ((Below.refl w1.heap.size w1).alloc (Nat.le_refl _) _)) ?_)
    | (go_at_call 68; (with_reducible refine (HP.out _ A2 c2 (HB.out.alloc HB.out.size _) ((HR2.out.alloc (Nat.le_refl _) _).more (by simp))).mono ?_); rintro e1 w2 ⟨v, rfl, ho, hb2⟩; have hb : Below w1.heap.size w1 w2 := ((Below.refl _ _).alloc (Nat.le_refl _) _).trans (hb2.mono (by simp)); have hzl : w.heap.size + 2 + 1 ≤ w1.heap.size := hz; (replace TN := Lib.hid (TN.out.below (by omega) hb)); (replace TA := Lib.hid (TA.out.below (by omega) hb)); (replace FR := Lib.hid (FR.out.below hz hb)); clear k00 k01 k02 k03 z0 z1 z2 z3 f0 f1 f2 f3; obtain ⟨k00, k01, k02, k03⟩ := TA.out; obtain ⟨⟨z0, z1, z2, z3⟩, f0, f1, f2, f3⟩ := FR.out; have hzo := hz; (replace hz : w.heap.size + 2 < w2.heap.size := Nat.lt_of_lt_of_le hz hb.size); have HO := Lib.hid (Kit.own_base ho (show w.heap.size + 2 + 1 ≤ _ from by simp; omega)); have HZO := Lib.hid (Nat.lt_succ_self (w.heap.size + 2)); obtain ⟨A3, c3, rfl, -, -, -⟩ := Kit.own_rd ho; (replace HB := Lib.hid (HB.out.trans (hb.mono HB.out.size))); clear ho hb hb2 hzo))
  refine bodyPost_ret (Kit.results_ct rfl _ _ (w.heap.size + 2) 0 [.int .i64 q.X, .int .i64 q.Y, .int .i64 q.U, .slice A3 q.m c3] _ rfl (range_4r (by go_cell) (by go_cell) (by go_cell) (by go_cell)) Tryz.underlying32 rfl (by kernel_rfl)) rfl ?_
  refine ⟨_, rfl, Kit.own_base (own_set4 HO.out HZO.out) (by omega), ?_⟩
  exact (((HB.out.setCell (p := ⟨w.heap.size + 2, 0, none⟩) (Nat.le_add_right _ _) _).setCell (p := ⟨w.heap.size + 2, 1, none⟩) (Nat.le_add_right _ _) _).setCell (p := ⟨w.heap.size + 2, 2, none⟩) (Nat.le_add_right _ _) _).setCell (p := ⟨w.heap.size + 2, 3, none⟩) (Nat.le_add_right _ _) _
end Go.Proofs.YtoghpoopgkahiaaGreatDoor.CRun
end
section
namespace Go.Proofs.YtoghpoopgkahiaaGreatDoor.CTensor
set_option maxRecDepth 100000
open Go Go.ChangeShapes Go.WideShapes Go.ChangeAt Go.RowKit
open Plain CSat CShape
set_option linter.unusedVariables false
theorem mul_one_n (n : Nat) (hn : n < 18446744073709551616) (w : World) :
    Calls Tryz.prog 152 #[.int .u64 1, .int .u64 (n : Int)] w fun e w' => e = .returned (.tuple #[.int .u64 0, .int .u64 (n : Int)]) ∧ w = w' := by
  have h := Tryz.bits_Mul 1 n (by omega) hn w
  rw [Nat.one_mul, Nat.div_eq_of_lt hn, Nat.mod_eq_of_lt hn] at h
  exact h.mono fun e w' ⟨he, hw⟩ => ⟨he, hw.symm⟩
/-- q numbers, and zeros behind them. -/
def partly (x : Int) (n q : Nat) : List Value := List.replicate q (.int .i8 x) ++ List.replicate (n - q) (.int .i8 0)
theorem partly_len (x : Int) {n q : Nat} (h : q ≤ n) : (partly x n q).length = n := by simp [partly]; omega
theorem partly_splice (x : Int) {n q m : Nat} (h : q + m ≤ n) : splice (partly x n q) q (List.replicate m (.int .i8 x)) = partly x n (q + m) := by
  unfold splice partly
  rw [List.take_left' (by simp), List.length_replicate, List.drop_append, List.length_replicate, List.drop_eq_nil_of_le (by simp), List.nil_append, List.drop_replicate, ← List.append_assoc, List.replicate_append_replicate]
  congr 2; omega
theorem partly_at (x : Int) {n q j : Nat} (h : j < q) : (partly x n q)[j]? = some (.int .i8 x) := by
  unfold partly
  rw [List.getElem?_append_left (by simpa using h), List.getElem?_replicate, if_pos h]
theorem rd_one {w : World} {B : Nat} {A : Option Addr} {x : Value} (h : Kit.Rd w B A [x]) : ∃ ad, A = some ad ∧ ∀ j v, [x][j]? = some v → w.cell? (ad.add j) = some v := by
  obtain ⟨ad, rfl, _, _⟩ := h 0 x rfl
  refine ⟨ad, rfl, fun j v hv => ?_⟩
  obtain ⟨ad2, e, _, hc⟩ := h j v hv
  cases e; exact hc
theorem made_partly (w : World) (x : Int) (n : Nat) : (w.alloc (.cells (madeCells #[Value.int .i8 0] n) 22)).heap[w.heap.size]? = some (.cells (partly x n 0).toArray 22 (0, 0)) := by
  rw [heap_alloc_new]
  refine congrArg (fun a => some (Obj.cells a 22 (0, 0))) ?_
  apply Array.ext'
  rw [toList_madeCells_one]
  simp [partly]
theorem part_src {w : World} {g : Nat} {x : Int} {n q m : Nat} {T : TypeId} (h : w.heap[g]? = some (.cells (partly x n q).toArray T (0, 0))) (hm : m ≤ q) :
    ∀ j v, (List.replicate m (Value.int .i8 x))[j]? = some v → w.cell? ((⟨g, 0, none⟩ : Addr).add j) = some v := by
  intro j v hv
  have e : (⟨g, 0, none⟩ : Addr).add j = ⟨g, j, none⟩ := by
    unfold Addr.add; split
    · rename_i h; subst h; rfl
    · simp
  rw [List.getElem?_replicate] at hv
  split at hv
  · rename_i hj
    cases hv
    rw [e]
    unfold World.cell?
    rw [h]
    have := partly_at x (n := n) (q := q) (j := j) (by omega)
    simpa using this
  · cases hv
theorem repeat_to (A : Option Addr) (x : Int) (c n : Nat) (h1 : 1 ≤ n) (hl : n ≤ 1000000) {B : Nat} (w : World) (hB : B ≤ w.heap.size) (hr : Kit.Rd w B A (I8s [x])) :
    Calls Tryz.prog 141 #[.slice A 1 c, .int .i64 (n : Int)] w (Owned w n (I8s (List.replicate n x))) := by
  have HR := Lib.hid hr
  have hnI : (n : Int) ≤ 1000000 := by omega
  have hnJ : (1 : Int) ≤ (n : Int) := by omega
  have hbig : decide (9223372036854775807 < (n : Int)) = false := by simp; omega
  clear hr
  have hmk := run_make_row' (P := Tryz.prog) 23 22 (.int .i8 0) 1 Tryz.underlying23 info_i8 rfl .i64 .i64 n (by omega) (by omega)
  have hsz : (Tryz.prog.info? 22).map (·.size) = some 1 := by kernel_rfl
  have HSZ := Lib.hid hsz
  clear hsz
  go_enter Tryz.func141, Tryz.ntmps141
  go_wp2_with (first
    | (go_at_call 152; (refine (mul_one_n n (by omega) _).mono ?_); rintro e w' ⟨rfl, rfl⟩)
    | (refine wpList_copy_splice rfl (.tmp 31) (.tmp 32) _ _ rfl 22 Tryz.underlying23 HSZ.out (some ⟨w.heap.size, 0, none⟩) A n n 1 c rfl rfl w.heap.size 0 (partly x n 0) 22 (made_partly w x n) [.int .i8 x] (by show 1 = min 1 n; omega) (fun _ => ⟨rfl, rd_one ((HR.out.alloc hB _))⟩) (by rw [partly_len x (Nat.zero_le _)]; simpa using h1) (Kit.ints_one .i8 [x]) w.heap.size w ((Below.refl _ _).alloc (Nat.le_refl _) _) (Nat.le_refl _) ?_
       intro w2 HG hb2
       have HB := Lib.hid hb2
       have hsp := partly_splice x (n := n) (q := 0) (m := 1) (by omega)
       have HG1 : Hid (w2.heap[w.heap.size]? = some (.cells (partly x n 1).toArray 22 (0, 0))) := by
         have := HG.out
         rw [show [Value.int .i8 x] = List.replicate 1 (Value.int .i8 x) from rfl, hsp] at this
         exact Lib.hid this
       clear hb2 HG hsp))
  go_loopw [8] (fun i wr => ∃ q : Nat, 1 ≤ q ∧ q ≤ n ∧ i = .int .i64 q ∧ Hid (wr.heap[w.heap.size]? = some (.cells (partly x n q).toArray 22 (0, 0))) ∧ Hid (Below w.heap.size w wr)) (fun i _ => n - (intOf i).toNat)
  case atStart => exact ⟨1, Nat.le_refl _, h1, rfl, HG1, HB⟩
  case round =>
    obtain ⟨q, hq1, hq, rfl, hG, hBw⟩ := hrel
    clear HG1 HB
    by_cases hlt : q < n
    · have hqI : (q : Int) < (n : Int) := by omega
      have hqJ : (1 : Int) ≤ (q : Int) := by omega
      have hne : ¬ n = q := by omega
      obtain ⟨m, hm⟩ : ∃ m, min q (n - q) = m := ⟨_, rfl⟩
      have hm1 : 1 ≤ m := by omega
      have hmq : m ≤ q := by omega
      have hmn : q + m ≤ n := by omega
      have HM := Lib.hid hm
      clear hm
      go_wp2_with fail
      refine wp_region_held_drew (S := fun w' => True) (by kernel_rfl) trivial (fun hHeld => ?_)
      refine Tk.x 0 rfl ?_
      try simp only [Tk.put]
      refine Tk.x 1 rfl ?_
      try simp only [Tk.put]
      refine Tk.x 2 rfl ?_
      try simp only [Tk.put]
      refine Tk.x 3 rfl ?_
      try simp only [Tk.put]
      refine Tk.x 4 rfl ?_
      try simp only [Tk.put]
      refine Tk.x 5 rfl ?_
      try simp only [Tk.put]
      refine Tk.x 6 rfl ?_
      try simp only [Tk.put]
      refine Tk.s 7 rfl (fun K hK => ?_)
      refine step_copy_splice rfl (.tmp 41) (.tmp 44) _ _ rfl 22 Tryz.underlying23 HSZ.out (some ⟨w.heap.size, q, none⟩) (some ⟨w.heap.size, 0, none⟩) (n - q) (n - q) q n rfl rfl w.heap.size q (partly x n q) 22 hG.out (List.replicate m (.int .i8 x)) (by simpa [Nat.min_def] using HM.out.symm) (fun _ => ⟨rfl, ⟨_, rfl, part_src hG.out hmq⟩⟩) (by rw [partly_len x hq, List.length_replicate]; exact hmn) (by intro v hv; rw [List.eq_of_mem_replicate hv]; rfl) w.heap.size w hBw.out.drew (Nat.le_refl _) ?_
      intro w3 HG3 hb3
      have HB3 := Lib.hid hb3
      have HG4 : Hid (w3.heap[w.heap.size]? = some (.cells (partly x n (q + m)).toArray 22 (0, 0))) := by
        have := HG3.out
        rw [partly_splice x hmn] at this
        exact Lib.hid this
      have hsum : goInt (List.replicate m (Value.int .i8 x)).length = .int .i64 (m : Int) := by simp [goInt]
      rw [hsum]
      clear hb3 HG3 hsum
      have hwr : IntKind.i64.wrap ((q : Int) + (m : Int)) = (q : Int) + (m : Int) := IntWalk.i64_in _ (by omega)
      dsimp only
      refine hK.out _ _ ?_ (fun hHeld => ?_)
      · exact trivial
      clear hK K
      try simp only [Tk.put]
      refine Tk.x 8 rfl ?_
      try simp only [Tk.put]
      refine Tk.x 9 rfl ?_
      try simp only [Tk.put]
      refine wpAnyH_done (by kernel_rfl) ?_ _
      clear hwr
      go_wp2_with fail
      go_roundw
      case rel => exact ⟨q + m, by omega, by omega, by go_num, HG4, HB3⟩
      case measure => simp [intOf]; omega
    · obtain rfl : q = n := by omega
      go_wp2_with fail
      go_ret
      refine ⟨_, rfl, ⟨by simp [I8s], .inr ⟨w.heap.size, q, (partly x q q).toArray, rfl, Nat.le_refl _, hG.out, Nat.le_refl _, by unfold maxLen; omega, by simp [partly], by simp [partly, I8s]⟩⟩, hBw.out⟩
end Go.Proofs.YtoghpoopgkahiaaGreatDoor.CTensor
end
