/- Texts of this seat, one behind the other: Tk, Plain, Shelf, Sat, Kit, Num, Shape, ShapeTwo. -/
import Derived.Deep.RegionHeld
import Derived.KernelRfl
import Derived.WalkKit
import Derived.Laws.BitsLemmas
import Derived.Lib.Hide
import Derived.Shelf.Bits.Mul64
import Derived.Test.YtamcdpkakdiggaaDoorProg
import Derived.Test.YtamcdpkakdiggaaDoorRows
import Derived.ProofKit
import Derived.OpenShut
import Derived.Laws.Bits64
import Derived.Outline
import Derived.Below
import Derived.Laws.OwnMore
import Derived.Deep.AppendLies
import Derived.Deep.Draws
import Derived.WideKeyArgs
import Derived.ChangeSlices
import Derived.ChangeSame
import Derived.ChangeOld
import Derived.Deep.Fields
import Derived.Deep.QuietTactic
import Derived.BigQuiet
import Derived.ScopeJumps
import Derived.Maps.AppendAt
import Derived.OwnWalk
import Derived.RegionTactic
import Derived.Deep.MidRow
import Derived.Laws.ResultCell
import Derived.Deep.RegionHeld3
import Derived.Handy
section
namespace Go.Proofs.YtamcdpkakdiggaaDoor.Tk
open Go
section
variable {P : Program} {ops : Array Oper} {Q : Exit → Act → World → Prop} {md : Region.Mode} {S : World → Prop}
theorem at_ {i : Nat} {o : Oper} {l : List Oper} (h : ops.toList.drop i = o :: l) : ops[i]? = some o := by
  have h1 : (ops.toList.drop i)[0]? = some o := by rw [h]; rfl
  rw [List.getElem?_drop, Nat.add_zero, Array.getElem?_toList] at h1
  exact h1
theorem t (i : Nat) {oi : Oper} {l : List Oper} {v : Value} {fuel : Nat} {listed : Array Bool} {a : Act} {w : World} (hi : ops.toList.drop i = oi :: l)
    (hy : YieldsIf P ops S oi v a) (hS : S w) (h : wpAnyH P md ops Q S fuel (listed.setIfInBounds i true) (a.put oi.dst v) w)
    (hs : Region.noSelect ops = true := by kernel_rfl) (hf : Region.free md ops listed i = true := by kernel_rfl) (hr : (Region.ready md ops listed).contains i = true := by kernel_rfl)
    (hQ : ∀ c a w, Q (.panic c) (a.put oi.dst v) w → Q (.panic c) a w := by exact fun _ _ _ h => h) : wpAnyH P md ops Q S (fuel + 1) listed a w :=
  wpAnyH_take (at_ hi) hs hf hr hQ hy hS h
theorem y (i : Nat) {oi : Oper} {l : List Oper} {v : Value} {fuel : Nat} {listed : Array Bool} {a : Act} {w : World} (hi : ops.toList.drop i = oi :: l)
    (hy : ∀ w, S w → (execOp a.eval oi).run P w = .ok (.value v) w) (h : wpAnyH P md ops Q S fuel (listed.setIfInBounds i true) (a.put oi.dst v) w)
    (hS : S w := by assumption) (hw : Region.wanted oi (yielded ops a.tmps) = true := by rfl) (hs : Region.noSelect ops = true := by kernel_rfl) (hf : Region.free md ops listed i = true := by kernel_rfl) (hr : (Region.ready md ops listed).contains i = true := by kernel_rfl)
    (hQ : ∀ c a w, Q (.panic c) (a.put oi.dst v) w → Q (.panic c) a w := by exact fun _ _ _ h => h) : wpAnyH P md ops Q S (fuel + 1) listed a w :=
  wpAnyH_take (at_ hi) hs hf hr hQ (Or.inl ⟨hw, hy⟩) hS h
theorem x (i : Nat) {oi : Oper} {l : List Oper} {v : Value} {fuel : Nat} {listed : Array Bool} {a : Act} {w : World} (hi : ops.toList.drop i = oi :: l)
    (h : wpAnyH P md ops Q S fuel (listed.setIfInBounds i true) (a.put oi.dst v) w)
    (hy : ∀ w, S w → (execOp a.eval oi).run P w = .ok (.value v) w := by intro wS hSw; first | (go_simp; done) | (go_simp; with_reducible rfl))
    (hS : S w := by assumption) (hw : Region.wanted oi (yielded ops a.tmps) = true := by rfl) (hs : Region.noSelect ops = true := by kernel_rfl) (hf : Region.free md ops listed i = true := by kernel_rfl) (hr : (Region.ready md ops listed).contains i = true := by kernel_rfl)
    (hQ : ∀ c a w, Q (.panic c) (a.put oi.dst v) w → Q (.panic c) a w := by exact fun _ _ _ h => h) : wpAnyH P md ops Q S (fuel + 1) listed a w :=
  wpAnyH_take (at_ hi) hs hf hr hQ (Or.inl ⟨hw, hy⟩) hS h
theorem put : (∀ (a : Act) (v : Value), a.put none v = a) ∧ (∀ (a : Act) (t : Tmp) (v : Value), a.put (some t) v = { a with tmps := a.tmps.setIfInBounds t v }) ∧
    (∀ (l : List Value) (i : Nat) (v : Value), l.toArray.setIfInBounds i v = (l.set i v).toArray) ∧ (∀ (x v : Value) (l : List Value), (x :: l).set 0 v = v :: l) ∧ (∀ (x v : Value) (l : List Value) (i : Nat), (x :: l).set (i + 1) v = x :: l.set i v) ∧
    (∀ (l : List Bool) (i : Nat) (v : Bool), l.toArray.setIfInBounds i v = (l.set i v).toArray) ∧ (∀ (x v : Bool) (l : List Bool), (x :: l).set 0 v = v :: l) ∧ (∀ (x v : Bool) (l : List Bool) (i : Nat), (x :: l).set (i + 1) v = x :: l.set i v) :=
  ⟨fun _ _ => rfl, fun _ _ _ => rfl, fun _ _ _ => by simp, fun _ _ _ => rfl, fun _ _ _ _ => rfl, fun _ _ _ => by simp, fun _ _ _ => rfl, fun _ _ _ _ => rfl⟩
theorem c {fuel : Nat} {listed : Array Bool} {a : Act} {w : World} {i : Nat} {o : Oper} {l : List Oper} {rs : List Nat} (ho : ops.toList.drop i = o :: l)
    (h : ∀ K' : Act → World → Prop, Shut (∀ a w, S w → (S w → wpAnyH P md ops Q S fuel (listed.setIfInBounds i true) a w) → K' a w) → if Region.wanted o (yielded ops a.tmps) = true then Oper.wp P o a w K' Q else K' (a.put o.dst undef) w)
    (hs : AllReadyH P md ops Q S fuel listed a w rs) : AllReadyH P md ops Q S fuel listed a w (i :: rs) := AllReadyH.cons (at_ ho) h hs
theorem s (i : Nat) {fuel : Nat} {listed : Array Bool} {a : Act} {w : World} {o : Oper} {l : List Oper} (ho : ops.toList.drop i = o :: l)
    (h : ∀ K' : Act → World → Prop, Shut (∀ a w, S w → (S w → wpAnyH P md ops Q S fuel (listed.setIfInBounds i true) a w) → K' a w) → if Region.wanted o (yielded ops a.tmps) = true then Oper.wp P o a w K' Q else K' (a.put o.dst undef) w)
    (hr : Region.ready md ops listed = [i] := by kernel_rfl) : wpAnyH P md ops Q S (fuel + 1) listed a w :=
  wpAnyH_ready (rs := [i]) hr (by simp) (AllReadyH.cons (at_ ho) h AllReadyH.nil)
theorem q (i : Nat) {fuel : Nat} {listed : Array Bool} {a : Act} {w : World} {o : Oper} {l : List Oper} (ho : ops.toList.drop i = o :: l)
    (h : ∀ K' : Act → World → Prop, (∀ a w, wpAny P md ops Q fuel (listed.setIfInBounds i true) a w → K' a w) → if Region.wanted o (yielded ops a.tmps) = true then Oper.wp P o a w K' Q else K' (a.put o.dst undef) w)
    (hr : Region.ready md ops listed = [i] := by kernel_rfl) : wpAny P md ops Q (fuel + 1) listed a w :=
  wpAny_ready (rs := [i]) hr (by simp) (AllReady.cons (at_ ho) h (fun j hj => by cases hj))
theorem z (i : Nat) {oi : Oper} {l : List Oper} {v : Value} {fuel : Nat} {listed : Array Bool} {a : Act} {w : World} (hi : ops.toList.drop i = oi :: l)
    (h : wpAny P md ops Q fuel (listed.setIfInBounds i true) (a.put oi.dst v) w)
    (hy : ∀ w, (execOp a.eval oi).run P w = .ok (.value v) w := by intro wS; first | (go_simp; done) | (go_simp; with_reducible rfl))
    (hw : Region.wanted oi (yielded ops a.tmps) = true := by rfl) (hs : Region.noSelect ops = true := by kernel_rfl) (hf : Region.free md ops listed i = true := by kernel_rfl) (hr : (Region.ready md ops listed).contains i = true := by kernel_rfl)
    (hQ : ∀ c a w, Q (.panic c) (a.put oi.dst v) w → Q (.panic c) a w := by exact fun _ _ _ h => h) : wpAny P md ops Q (fuel + 1) listed a w :=
  wpAny_take (at_ hi) hs hf hr hQ (Or.inl ⟨hw, hy⟩) h
theorem p (i : Nat) {oi : Oper} {l : List Oper} {v : Value} {fuel : Nat} {listed : Array Bool} {a : Act} {w : World} (hi : ops.toList.drop i = oi :: l)
    (hy : Yields P ops oi v a) (h : wpAny P md ops Q fuel (listed.setIfInBounds i true) (a.put oi.dst v) w)
    (hs : Region.noSelect ops = true := by kernel_rfl) (hf : Region.free md ops listed i = true := by kernel_rfl) (hr : (Region.ready md ops listed).contains i = true := by kernel_rfl)
    (hQ : ∀ c a w, Q (.panic c) (a.put oi.dst v) w → Q (.panic c) a w := by exact fun _ _ _ h => h) : wpAny P md ops Q (fuel + 1) listed a w :=
  wpAny_take (at_ hi) hs hf hr hQ hy h
theorem d {fuel : Nat} {listed : Array Bool} {a : Act} {w : World} {i : Nat} {o : Oper} {l : List Oper} {rs : List Nat} (ho : ops.toList.drop i = o :: l)
    (h : ∀ K' : Act → World → Prop, (∀ a w, wpAny P md ops Q fuel (listed.setIfInBounds i true) a w → K' a w) → if Region.wanted o (yielded ops a.tmps) = true then Oper.wp P o a w K' Q else K' (a.put o.dst undef) w)
    (hs : AllReady P md ops Q fuel listed a w rs) : AllReady P md ops Q fuel listed a w (i :: rs) := AllReady.cons (at_ ho) h hs
end
end Go.Proofs.YtamcdpkakdiggaaDoor.Tk
end
section
namespace Go.Proofs.YtamcdpkakdiggaaDoor.Plain
open Go Go.RowKit
/-- does an integer fit 64 bits? -/
def fits (v : Int) : Bool := decide (-9223372036854775808 ≤ v ∧ v ≤ 9223372036854775807)
def fitZ (v : Int) : Int := if fits v then v else 0
theorem fits_yes {v : Int} (h1 : -9223372036854775808 ≤ v) (h2 : v ≤ 9223372036854775807) : fits v = true := by simp [fits, h1, h2]
theorem fits_no {v : Int} (h : v < -9223372036854775808 ∨ 9223372036854775807 < v) : fits v = false := by
  simp [fits]; omega
theorem fitZ_yes {v : Int} (h1 : -9223372036854775808 ≤ v) (h2 : v ≤ 9223372036854775807) : fitZ v = v := by unfold fitZ; rw [if_pos (fits_yes h1 h2)]
theorem fitZ_no {v : Int} (h : v < -9223372036854775808 ∨ 9223372036854775807 < v) : fitZ v = 0 := by unfold fitZ; rw [if_neg (by simp [fits_no h])]
end Go.Proofs.YtamcdpkakdiggaaDoor.Plain
end
section
namespace Go.Proofs
open Go.Shelf
def Tryd.lays264_ren : Go.Shelf.Ren := ⟨fun | 264 => 49 | n => n, fun | 53 => 75 | 46 => 79 | n => n, fun | n => n⟩
theorem Tryd.lays264 : Go.Proofs.Lays.n264 Tryd.prog Tryd.lays264_ren := {
  mixed := by kernel_rfl
  f264 := Tryd.func49.trans (congrArg some (by kernel_rfl))
  t46 := Tryd.underlying79
  a46 := Tryd.isAgg79
  z46 := Tryd.sizeOf79
  v46 := Tryd.zeroValue79
  t53 := Tryd.underlying75
  a53 := Tryd.isAgg75
  z53 := Tryd.sizeOf75
  v53 := Tryd.zeroValue75 }
open Go.RowKit Go.Lib in
theorem Tryd.bits_Mul64 (x y : Nat) (hx : x < 18446744073709551616) (hy : y < 18446744073709551616) (w : World) :
    Calls Tryd.prog 49 #[.int .u64 x, .int .u64 y] w fun e w' => e = .returned (.tuple #[.int .u64 ((x * y / 18446744073709551616 : Nat) : Int), .int .u64 ((x * y % 18446744073709551616 : Nat) : Int)]) ∧ w' = w := Any.bits_Mul64 Tryd.lays264 x y hx hy w
end Go.Proofs
end
section
namespace Go.Proofs.YtamcdpkakdiggaaDoor.CSat
open Go.ChangeShapes Go.WideShapes Go.ChangeAt Go.RowKit
open Plain
set_option linter.unusedVariables false
theorem ret_int {k : IntKind} {a b : Int} (h : a = b) : Ending.returned (.int k a) = .returned (.int k b) := by rw [h]
theorem size (a : Int) (ha1 : -9223372036854775808 ≤ a) (ha2 : a ≤ 9223372036854775807) (w : World) :
    Calls Tryd.prog 50 #[.int .i64 a] w fun e w' => e = .returned (.int .u64 (a.natAbs : Int)) ∧ w = w' := by
  by_cases h : a < 0
  · have hx : IntKind.u64.wrap a = a + 18446744073709551616 := by rw [IntKind.wrap_u64]; omega
    go_enter Tryd.func50, Tryd.ntmps50
    go_wp2
    go_ret
    exact ⟨ret_int (by rw [IntKind.wrap_u64]; omega), rfl⟩
  · go_enter Tryd.func50, Tryd.ntmps50
    go_wp2
    go_ret
    exact ⟨ret_int (by omega), rfl⟩
theorem mul64_small (x y P : Nat) (hx : x < 18446744073709551616) (hy : y < 18446744073709551616) (hP : P = x * y) (h : P < 18446744073709551616) (w : World) :
    Calls Tryd.prog 49 #[.int .u64 x, .int .u64 y] w fun e w' => e = .returned (.tuple #[.int .u64 0, .int .u64 (P : Int)]) ∧ w = w' := by
  refine (Tryd.bits_Mul64 x y hx hy w).mono fun e w' he => ?_
  rw [← hP, Nat.div_eq_of_lt h, Nat.mod_eq_of_lt h] at he
  exact ⟨he.1, he.2.symm⟩
def BigHigh (w : World) (e : Ending) (w' : World) : Prop := ∃ h l : Int, 1 ≤ h ∧ (h != 0) = true ∧ e = .returned (.tuple #[.int .u64 h, .int .u64 l]) ∧ w = w'
theorem mul64_big (x y : Nat) (hx : x < 18446744073709551616) (hy : y < 18446744073709551616) (h : 18446744073709551616 ≤ x * y) (w : World) :
    Calls Tryd.prog 49 #[.int .u64 x, .int .u64 y] w (BigHigh w) := by
  refine (Tryd.bits_Mul64 x y hx hy w).mono fun e w' he => ?_
  have h1 : 1 ≤ x * y / 18446744073709551616 := (Nat.le_div_iff_mul_le (by omega)).2 (by omega)
  generalize x * y / 18446744073709551616 = q at h1 he
  exact ⟨q, _, by omega, by rw [bne_iff_ne]; omega, he.1, he.2.symm⟩
theorem abs_mul (a b : Int) : (a * b).natAbs = a.natAbs * b.natAbs := Int.natAbs_mul a b
theorem neg_back (P : Nat) (h : P ≤ 9223372036854775808) : Ending.returned (.tuple #[.int .i64 (wrap64 (IntKind.u64.wrap (-(P : Int)))), .bool true]) = Ending.returned (.tuple #[.int .i64 (-(P : Int)), .bool true]) := by
  have : wrap64 (IntKind.u64.wrap (-(P : Int))) = -(P : Int) := by rw [IntKind.wrap_u64]; unfold wrap64; omega
  rw [this]
theorem times (a b : Int) (ha1 : -9223372036854775808 ≤ a) (ha2 : a ≤ 9223372036854775807) (hb1 : -9223372036854775808 ≤ b) (hb2 : b ≤ 9223372036854775807) (w : World) :
    Calls Tryd.prog 48 #[.int .i64 a, .int .i64 b] w fun e w' => e = .returned (.tuple #[.int .i64 (fitZ (a * b)), .bool (fits (a * b))]) ∧ w = w' := by
  have hm := abs_mul a b
  have hA : a.natAbs < 18446744073709551616 := by omega
  have hB : b.natAbs < 18446744073709551616 := by omega
  by_cases hbig : 18446744073709551616 ≤ a.natAbs * b.natAbs
  · have h2 : a * b < -9223372036854775808 ∨ 9223372036854775807 < a * b := by omega
    rw [fitZ_no h2, fits_no h2]
    have H := Lib.hid hbig
    clear hm h2 hbig
    go_enter Tryd.func48, Tryd.ntmps48
    go_wp2_with (first | (go_at_call 50; refine (size _ (by omega) (by omega) _).mono ?_; rintro e w' ⟨rfl, rfl⟩) | (go_at_call 49; refine (mul64_big _ _ hA hB H.out _).mono ?_; rintro e w' ⟨h, l, h1, h2, rfl, rfl⟩))
    go_ret2
    exact ⟨rfl, rfl⟩
  · obtain ⟨P, hP⟩ : ∃ P, P = a.natAbs * b.natAbs := ⟨_, rfl⟩
    have hsm : P < 18446744073709551616 := by omega
    have key : (((a < 0) = (b < 0)) → a * b = P) ∧ (((a < 0) ≠ (b < 0)) → a * b = - (P : Int)) := by
      have hs : (a * b = P) ∨ (a * b = -(P : Int)) := by omega
      constructor
      · intro hsg
        by_cases ha : a < 0
        · have hb : b < 0 := hsg ▸ ha
          have := Int.mul_pos_of_neg_of_neg ha hb
          omega
        · have hb : ¬ b < 0 := hsg ▸ ha
          have := Int.mul_nonneg (Int.not_lt.1 ha) (Int.not_lt.1 hb)
          omega
      · intro hsg
        by_cases ha : a < 0
        · have hb : ¬ b < 0 := fun h => hsg (by simp [ha, h])
          have := Int.mul_nonpos_of_nonpos_of_nonneg (Int.le_of_lt ha) (Int.not_lt.1 hb)
          omega
        · have hb : b < 0 := by
            by_cases hb : b < 0
            · exact hb
            · exact absurd (by simp [ha, hb]) hsg
          have := Int.mul_nonpos_of_nonneg_of_nonpos (Int.not_lt.1 ha) (Int.le_of_lt hb)
          omega
    obtain ⟨k1, k2⟩ := key
    clear hm hbig
    have H := Lib.hid hP
    clear hP
    by_cases ha : a < 0 <;> by_cases hb : b < 0
    · rw [k1 (by simp [ha, hb])]; clear k1 k2
      have da : decide (a < 0) = true := by simp; omega
      have db : decide (b < 0) = true := by simp; omega
      by_cases hq : P ≤ 9223372036854775807
      · rw [fitZ_yes (by omega) (by omega), fits_yes (by omega) (by omega)]
        go_enter Tryd.func48, Tryd.ntmps48
        go_wp2_with (first | (go_at_call 50; refine (size _ (by omega) (by omega) _).mono ?_; rintro e w' ⟨rfl, rfl⟩) | (go_at_call 49; refine (mul64_small _ _ P hA hB H.out (by omega) _).mono ?_; rintro e w' ⟨rfl, rfl⟩))
        go_ret2
        exact ⟨rfl, rfl⟩
      · rw [fitZ_no (by omega), fits_no (by omega)]
        go_enter Tryd.func48, Tryd.ntmps48
        go_wp2_with (first | (go_at_call 50; refine (size _ (by omega) (by omega) _).mono ?_; rintro e w' ⟨rfl, rfl⟩) | (go_at_call 49; refine (mul64_small _ _ P hA hB H.out (by omega) _).mono ?_; rintro e w' ⟨rfl, rfl⟩))
        go_ret2
        exact ⟨rfl, rfl⟩
    · rw [k2 (by simp [ha, hb])]; clear k1 k2
      have da : decide (a < 0) = true := by simp; omega
      have db : decide (b < 0) = false := by simp; omega
      by_cases hq : P ≤ 9223372036854775808
      · rw [fitZ_yes (by omega) (by omega), fits_yes (by omega) (by omega)]
        go_enter Tryd.func48, Tryd.ntmps48
        go_wp2_with (first | (go_at_call 50; refine (size _ (by omega) (by omega) _).mono ?_; rintro e w' ⟨rfl, rfl⟩) | (go_at_call 49; refine (mul64_small _ _ P hA hB H.out (by omega) _).mono ?_; rintro e w' ⟨rfl, rfl⟩))
        go_ret2
        exact ⟨neg_back P (by omega), rfl⟩
      · rw [fitZ_no (by omega), fits_no (by omega)]
        go_enter Tryd.func48, Tryd.ntmps48
        go_wp2_with (first | (go_at_call 50; refine (size _ (by omega) (by omega) _).mono ?_; rintro e w' ⟨rfl, rfl⟩) | (go_at_call 49; refine (mul64_small _ _ P hA hB H.out (by omega) _).mono ?_; rintro e w' ⟨rfl, rfl⟩))
        go_ret2
        exact ⟨rfl, rfl⟩
    · rw [k2 (by simp [ha, hb])]; clear k1 k2
      have da : decide (a < 0) = false := by simp; omega
      have db : decide (b < 0) = true := by simp; omega
      by_cases hq : P ≤ 9223372036854775808
      · rw [fitZ_yes (by omega) (by omega), fits_yes (by omega) (by omega)]
        go_enter Tryd.func48, Tryd.ntmps48
        go_wp2_with (first | (go_at_call 50; refine (size _ (by omega) (by omega) _).mono ?_; rintro e w' ⟨rfl, rfl⟩) | (go_at_call 49; refine (mul64_small _ _ P hA hB H.out (by omega) _).mono ?_; rintro e w' ⟨rfl, rfl⟩))
        go_ret2
        exact ⟨neg_back P (by omega), rfl⟩
      · rw [fitZ_no (by omega), fits_no (by omega)]
        go_enter Tryd.func48, Tryd.ntmps48
        go_wp2_with (first | (go_at_call 50; refine (size _ (by omega) (by omega) _).mono ?_; rintro e w' ⟨rfl, rfl⟩) | (go_at_call 49; refine (mul64_small _ _ P hA hB H.out (by omega) _).mono ?_; rintro e w' ⟨rfl, rfl⟩))
        go_ret2
        exact ⟨rfl, rfl⟩
    · rw [k1 (by simp [ha, hb])]; clear k1 k2
      have da : decide (a < 0) = false := by simp; omega
      have db : decide (b < 0) = false := by simp; omega
      by_cases hq : P ≤ 9223372036854775807
      · rw [fitZ_yes (by omega) (by omega), fits_yes (by omega) (by omega)]
        go_enter Tryd.func48, Tryd.ntmps48
        go_wp2_with (first | (go_at_call 50; refine (size _ (by omega) (by omega) _).mono ?_; rintro e w' ⟨rfl, rfl⟩) | (go_at_call 49; refine (mul64_small _ _ P hA hB H.out (by omega) _).mono ?_; rintro e w' ⟨rfl, rfl⟩))
        go_ret2
        exact ⟨rfl, rfl⟩
      · rw [fitZ_no (by omega), fits_no (by omega)]
        go_enter Tryd.func48, Tryd.ntmps48
        go_wp2_with (first | (go_at_call 50; refine (size _ (by omega) (by omega) _).mono ?_; rintro e w' ⟨rfl, rfl⟩) | (go_at_call 49; refine (mul64_small _ _ P hA hB H.out (by omega) _).mono ?_; rintro e w' ⟨rfl, rfl⟩))
        go_ret2
        exact ⟨rfl, rfl⟩
end Go.Proofs.YtamcdpkakdiggaaDoor.CSat
end
section
namespace Go.Proofs.YtamcdpkakdiggaaDoor.Kit
open Go Go.ChangeShapes Go.WideShapes Go.ChangeAt Go.RowKit Go.Deep
/-! ### memory: a slice's address reads as a list of cells -/
/-- The cells from address A on are xs (A may be none where xs is empty); all lie below block B. -/
def Rd (w : World) (B : Nat) (A : Option Addr) (xs : List Value) : Prop :=
  ∀ (j : Nat) (u : Value), xs[j]? = some u → ∃ ad : Addr, A = some ad ∧ ad.block < B ∧ w.cell? (ad.add j) = some u
theorem add_block (a : Addr) (n : Nat) : (a.add n).block = a.block := by unfold Addr.add; split <;> rfl
theorem add_twice (a : Addr) (i j : Nat) : (a.add i).add j = a.add (i + j) := by
  unfold Addr.add
  by_cases hi : i = 0
  · subst hi; simp
  · by_cases hj : j = 0
    · subst hj; simp
    · simp [hi, hj, Nat.add_assoc]
section
variable {w w' : World} {B B' : Nat} {A : Option Addr} {xs : List Value}
theorem Rd.nil : Rd w B A [] := fun j u h => by simp at h
theorem Rd.at_ (h : Rd w B A xs) {j : Nat} (hj : j < xs.length) : ∃ ad : Addr, A = some ad ∧ ad.block < B ∧ w.cell? (ad.add j) = some xs[j] :=
  h j _ (List.getElem?_eq_getElem hj)
theorem Rd.keep (h : Rd w B A xs) (hk : ∀ p : Addr, p.block < B → w'.cell? p = w.cell? p) : Rd w' B A xs := fun j u hu => by
  obtain ⟨ad, rfl, hb, hc⟩ := h j u hu
  exact ⟨ad, rfl, hb, (hk _ (by rw [add_block]; exact hb)).trans hc⟩
theorem Rd.more (h : Rd w B A xs) (hB : B ≤ B') : Rd w B' A xs := fun j u hu => by
  obtain ⟨ad, rfl, hb, hc⟩ := h j u hu
  exact ⟨ad, rfl, Nat.lt_of_lt_of_le hb hB, hc⟩
theorem Rd.below (h : Rd w B A xs) (hb : Below B w w') : Rd w' B A xs := h.keep fun _ hp => hb.cell hp
theorem Rd.drew (h : Rd w B A xs) : Rd w.drew B A xs := h
theorem Rd.drewN (h : Rd w B A xs) (n : Nat) : Rd (w.drewN n) B A xs := h
theorem Rd.alloc (h : Rd w B A xs) (hB : B ≤ w.heap.size) (o : Obj) : Rd (w.alloc o) B A xs :=
  h.keep fun p hp => World.cell?_alloc_lt w o p (Nat.lt_of_lt_of_le hp hB)
theorem Rd.setCell (h : Rd w B A xs) {p : Addr} (hB : B ≤ p.block) (u : Value) : Rd (w.setCell p u) B A xs :=
  h.keep fun q hq => World.cell?_setCell_other w p q u (fun e => by subst e; omega)
theorem Rd.take (h : Rd w B A xs) (k : Nat) : Rd w B A (xs.take k) := fun j u hu => by
  rw [List.getElem?_take] at hu
  split at hu
  · exact h j u hu
  · cases hu
theorem Rd.drop (h : Rd w B A xs) (k : Nat) : Rd w B (A.map (·.add k)) (xs.drop k) := fun j u hu => by
  rw [List.getElem?_drop] at hu
  obtain ⟨ad, rfl, hb, hc⟩ := h _ u hu
  exact ⟨ad.add k, rfl, by rw [add_block]; exact hb, by rw [add_twice]; exact hc⟩
end
/-- a block that has just been made reads as its cells. -/
theorem Rd.new (w : World) (cs : List Value) (T : TypeId) {B : Nat} (hB : w.heap.size < B) : Rd (w.alloc (.cells cs.toArray T)) B (some ⟨w.heap.size, 0, none⟩) cs := fun j u hu => by
  refine ⟨_, rfl, hB, ?_⟩
  have e : (⟨w.heap.size, 0, none⟩ : Addr).add j = ⟨w.heap.size, j, none⟩ := by
    unfold Addr.add; split
    · rename_i h; subst h; rfl
    · simp
  rw [e]
  have hb : (w.alloc (.cells cs.toArray T)).heap[w.heap.size]? = some (.cells cs.toArray T (0, 0)) := heap_alloc_new w _
  rw [cell_of_row _ _ _ _ _ _ hb]
  simpa using hu
/-! ### slices of integers -/
theorem block_lt {w : World} {a : Addr} {v : Value} (h : w.cell? a = some v) : a.block < w.heap.size := World.block_lt_of_cell? w a h
section
variable {H : Type} {enc : TypeId × Value → H} {P : Program} {w : World} {base b0 : Nat} {spare : Nat → Bool} {held : Bool} {r : Reach}
/-- one number of a slice, under a name of its own. -/
theorem Rd.int {B : Nat} {A : Option Addr} {k : IntKind} {zs : List Int} (h : Rd w B A (zs.map (.int k))) {j : Nat} (hj : j < zs.length) :
    ∃ ad : Addr, A = some ad ∧ ad.block < B ∧ w.cell? (ad.add j) = some (.int k zs[j]) := by
  obtain ⟨ad, e, hb, hc⟩ := h.at_ (j := j) (by simpa using hj)
  exact ⟨ad, e, hb, by simpa using hc⟩
end
/-- the same at a plain address. -/
theorem Rd.plain {w : World} {B : Nat} {A : Option Addr} {xs : List Value} (h : Rd w B A xs) (hn : 0 < xs.length) :
    ∃ b off, A = some ⟨b, off, none⟩ ∧ b < B ∧ ∀ (j : Nat) (u : Value), xs[j]? = some u → w.cell? ⟨b, off + j, none⟩ = some u := by
  obtain ⟨⟨b, off, spot⟩, rfl, hb, hc⟩ := h.at_ hn
  have hspot : spot = none := by simpa [Addr.add] using World.cell?_spot hc
  subst hspot
  refine ⟨b, off, rfl, hb, fun j u hu => ?_⟩
  obtain ⟨ad, e, _, hj⟩ := h j u hu
  cases e
  rw [Go.WideShapes.add_plain] at hj
  exact hj
theorem Rd.ints {w : World} {B : Nat} {A : Option Addr} {k : IntKind} {zs : List Int} (h : Rd w B A (zs.map (.int k))) {j : Nat} (hj : j < zs.length) :
    ∃ b off, A = some ⟨b, off, none⟩ ∧ b < B ∧ w.cell? ⟨b, off + j, none⟩ = some (.int k zs[j]) := by
  obtain ⟨b, off, e, hb, hc⟩ := h.plain (by simp; omega)
  exact ⟨b, off, e, hb, hc j _ (by simp [hj])⟩
theorem new_cell (w : World) (cs : Array Value) (T : TypeId) (j : Nat) : (w.alloc (.cells cs T)).cell? ⟨w.heap.size, j, none⟩ = cs[j]? :=
  cell_of_row _ _ _ _ _ _ (heap_alloc_new w _)
/-! ### what a call that only makes memory leaves as it was -/
theorem bcell {W w1 : World} {B : Nat} (hb : Below B W w1) :
    (∀ b o, b < B → w1.cell? ⟨b, o, none⟩ = W.cell? ⟨b, o, none⟩) ∧ (∀ b o, b < B → w1.frozen? ⟨b, o, none⟩ = W.frozen? ⟨b, o, none⟩) :=
  ⟨fun b o h => hb.cell (p := ⟨b, o, none⟩) h, fun b o h => hb.frozen (p := ⟨b, o, none⟩) h⟩
theorem below_drewN {B : Nat} {a w : World} (h : Below B a w) (n : Nat) : Below B a (w.drewN n) := ⟨h.os, h.tape, h.output, h.size, h.block⟩
/-! ### a scope that is left, at most once, by a jump ahead to a label -/
section
variable {P : Program} {a : Act} {w : World} {Q : Exit → Act → World → Prop}
end
/-! ### a struct of one-cell fields, by value -/
section
variable {H : Type} {enc : TypeId × Value → H} {P : Program} {w : World} {base b0 : Nat} {spare : Nat → Bool} {held : Bool} {r : Reach}
theorem open_flat {t : TypeId} {fs : Array Field} {v : Value} {d : DataW H} {ps : List MemPlace} (hs : P.underlying t = some (.struct fs)) (hone : oneCellFields P fs = true) (hC : P.cellsOf t = fs.size)
    (hv : Value.okWide P w r b0 t v) (h : DataW.Trod enc P w base spare held t v d ps) :
    ∃ cs : Array Value, v = .agg cs ∧ cs.size = fs.size ∧ ∀ (j : Nat) (f : Field), fs[j]? = some f → ∃ (u : Value) (n : Nat) (x : DataW H × List MemPlace), cs[j]? = some u ∧ DataW.trod enc P w base spare held n f.type [u] = some x := by
  obtain ⟨cs, rfl, hsz⟩ := okWide_struct hs hv
  obtain ⟨fuel, hf⟩ := h
  obtain ⟨xs, n, _, _, _, hlen, hg⟩ := DataW.trod_struct hs hf
  refine ⟨cs, rfl, hsz.trans hC, fun j f hj => ?_⟩
  obtain ⟨o, k⟩ := hone_of hone j f hj
  have hjl : j < fs.size := (Array.getElem?_eq_some_iff.1 hj).1
  have hjc : j < cs.size := by rw [hsz, hC]; exact hjl
  have h1 := hg j f hj
  rw [o, k] at h1
  have e : ((Value.agg cs).cells.toList.drop j).take 1 = [cs[j]] := by
    show (cs.toList.drop j).take 1 = _
    rw [List.drop_eq_getElem_cons (by simpa using hjc)]
    simp
  rw [e] at h1
  have hx : j < xs.length := by omega
  rw [List.getElem?_eq_getElem hx] at h1
  exact ⟨cs[j], n, _, Array.getElem?_eq_getElem hjc, h1⟩
theorem flat_int {t : TypeId} {k : IntKind} {cs : Array Value} {j : Nat} {v : Value} (ht : P.underlying t = some (.int k)) (hv : cs[j]? = some v)
    (h : ∃ (u : Value) (n : Nat) (x : DataW H × List MemPlace), cs[j]? = some u ∧ DataW.trod enc P w base spare held n t [u] = some x) : ∃ z : Int, v = .int k z ∧ (Lit.int k z).wf = true := by
  obtain ⟨u, n, x, hu, hx⟩ := h
  rw [hv] at hu
  cases hu
  obtain ⟨n', he, _, hw⟩ := DataW.trod_int ht hx
  simp at he
  exact ⟨n', he, hw⟩
theorem size_3 {cs : Array Value} (h : cs.size = 3) : ∃ a b c, cs = #[a, b, c] := by
  obtain ⟨l⟩ := cs
  match l, h with
  | [a, b, c], _ => exact ⟨a, b, c, rfl⟩
end
/-! ### an array of one-cell elements, by value -/
section
variable {H : Type} {enc : TypeId × Value → H} {P : Program} {w : World} {base b0 : Nat} {spare : Nat → Bool} {held : Bool} {r : Reach}
end
/-! ### results that lie in cells: structs and arrays, handed back by value -/
section
variable {P : Program}
theorem results_ct {fn : Func} {p u : Tmp} {ty : TypeId} (h : fn.results = #[.cell p ty, .tmp u]) (tmps : Array Value) (w : World) (b o : Nat) (cs : List Value) (d : TypeDesc)
    (hp : tmps.getD p undef = .pointer (some ⟨b, o, none⟩)) (hc : w.rangeAt b o cs) (hu : P.underlying ty = some d) (hd : d.isRow = true) (hi : (P.info? ty).map (·.size) = some cs.length) :
    (results fn tmps).run P w = .ok (.tuple #[.agg cs.toArray, tmps.getD u undef]) w := by
  rw [results_cell_tmp h, hp]
  simp [asAddr, run_loadVar_mid w b o ty cs d hc hu hd hi]
theorem results_c {fn : Func} {p : Tmp} {ty : TypeId} (h : fn.results = #[.cell p ty]) (tmps : Array Value) (w : World) (b o : Nat) (cs : List Value) (d : TypeDesc)
    (hp : tmps.getD p undef = .pointer (some ⟨b, o, none⟩)) (hc : w.rangeAt b o cs) (hu : P.underlying ty = some d) (hd : d.isRow = true) (hi : (P.info? ty).map (·.size) = some cs.length) :
    (results fn tmps).run P w = .ok (.agg cs.toArray) w := by
  have hp' : tmps[p]?.getD undef = .pointer (some ⟨b, o, none⟩) := by simpa using hp
  simp [results, h, hp', asAddr, run_loadVar_mid w b o ty cs d hc hu hd hi]
theorem range_3 {w : World} {b : Nat} {x y z : Value} (h0 : w.cell? ⟨b, 0, none⟩ = some x) (h1 : w.cell? ⟨b, 1, none⟩ = some y) (h2 : w.cell? ⟨b, 2, none⟩ = some z) : w.rangeAt b 0 [x, y, z] := by
  intro j v hj
  match j, hj with
  | 0, hj => simpa [← hj] using h0
  | 1, hj => simpa [← hj] using h1
  | 2, hj => simpa [← hj] using h2
end
/-! ### a struct that lies in a box of its own, behind calls that only make memory -/
/-! ### append of whatever reads, onto a row of the call's own -/
section
variable {P : Program}
theorem append_none (w : World) (base : Nat) (t ty e : TypeId) (i : TypeInfo) (size : Nat) (ht : P.underlying t = some (.slice e)) (hi : P.info? e = some i)
    (v : Value) (n : Nat) (xs : List Value) (hown : w.ownsRow base e size v n xs) (c : Nat) :
    ∃ v' w', (Builtin.append_ #[t, t] ty #[v, .slice none 0 c]).run P w = .ok v' w' ∧ w'.ownsRow base e size v' (n + 0) (xs ++ []) ∧ w.grownBy w' v.ownBlock ∧ (v'.ownBlock = v.ownBlock ∨ v'.ownBlock = some w.heap.size) := by
  have hrun : (Builtin.append_ #[t, t] ty #[v, .slice none 0 c]).run P w = .ok v w := by
    rcases hown.2 with ⟨rfl, rfl⟩ | ⟨g, cap, cur, rfl, _, _, hnc, _⟩
    · simp [Builtin.append_, run_underlying ht, sizeOf, typeInfo, hi, Builtin.lenOf, Builtin.firstCells]
    · simp [Builtin.append_, run_underlying ht, sizeOf, typeInfo, hi, Builtin.lenOf, Builtin.firstCells, hnc, storeCells]
  exact ⟨v, w, hrun, by simpa using hown, World.grownBy.refl w _, .inl rfl⟩
theorem append_rd_run (w : World) (base : Nat) (t ty e : TypeId) (i : TypeInfo) (z : Value) (size bytes : Nat) (ht : P.underlying t = some (.slice e)) (hi : P.info? e = some i) (hz : i.zero = some z)
    (hsize : i.size = size) (hby : i.bytes = bytes) (hzs : z.cells.size = size) (hsz : 0 < size)
    (v : Value) (n : Nat) (xs : List Value) (hown : w.ownsRow base e size v n xs) {B : Nat} {A : Option Addr} (m c : Nat) {news : List Value} (hl : news.length = m * size) (hr : Rd w B A news)
    (h1 : ∀ u ∈ news, u.oneCell' = true) (h63 : n + m ≤ maxLen) (hbytes : (n + m) * bytes ≤ 140737488355328) (hbase : base ≤ w.heap.size) :
    ∃ v' w', (Builtin.append_ #[t, t] ty #[v, .slice A m c]).run P w = .ok v' w' ∧ w'.ownsRow base e size v' (n + m) (xs ++ news) ∧ w.grownBy w' v.ownBlock ∧
      (v'.ownBlock = v.ownBlock ∨ v'.ownBlock = some w.heap.size) := by
  match A, hr with
  | some ad, hr =>
    have hcell : ∀ j u, news[j]? = some u → w.cell? (ad.add j) = some u := fun j u hu => by
      obtain ⟨ad', h, _, hc⟩ := hr j u hu
      cases h
      exact hc
    obtain ⟨v', w', a1, a2, a3, _, a4⟩ := run_append_own_at (P := P) w base t ty e i z size bytes ht hi hz hsize hby hzs hsz v n xs hown ad m c news hl hcell h1 h63 hbytes hbase
    exact ⟨v', w', a1, a2, a3, a4⟩
  | none, hr =>
    have hn : news = [] := by
      cases news with
      | nil => rfl
      | cons u us => obtain ⟨ad, h, _⟩ := hr 0 u rfl; cases h
    subst hn
    have hm : m = 0 := by
      rcases Nat.eq_zero_or_pos m with h | h
      · exact h
      · have := Nat.mul_pos h hsz; simp at hl; omega
    subst hm
    obtain ⟨v', w', b1, b2, b3⟩ := append_none w base t ty e i size ht hi v n xs hown c
    exact ⟨v', w', b1, b2, b3⟩
theorem wpList_append_rd (w : World) {ops : Array Oper} {rest : List Oper} {o : Oper} {a : Act} {Q : Exit → Act → World → Prop}
    (hg : o.guard = none) (s x : Operand) (t : TypeId) (hop : o.op = Op.call { callee := Callee.builtin Builtin.append, args := #[s, x], argTypes := #[t, t] })
    (base : Nat) (e : TypeId) (i : TypeInfo) (z : Value) (size bytes : Nat) (ht : P.underlying t = some (.slice e)) (hi : P.info? e = some i) (hz : i.zero = some z)
    (hsize : i.size = size) (hby : i.bytes = bytes) (hzs : z.cells.size = size) (hsz : 0 < size)
    (v : Value) (n : Nat) (xs : List Value) (hs : a.eval s = v) (hown : w.ownsRow base e size v n xs) (B : Nat) (A : Option Addr) (m c : Nat) (news : List Value) (hx : a.eval x = .slice A m c)
    (hl : news.length = m * size) (hr : Rd w B A news) (h1 : ∀ u ∈ news, u.oneCell' = true) (h63 : n + m ≤ maxLen) (hbytes : (n + m) * bytes ≤ 140737488355328) (hbase : base ≤ w.heap.size)
    (hK : ∀ v' w', w'.ownsRow base e size v' (n + m) (xs ++ news) → w.grownBy w' v.ownBlock → (v'.ownBlock = v.ownBlock ∨ v'.ownBlock = some w.heap.size) → wpList P ops Q rest (a.put o.dst v') w') :
    wpList P ops Q (o :: rest) a w := by
  refine wpList_plain hg fun K hK' => ?_
  obtain ⟨v', w', hrun, r1, r2, r3⟩ := append_rd_run (P := P) w base t o.type e i z size bytes ht hi hz hsize hby hzs hsz v n xs hown m c hl hr h1 h63 hbytes hbase
  unfold Oper.wp
  simp [execOp, hop, resolve, invoke, builtin, hs, hx, hrun, Result.andThen]
  exact hK' _ _ (hK v' w' r1 r2 r3)
end
/-- what is owned, and not empty, reads. -/
theorem own_form {w : World} {base : Nat} {e : TypeId} {size n : Nat} {v : Value} {xs : List Value} (h : w.ownsRow base e size v n xs) (hn : 0 < n) :
    ∃ g cap, v = .slice (some ⟨g, 0, none⟩) n cap ∧ base ≤ g ∧ n ≤ cap ∧ cap ≤ maxLen ∧ Rd w w.heap.size (some ⟨g, 0, none⟩) xs := by
  rcases h.2 with ⟨_, h0⟩ | ⟨g, cap, cur, rfl, hb, hh, hnc, hcm, hs, ht⟩
  · omega
  · refine ⟨g, cap, rfl, hb, hnc, hcm, fun j u hu => ?_⟩
    have e1 : (⟨g, 0, none⟩ : Addr).add j = ⟨g, j, none⟩ := by
      unfold Addr.add; split
      · rename_i h; subst h; rfl
      · simp
    have hlt : g < w.heap.size := by
      rcases Nat.lt_or_ge g w.heap.size with h | h
      · exact h
      · rw [Array.getElem?_eq_none h] at hh; cases hh
    refine ⟨_, rfl, hlt, ?_⟩
    rw [e1, cell_of_row _ _ _ _ _ _ hh]
    rw [← ht, List.getElem?_take] at hu
    split at hu
    · rw [← hu]; simp
    · cases hu
theorem ints_one (k : IntKind) (zs : List Int) : ∀ u ∈ zs.map (Value.int k), u.oneCell' = true := by
  intro u hu
  obtain ⟨z, _, rfl⟩ := List.mem_map.1 hu
  rfl
theorem grown_of_below {w w' : World} (h : Below w.heap.size w w') (row : Option Nat) : w.grownBy w' row := ⟨h.os, h.tape, h.output, h.size, fun k hk _ => h.block k hk⟩
theorem own_below {w w' : World} {base : Nat} {e : TypeId} {size n : Nat} {v : Value} {xs : List Value} (h : w.ownsRow base e size v n xs) (hb : Below w.heap.size w w') : w'.ownsRow base e size v n xs :=
  h.kept (grown_of_below hb none) (by cases hv : v.ownBlock <;> simp)
/-- what is owned reads, empty or not. -/
theorem own_rd {w : World} {base : Nat} {e : TypeId} {size n : Nat} {v : Value} {xs : List Value} (h : w.ownsRow base e size v n xs) :
    ∃ A c, v = .slice A n c ∧ n ≤ c ∧ c ≤ maxLen ∧ Rd w w.heap.size A xs := by
  rcases Nat.eq_zero_or_pos n with h0 | h0
  · subst h0
    have hx : xs = [] := List.eq_nil_of_length_eq_zero (by simpa using h.1)
    subst hx
    rcases h.2 with ⟨rfl, _⟩ | ⟨g, cap, cur, rfl, _, _, h1, h2, _⟩
    · exact ⟨none, 0, rfl, Nat.le_refl _, Nat.zero_le _, Rd.nil⟩
    · exact ⟨_, _, rfl, h1, h2, Rd.nil⟩
  · obtain ⟨g, cap, rfl, _, h1, h2, hr⟩ := own_form h h0
    exact ⟨_, _, rfl, h1, h2, hr⟩
theorem own_base {w : World} {base base' : Nat} {e : TypeId} {size n : Nat} {v : Value} {xs : List Value} (h : w.ownsRow base e size v n xs) (hb : base' ≤ base) : w.ownsRow base' e size v n xs := by
  refine ⟨h.1, ?_⟩
  rcases h.2 with h0 | ⟨g, cap, cur, h1, h2, rest⟩
  · exact .inl h0
  · exact .inr ⟨g, cap, cur, h1, by omega, rest⟩
theorem own_block_ge {w : World} {base : Nat} {e : TypeId} {size n : Nat} {v : Value} {xs : List Value} (h : w.ownsRow base e size v n xs) : ∀ k, v.ownBlock = some k → base ≤ k := by
  intro k hk
  rcases h.2 with ⟨rfl, _⟩ | ⟨g, cap, cur, rfl, h2, _⟩
  · cases hk
  · cases hk; exact h2
/-! ### the frame of every law: it answers true, and what it was given reads as it did -/
section
variable {H : Type} {enc : TypeId × Value → H} {P : Program}
theorem trodAll_stays {base : Nat} (hl : laidOutB P = true) {W W' : World} {sp' : Nat → Bool} : ∀ {ts : List TypeId} {vs : List Value} {ds : List (DataW H)} {ps : List MemPlace},
    ts.all (fun t => P.readableRec t && decide (t < P.types.size)) = true →
    DataW.TrodAll enc P W base (fun _ => true) true ts vs ds ps → (∀ p ∈ ps, W.sameAt W' p) → (∀ p ∈ ps, sp' p.block = true) → DataW.TrodAll enc P W' base sp' true ts vs ds ps
  | [], vs, ds, ps, _, h, _, _ => by
    cases vs <;> cases ds <;> simp_all [DataW.TrodAll]
  | t :: ts, vs, ds, ps, ht, h, h1, h2 => by
    cases vs with
    | nil => simp [DataW.TrodAll] at h
    | cons v vs =>
      cases ds with
      | nil => simp [DataW.TrodAll] at h
      | cons d ds =>
        obtain ⟨p, q, hp, hq, rfl⟩ := h
        simp only [List.all_cons, Bool.and_eq_true, decide_eq_true_eq] at ht
        exact ⟨p, q, WideElems.Trod_stays hl ht.1.1 ht.1.2 hp (fun x hx => h1 x (List.mem_append_left _ hx)) (fun x hx => h2 x (List.mem_append_left _ hx)),
          trodAll_stays hl ht.2 hq (fun x hx => h1 x (List.mem_append_right _ hx)) (fun x hx => h2 x (List.mem_append_right _ hx)), rfl⟩
theorem trodAll_len {W : World} {base : Nat} {sp : Nat → Bool} {held : Bool} : ∀ {ts : List TypeId} {vs : List Value} {ds : List (DataW H)} {ps : List MemPlace},
    DataW.TrodAll enc P W base sp held ts vs ds ps → ds.length = ts.length
  | [], vs, ds, ps, h => by cases vs <;> cases ds <;> simp_all [DataW.TrodAll]
  | t :: ts, vs, ds, ps, h => by
    cases vs with
    | nil => simp [DataW.TrodAll] at h
    | cons v vs =>
      cases ds with
      | nil => simp [DataW.TrodAll] at h
      | cons d ds =>
        obtain ⟨p, q, _, hq, _⟩ := h
        simpa using trodAll_len hq
/-- A call that answers true and has turned nothing that was there: the row's post. -/
theorem law_post {f : Func} {s : ChangeSpec} {W W' : World} {args : Array Value} {ds gs : List (DataW H)} {before : List MemPlace} {tb : TypeId}
    (hl : laidOutB P = true) (hr : f.params.toList.all (fun t => P.readableRec t && decide (t < P.types.size)) = true) (hvars : s.vars = [])
    (hres : f.resultTypes = #[tb]) (htb : P.underlying tb = some .bool)
    (hfn : ∀ ds : List (DataW H), ds.length = f.params.toList.length → s.fn H ds = { results := [.lit (.bool true)], args := ds })
    (hW : DataW.Whole enc P f.params.toList s.vars false W args.toList ds gs before) (hb : Below W.heap.size W W') :
    s.post enc P f false true false false W args (.bool true) W' := by
  have hW' := hW
  obtain ⟨p, q, hA, hV, rfl, hz, hn⟩ := hW
  rw [hvars] at hV
  obtain ⟨rfl, rfl⟩ := trodVars_none hV
  have hlt : ∀ x ∈ p ++ [], x.block < W.heap.size := fun x hx => hW'.lt x hx
  have hf := hfn ds (trodAll_len hA)
  have hargs : ∀ sp : Nat → Bool, (∀ x ∈ p ++ [], sp x.block = true) → DataW.TrodAll enc P W' 0 sp true f.params.toList args.toList ds p := fun sp hsp =>
    trodAll_stays hl hr hA (fun x hx => hb.same (hlt x (by simpa using hx))) (fun x hx => hsp x (by simpa using hx))
  have hold : ∀ x ∈ p ++ [], (fun b => decide (b < W.heap.size)) x.block = true := fun x hx => by simpa using hlt x hx
  have hresl : ∀ (b : Nat) (sp : Nat → Bool) (hd : Bool), DataW.TrodAll enc P W' b sp hd f.resultTypes.toList ((Value.bool true).resultList f.resultTypes.size) [.lit (.bool true)] [] := by
    intro b sp hd
    rw [hres]
    exact trodAll_cons_mk (shut_bool htb true) trodAll_mk0
  have hfe : s.fn H (ds ++ []) = { results := [.lit (.bool true)], args := ds } := by rw [List.append_nil]; exact hf
  refine ⟨ds, [], p ++ [], [], p, [], hW', ?_, ?_, ?_, World.keptBut_mono (fun x hx => ⟨hx, ?_⟩) (hb.frame (· ∈ p ++ [])), fun _ => ?_⟩
  · rw [hfe]; exact hresl _ _ _
  · rw [hfe]; exact hargs _ hold
  · rw [hfe, hvars]; rfl
  · simpa using hx
  · refine ⟨ok_one hres rfl (okWide_bool_mk htb _), .lit (.bool true) :: ds, [], ([] ++ p) ++ [], ⟨[] ++ p, [], ?_, ?_, rfl, ?_, fun h => by cases h⟩, ?_⟩
    · have := trodAll_append (hargs (fun _ => true) (fun _ _ => rfl)) (hresl 0 (fun _ => true) true)
      simpa using this
    · rw [hvars]; rfl
    · intro b off hp
      have hin : MemPlace.cell b off ∈ p ++ [] := by simpa using hp
      rw [hb.frozen (hlt _ hin)]
      exact hz b off hin
    · intro x hx _
      simpa using hx
end
end Go.Proofs.YtamcdpkakdiggaaDoor.Kit
end
section
namespace Go.Proofs.YtamcdpkakdiggaaDoor.Num
/-- x is m doubled j times: to 2 to the 30 at least, as long as s, counted on, is below 62. -/
def IsPlain (m s j x : Nat) : Prop := m * 2 ^ j = x ∧ j ≤ 62 - s ∧ (∀ i, i < j → m * 2 ^ i < 1073741824) ∧ (1073741824 ≤ x ∨ j = 62 - s)
theorem IsPlain.same {m s j x m' s' j' : Nat} (h : IsPlain m s j x) (h' : IsPlain m' s' j' x) (hs : s + j = s' + j') : m * 2 ^ s' = m' * 2 ^ s := by
  obtain ⟨rfl, _⟩ := h
  have e := h'.1
  have k : m * 2 ^ s' * 2 ^ (j + j') = m' * 2 ^ s * 2 ^ (j + j') := by
    have a1 : m * 2 ^ s' * 2 ^ (j + j') = (m * 2 ^ j) * 2 ^ (s' + j') := by rw [Nat.pow_add, Nat.pow_add]; ac_rfl
    have a2 : m' * 2 ^ s * 2 ^ (j + j') = (m' * 2 ^ j') * 2 ^ (s + j) := by rw [Nat.pow_add, Nat.pow_add]; ac_rfl
    rw [a1, a2, e, hs]
  exact Nat.eq_of_mul_eq_mul_right (Nat.two_pow_pos _) k
/-! ### which of two scales is less -/
end Go.Proofs.YtamcdpkakdiggaaDoor.Num
end
section
namespace Go.Proofs.YtamcdpkakdiggaaDoor.CShape
open Go Go.ChangeShapes Go.WideShapes Go.ChangeAt Go.RowKit
open Plain CSat
set_option linter.unusedVariables false
theorem within_yes (n lo hi : Int) (h1 : lo ≤ n) (h2 : n ≤ hi) (w : World) :
    Calls Tryd.prog 45 #[.int .i64 n, .int .i64 lo, .int .i64 hi] w fun e w' => e = .returned (.bool true) ∧ w = w' := by
  go_enter Tryd.func45, Tryd.ntmps45
  go_wp2
  go_ret
  exact ⟨rfl, rfl⟩
theorem within_no (n lo hi : Int) (h : n < lo ∨ hi < n) (w : World) :
    Calls Tryd.prog 45 #[.int .i64 n, .int .i64 lo, .int .i64 hi] w fun e w' => e = .returned (.bool false) ∧ w = w' := by
  by_cases h1 : n < lo
  · have hd : decide (n ≥ lo) = false := by simp; omega
    go_enter Tryd.func45, Tryd.ntmps45
    go_wp2
    go_ret
    exact ⟨rfl, rfl⟩
  · have h2 : hi < n := by omega
    have hd : decide (n ≤ hi) = false := by simp; omega
    go_enter Tryd.func45, Tryd.ntmps45
    go_wp2
    go_ret
    exact ⟨rfl, rfl⟩
theorem times_in (a b c : Int) (ha1 : -9223372036854775808 ≤ a) (ha2 : a ≤ 9223372036854775807) (hb1 : -9223372036854775808 ≤ b) (hb2 : b ≤ 9223372036854775807) (hc : a * b = c) (hc1 : -9223372036854775808 ≤ c) (hc2 : c ≤ 9223372036854775807) (w : World) :
    Calls Tryd.prog 48 #[.int .i64 a, .int .i64 b] w fun e w' => e = .returned (.tuple #[.int .i64 c, .bool true]) ∧ w = w' := by
  subst hc
  have h := times a b ha1 ha2 hb1 hb2 w
  rw [fitZ_yes hc1 hc2, fits_yes hc1 hc2] at h
  exact h
theorem product (a b c p q : Int) (ha1 : 1 ≤ a) (ha2 : a ≤ 16) (hb1 : 1 ≤ b) (hb2 : b ≤ 16) (hc1 : 1 ≤ c) (hc2 : c ≤ 1024) (hp : a * b = p) (hq : p * c = q) (w : World) :
    Calls Tryd.prog 46 #[.agg #[.int .i64 a, .int .i64 b, .int .i64 c]] w fun e w' => e = .returned (.tuple #[.int .i64 q, .bool true]) ∧ Below w.heap.size w w' := by
  have hp1 : 1 ≤ p := hp ▸ Int.mul_le_mul ha1 hb1 (by omega) (by omega)
  have hp2 : p ≤ 256 := hp ▸ Int.mul_le_mul ha2 hb2 (by omega) (by omega)
  have hq1 : 1 ≤ q := hq ▸ Int.mul_le_mul hp1 hc1 (by omega) (by omega)
  have hq2 : q ≤ 262144 := hq ▸ Int.mul_le_mul hp2 hc2 (by omega) (by omega)
  have HP := Lib.hid hp
  have HQ := Lib.hid hq
  clear hp hq
  go_enter Tryd.func46, Tryd.ntmps46
  go_wp2
  go_loop [4, 5, 6, 7] (fun n ok i t => (n = .int .i64 1 ∧ t = .int .i64 0) ∨ (n = .int .i64 a ∧ t = .int .i64 1) ∨ (n = .int .i64 p ∧ t = .int .i64 2) ∨ (n = .int .i64 q ∧ t = .int .i64 3)) (fun _ _ _ t => 3 - (intOf t).toNat)
  case atStart => exact .inl ⟨rfl, rfl⟩
  case round =>
    rcases hrel with ⟨rfl, rfl⟩ | ⟨rfl, rfl⟩ | ⟨rfl, rfl⟩ | ⟨rfl, rfl⟩
    · go_wp2_with (go_at_call 48; refine (times_in _ _ a (by omega) (by omega) (by omega) (by omega) (by omega) (by omega) (by omega) _).mono ?_; rintro e w' ⟨rfl, rfl⟩)
      go_round
      case rel => exact .inr (.inl ⟨rfl, rfl⟩)
      case measure => simp [intOf]
    · go_wp2_with (go_at_call 48; refine (times_in _ _ p (by omega) (by omega) (by omega) (by omega) HP.out (by omega) (by omega) _).mono ?_; rintro e w' ⟨rfl, rfl⟩)
      go_round
      case rel => exact .inr (.inr (.inl ⟨rfl, rfl⟩))
      case measure => simp [intOf]
    · go_wp2_with (go_at_call 48; refine (times_in _ _ q (by omega) (by omega) (by omega) (by omega) HQ.out (by omega) (by omega) _).mono ?_; rintro e w' ⟨rfl, rfl⟩)
      go_round
      case rel => exact .inr (.inr (.inr ⟨rfl, rfl⟩))
      case measure => simp [intOf]
    · go_wp2
      go_ret2
      exact ⟨rfl, (Below.refl _ _).alloc (Nat.le_refl _) _⟩
/-- may a shape be? -/
def shapeB (h w c : Int) : Bool := decide (1 ≤ h ∧ h ≤ 16 ∧ 1 ≤ w ∧ w ≤ 16 ∧ 1 ≤ c ∧ c ≤ 1024 ∧ h * w * c ≤ 1024)
def elemsZ (h w c : Int) : Int := if shapeB h w c then h * w * c else 0
theorem prod_bd {h w c : Int} (h1 : 1 ≤ h) (h2 : h ≤ 16) (h3 : 1 ≤ w) (h4 : w ≤ 16) (h5 : 1 ≤ c) (h6 : c ≤ 1024) : 1 ≤ h * w * c ∧ h * w * c ≤ 262144 := by
  have a1 : 1 ≤ h * w := Int.mul_le_mul h1 h3 (by omega) (by omega)
  have a2 : h * w ≤ 256 := Int.mul_le_mul h2 h4 (by omega) (by omega)
  exact ⟨Int.mul_le_mul a1 h5 (by omega) (by omega), Int.mul_le_mul a2 h6 (by omega) (by omega)⟩
theorem shapeB_yes {h w c : Int} (hs : shapeB h w c = true) : 1 ≤ h ∧ h ≤ 16 ∧ 1 ≤ w ∧ w ≤ 16 ∧ 1 ≤ c ∧ c ≤ 1024 ∧ h * w * c ≤ 1024 := by simpa [shapeB] using hs
theorem elemsZ_yes {h w c : Int} (hs : shapeB h w c = true) : elemsZ h w c = h * w * c := by unfold elemsZ; rw [if_pos hs]
theorem elemsZ_no {h w c : Int} (hs : shapeB h w c = false) : elemsZ h w c = 0 := by unfold elemsZ; rw [if_neg (by simp [hs])]
theorem elemsZ_bd (h w c : Int) : 0 ≤ elemsZ h w c ∧ elemsZ h w c ≤ 1024 := by
  unfold elemsZ
  split
  · rename_i hs
    obtain ⟨a1, a2, a3, a4, a5, a6, a7⟩ := shapeB_yes hs
    have := prod_bd a1 a2 a3 a4 a5 a6
    omega
  · omega
theorem elemsZ_pos (h w c : Int) : decide (elemsZ h w c > 0) = shapeB h w c := by
  cases hs : shapeB h w c
  · rw [elemsZ_no hs]; rfl
  · obtain ⟨a1, a2, a3, a4, a5, a6, a7⟩ := shapeB_yes hs
    rw [elemsZ_yes hs]
    have := prod_bd a1 a2 a3 a4 a5 a6
    simp; omega
theorem elems_yes (h w c n : Int) (h1 : 1 ≤ h) (h2 : h ≤ 16) (h3 : 1 ≤ w) (h4 : w ≤ 16) (h5 : 1 ≤ c) (h6 : c ≤ 1024) (hn : h * w * c = n) (hn1 : n ≤ 1024) (W : World) :
    Calls Tryd.prog 31 #[.agg #[.int .i64 h, .int .i64 w, .int .i64 c]] W fun e w' => e = .returned (.int .i64 n) ∧ Below W.heap.size W w' := by
  have hb := prod_bd h1 h2 h3 h4 h5 h6
  rw [hn] at hb
  obtain ⟨b1, b2⟩ := hb
  have HN := Lib.hid hn
  clear hn
  go_enter Tryd.func31, Tryd.ntmps31
  go_wp2_with (first
      | (go_at_call 45; refine (within_yes _ _ _ (by omega) (by omega) _).mono ?_; rintro e w' ⟨rfl, rfl⟩)
      | (go_at_call 46; refine (product h w c _ n h1 h2 h3 h4 h5 h6 rfl HN.out _).mono ?_; rintro e w1 ⟨rfl, hb⟩))
  go_ret
  exact ⟨rfl, ((Below.refl _ _).alloc (Nat.le_refl _) _).trans (hb.mono (by simp))⟩
theorem elems_many (h w c n : Int) (h1 : 1 ≤ h) (h2 : h ≤ 16) (h3 : 1 ≤ w) (h4 : w ≤ 16) (h5 : 1 ≤ c) (h6 : c ≤ 1024) (hn : h * w * c = n) (hn1 : 1024 < n) (W : World) :
    Calls Tryd.prog 31 #[.agg #[.int .i64 h, .int .i64 w, .int .i64 c]] W fun e w' => e = .returned (.int .i64 0) ∧ Below W.heap.size W w' := by
  have hb := prod_bd h1 h2 h3 h4 h5 h6
  rw [hn] at hb
  obtain ⟨b1, b2⟩ := hb
  have HN := Lib.hid hn
  clear hn
  go_enter Tryd.func31, Tryd.ntmps31
  go_wp2_with (first
      | (go_at_call 45; refine (within_yes _ _ _ (by omega) (by omega) _).mono ?_; rintro e w' ⟨rfl, rfl⟩)
      | (go_at_call 46; refine (product h w c _ n h1 h2 h3 h4 h5 h6 rfl HN.out _).mono ?_; rintro e w1 ⟨rfl, hb⟩))
  go_ret
  exact ⟨rfl, ((Below.refl _ _).alloc (Nat.le_refl _) _).trans (hb.mono (by simp))⟩
theorem elems_out (h w c : Int) (hw : (h < 1 ∨ 16 < h) ∨ (1 ≤ h ∧ h ≤ 16 ∧ (w < 1 ∨ 16 < w)) ∨ (1 ≤ h ∧ h ≤ 16 ∧ 1 ≤ w ∧ w ≤ 16 ∧ (c < 1 ∨ 1024 < c))) (W : World) :
    Calls Tryd.prog 31 #[.agg #[.int .i64 h, .int .i64 w, .int .i64 c]] W fun e w' => e = .returned (.int .i64 0) ∧ Below W.heap.size W w' := by
  rcases hw with h1 | ⟨h1, h2, h3⟩ | ⟨h1, h2, h3, h4, h5⟩
  all_goals
    go_enter Tryd.func31, Tryd.ntmps31
    go_wp2_with (first
      | (go_at_call 45; refine (within_yes _ _ _ (by omega) (by omega) _).mono ?_; rintro e w' ⟨rfl, rfl⟩)
      | (go_at_call 45; refine (within_no _ _ _ (by omega) _).mono ?_; rintro e w' ⟨rfl, rfl⟩))
    go_ret
    exact ⟨rfl, (Below.refl _ _).alloc (Nat.le_refl _) _⟩
theorem elems_to (h w c n : Int) (hn : elemsZ h w c = n) (W : World) :
    Calls Tryd.prog 31 #[.agg #[.int .i64 h, .int .i64 w, .int .i64 c]] W fun e w' => e = .returned (.int .i64 n) ∧ Below W.heap.size W w' := by
  cases hs : shapeB h w c
  · rw [elemsZ_no hs] at hn
    subst hn
    by_cases hi : 1 ≤ h ∧ h ≤ 16 ∧ 1 ≤ w ∧ w ≤ 16 ∧ 1 ≤ c ∧ c ≤ 1024
    · obtain ⟨a1, a2, a3, a4, a5, a6⟩ := hi
      exact elems_many h w c _ a1 a2 a3 a4 a5 a6 rfl (by simp [shapeB] at hs; omega) W
    · exact elems_out h w c (by omega) W
  · obtain ⟨a1, a2, a3, a4, a5, a6, a7⟩ := shapeB_yes hs
    rw [elemsZ_yes hs] at hn
    exact elems_yes h w c n a1 a2 a3 a4 a5 a6 hn (hn ▸ a7) W
theorem right_to (h w c : Int) (b : Bool) (hb : shapeB h w c = b) (W : World) :
    Calls Tryd.prog 43 #[.agg #[.int .i64 h, .int .i64 w, .int .i64 c]] W fun e w' => e = .returned (.bool b) ∧ Below W.heap.size W w' := by
  obtain ⟨n, hn⟩ : ∃ n, elemsZ h w c = n := ⟨_, rfl⟩
  have hd : decide (n > 0) = b := by rw [← hn, elemsZ_pos, hb]
  have HN := Lib.hid hn
  clear hn
  go_enter Tryd.func43, Tryd.ntmps43
  go_wp2_with (go_at_call 31; refine (elems_to _ _ _ n HN.out _).mono ?_; rintro e w1 ⟨rfl, hb⟩)
  go_ret
  exact ⟨rfl, ((Below.refl _ _).alloc (Nat.le_refl _) _).trans (hb.mono (by simp))⟩
end Go.Proofs.YtamcdpkakdiggaaDoor.CShape
end
section
namespace Go.Proofs.YtamcdpkakdiggaaDoor.CShape
open Go Go.ChangeShapes Go.WideShapes Go.ChangeAt Go.RowKit
open Plain CSat
set_option linter.unusedVariables false
/-! ### windows -/
def argsB (n k s p : Int) : Bool := decide (1 ≤ n ∧ n ≤ 1024 ∧ 1 ≤ k ∧ k ≤ 5 ∧ 1 ≤ s ∧ s ≤ 4 ∧ 0 ≤ p ∧ p ≤ 4 ∧ p < k)
def stepsM (n k s p : Int) : Int := if argsB n k s p then (if n + 2 * p - k < 0 then 0 else (n + 2 * p - k) / s + 1) else 0
def stepsE (n k s p : Int) : Int := if argsB n k s p then (if n + 2 * p - k < 0 then 5 else 0) else 2
theorem argsB_yes {n k s p : Int} (h : argsB n k s p = true) : 1 ≤ n ∧ n ≤ 1024 ∧ 1 ≤ k ∧ k ≤ 5 ∧ 1 ≤ s ∧ s ≤ 4 ∧ 0 ≤ p ∧ p ≤ 4 ∧ p < k := by simpa [argsB] using h
theorem argsB_no {n k s p : Int} (h : argsB n k s p = false) : (n < 1 ∨ 1024 < n) ∨ (1 ≤ n ∧ n ≤ 1024 ∧ (k < 1 ∨ 5 < k)) ∨ (1 ≤ n ∧ n ≤ 1024 ∧ 1 ≤ k ∧ k ≤ 5 ∧ (s < 1 ∨ 4 < s)) ∨
    (1 ≤ n ∧ n ≤ 1024 ∧ 1 ≤ k ∧ k ≤ 5 ∧ 1 ≤ s ∧ s ≤ 4 ∧ (p < 0 ∨ 4 < p)) ∨ (1 ≤ n ∧ n ≤ 1024 ∧ 1 ≤ k ∧ k ≤ 5 ∧ 1 ≤ s ∧ s ≤ 4 ∧ 0 ≤ p ∧ p ≤ 4 ∧ k ≤ p) := by
  simp [argsB] at h; omega
theorem steps_arg (n k s p : Int) (h : argsB n k s p = false) (w : World) :
    Calls Tryd.prog 44 #[.int .i64 n, .int .i64 k, .int .i64 s, .int .i64 p] w fun e w' => e = .returned (.tuple #[.int .i64 0, .int .i64 2]) ∧ w = w' := by
  rcases argsB_no h with h1 | ⟨h1, h2, h3⟩ | ⟨h1, h2, h3, h4, h5⟩ | ⟨h1, h2, h3, h4, h5, h6, h7⟩ | ⟨h1, h2, h3, h4, h5, h6, h7, h8, h9⟩
  all_goals
    clear h
    go_enter Tryd.func44, Tryd.ntmps44
    go_wp2_with (first
      | (go_at_call 45; refine (within_yes _ _ _ (by omega) (by omega) _).mono ?_; rintro e w' ⟨rfl, rfl⟩)
      | (go_at_call 45; refine (within_no _ _ _ (by omega) _).mono ?_; rintro e w' ⟨rfl, rfl⟩))
    go_ret2
    exact ⟨rfl, rfl⟩
theorem steps_in (n k s p : Int) (h : argsB n k s p = true) (w : World) :
    Calls Tryd.prog 44 #[.int .i64 n, .int .i64 k, .int .i64 s, .int .i64 p] w fun e w' => e = .returned (.tuple #[.int .i64 (if n + 2 * p - k < 0 then 0 else (n + 2 * p - k) / s + 1), .int .i64 (if n + 2 * p - k < 0 then 5 else 0)]) ∧ w = w' := by
  obtain ⟨h1, h2, h3, h4, h5, h6, h7, h8, h9⟩ := argsB_yes h
  clear h
  by_cases hr : n + 2 * p - k < 0
  · rw [if_pos hr, if_pos hr]
    go_enter Tryd.func44, Tryd.ntmps44
    go_wp2_with (go_at_call 45; refine (within_yes _ _ _ (by omega) (by omega) _).mono ?_; rintro e w' ⟨rfl, rfl⟩)
    go_ret2
    exact ⟨rfl, rfl⟩
  · rw [if_neg hr, if_neg hr]
    obtain ⟨q, hq⟩ : ∃ q, (n + 2 * p - k) / s = q := ⟨_, rfl⟩
    have hq1 : 0 ≤ q := hq ▸ Int.ediv_nonneg (by omega) (by omega)
    have hq2 : q ≤ 2000 := by
      rw [← hq]
      exact Int.le_trans (Int.ediv_le_self s (by omega)) (by omega)
    have hq3 : (n + 2 * p - k).tdiv s = q := by rw [Int.tdiv_eq_ediv_of_nonneg (by omega)]; exact hq
    rw [hq]
    go_enter Tryd.func44, Tryd.ntmps44
    go_wp2_with (go_at_call 45; refine (within_yes _ _ _ (by omega) (by omega) _).mono ?_; rintro e w' ⟨rfl, rfl⟩)
    go_ret2
    exact ⟨rfl, rfl⟩
theorem steps_to (n k s p m e : Int) (hm : stepsM n k s p = m) (he : stepsE n k s p = e) (w : World) :
    Calls Tryd.prog 44 #[.int .i64 n, .int .i64 k, .int .i64 s, .int .i64 p] w fun r w' => r = .returned (.tuple #[.int .i64 m, .int .i64 e]) ∧ w = w' := by
  unfold stepsM at hm
  unfold stepsE at he
  cases h : argsB n k s p
  · rw [if_neg (by simp [h])] at hm he
    subst hm he
    exact steps_arg n k s p h w
  · rw [if_pos h] at hm he
    subst hm he
    exact steps_in n k s p h w
/-! ### places -/
/-! ### the shape that a window makes -/
def slideE (H W C k s p o : Int) : Int := if shapeB H W C = false then 5 else if stepsE H k s p ≠ 0 then stepsE H k s p else if stepsE W k s p ≠ 0 then stepsE W k s p else if shapeB (stepsM H k s p) (stepsM W k s p) o then 0 else 5
def slideS (H W C k s p o : Int) : Array Value := if slideE H W C k s p o = 0 then #[.int .i64 (stepsM H k s p), .int .i64 (stepsM W k s p), .int .i64 o] else #[.int .i64 0, .int .i64 0, .int .i64 0]
theorem slide_wrong (H W C k s p o : Int) (hs : shapeB H W C = false) (wd : World) :
    Calls Tryd.prog 28 #[.agg #[.int .i64 H, .int .i64 W, .int .i64 C], .int .i64 k, .int .i64 s, .int .i64 p, .int .i64 o] wd fun e w' => e = .returned (.tuple #[.agg #[.int .i64 0, .int .i64 0, .int .i64 0], .int .i64 5]) ∧ Below wd.heap.size wd w' := by
  have HS := Lib.hid hs
  clear hs
  go_enter Tryd.func28, Tryd.ntmps28
  go_wp2_with (go_at_call 43; refine (right_to _ _ _ _ HS.out _).mono ?_; rintro e w1 ⟨rfl, hb⟩; obtain ⟨hc, hf⟩ := Kit.bcell hb)
  have hs1 : wd.heap.size + 1 < w1.heap.size := by have := hb.size; simp at this; omega
  have hB : Below wd.heap.size wd w1 := (((Below.refl _ _).alloc (Nat.le_refl _) _).alloc (by simp) _).trans (hb.mono (by simp; omega))
  refine bodyPost_ret (Kit.results_ct rfl _ _ (wd.heap.size + 1) 0 [.int .i64 0, .int .i64 0, .int .i64 0] _ rfl (Kit.range_3 (by go_cell) (by go_cell) (by go_cell)) Tryd.underlying31 rfl (by kernel_rfl)) rfl ?_
  exact ⟨rfl, by go_grown⟩
theorem slide_one (H W C k s p o m e1 : Int) (hs : shapeB H W C = true) (hm : stepsM H k s p = m) (he : stepsE H k s p = e1) (hn : e1 ≠ 0) (wd : World) :
    Calls Tryd.prog 28 #[.agg #[.int .i64 H, .int .i64 W, .int .i64 C], .int .i64 k, .int .i64 s, .int .i64 p, .int .i64 o] wd fun e w' => e = .returned (.tuple #[.agg #[.int .i64 0, .int .i64 0, .int .i64 0], .int .i64 e1]) ∧ Below wd.heap.size wd w' := by
  have HS := Lib.hid hs
  have HM := Lib.hid hm
  have HE := Lib.hid he
  clear hs hm he
  go_enter Tryd.func28, Tryd.ntmps28
  go_wp2_with (first
    | (go_at_call 43; refine (right_to _ _ _ _ HS.out _).mono ?_; rintro e w1 ⟨rfl, hb⟩; obtain ⟨hc, hf⟩ := Kit.bcell hb)
    | (go_at_call 44; refine (steps_to _ _ _ _ m e1 HM.out HE.out _).mono ?_; rintro e w' ⟨rfl, rfl⟩))
  have hs1 : wd.heap.size + 1 < w1.heap.size := by have := hb.size; simp at this; omega
  have hB : Below wd.heap.size wd w1 := (((Below.refl _ _).alloc (Nat.le_refl _) _).alloc (by simp) _).trans (hb.mono (by simp; omega))
  refine bodyPost_ret (Kit.results_ct rfl _ _ (wd.heap.size + 1) 0 [.int .i64 0, .int .i64 0, .int .i64 0] _ rfl (Kit.range_3 (by go_cell) (by go_cell) (by go_cell)) Tryd.underlying31 rfl (by kernel_rfl)) rfl ?_
  exact ⟨rfl, by go_grown⟩
theorem slide_two (H W C k s p o m m2 e2 : Int) (hs : shapeB H W C = true) (hm : stepsM H k s p = m) (he : stepsE H k s p = 0) (hm2 : stepsM W k s p = m2) (he2 : stepsE W k s p = e2) (hn : e2 ≠ 0) (wd : World) :
    Calls Tryd.prog 28 #[.agg #[.int .i64 H, .int .i64 W, .int .i64 C], .int .i64 k, .int .i64 s, .int .i64 p, .int .i64 o] wd fun e w' => e = .returned (.tuple #[.agg #[.int .i64 0, .int .i64 0, .int .i64 0], .int .i64 e2]) ∧ Below wd.heap.size wd w' := by
  have HS := Lib.hid hs
  have HM := Lib.hid hm
  have HE := Lib.hid he
  have HM2 := Lib.hid hm2
  have HE2 := Lib.hid he2
  clear hs hm he hm2 he2
  go_enter Tryd.func28, Tryd.ntmps28
  go_wp2_with (first
    | (go_at_call 43; ((with_reducible refine (right_to H W C true HS.out _).mono ?_); rintro e w1 ⟨rfl, hb⟩; obtain ⟨hc, hf⟩ := Kit.bcell hb))
    | (go_at_call 44; ((with_reducible refine (steps_to H k s p m 0 HM.out HE.out _).mono ?_); rintro e w' ⟨rfl, rfl⟩))
    | (go_at_call 44; ((with_reducible refine (steps_to W k s p m2 e2 HM2.out HE2.out _).mono ?_); rintro e w' ⟨rfl, rfl⟩)))
  have hs1 : wd.heap.size + 1 < w1.heap.size := by have := hb.size; simp at this; omega
  have hB : Below wd.heap.size wd w1 := (((Below.refl _ _).alloc (Nat.le_refl _) _).alloc (by simp) _).trans (hb.mono (by simp; omega))
  refine bodyPost_ret (Kit.results_ct rfl _ _ (wd.heap.size + 1) 0 [.int .i64 0, .int .i64 0, .int .i64 0] _ rfl (Kit.range_3 (by go_cell) (by go_cell) (by go_cell)) Tryd.underlying31 rfl (by kernel_rfl)) rfl ?_
  exact ⟨rfl, by go_grown⟩
theorem slide_bad (H W C k s p o m m2 : Int) (hs : shapeB H W C = true) (hm : stepsM H k s p = m) (he : stepsE H k s p = 0) (hm2 : stepsM W k s p = m2) (he2 : stepsE W k s p = 0) (hr : shapeB m m2 o = false) (wd : World) :
    Calls Tryd.prog 28 #[.agg #[.int .i64 H, .int .i64 W, .int .i64 C], .int .i64 k, .int .i64 s, .int .i64 p, .int .i64 o] wd fun e w' => e = .returned (.tuple #[.agg #[.int .i64 0, .int .i64 0, .int .i64 0], .int .i64 5]) ∧ Below wd.heap.size wd w' := by
  have HS := Lib.hid hs
  have HM := Lib.hid hm
  have HE := Lib.hid he
  have HM2 := Lib.hid hm2
  have HE2 := Lib.hid he2
  have HR := Lib.hid hr
  clear hs hm he hm2 he2 hr
  go_enter Tryd.func28, Tryd.ntmps28
  go_wp2_with (first
    | (go_at_call 43; ((with_reducible refine (right_to H W C true HS.out _).mono ?_); rintro e w1 ⟨rfl, hb⟩; obtain ⟨hc, hf⟩ := Kit.bcell hb))
    | (go_at_call 44; ((with_reducible refine (steps_to H k s p m 0 HM.out HE.out _).mono ?_); rintro e w' ⟨rfl, rfl⟩))
    | (go_at_call 44; ((with_reducible refine (steps_to W k s p m2 0 HM2.out HE2.out _).mono ?_); rintro e w' ⟨rfl, rfl⟩))
    | (go_at_call 43; ((with_reducible refine (right_to m m2 o false HR.out _).mono ?_); (rintro e w2 ⟨rfl, hb2⟩; have hs1 : wd.heap.size + 1 < w1.heap.size := (by have := hb.size; simp at this; omega); have d0 : w2.cell? ⟨wd.heap.size + 1, 0, none⟩ = some (.int .i64 0) := (hb2.cell (p := ⟨wd.heap.size + 1, 0, none⟩) (by simp; omega)).trans (by go_cell); have d1 : w2.cell? ⟨wd.heap.size + 1, 1, none⟩ = some (.int .i64 0) := (hb2.cell (p := ⟨wd.heap.size + 1, 1, none⟩) (by simp; omega)).trans (by go_cell); have d2 : w2.cell? ⟨wd.heap.size + 1, 2, none⟩ = some (.int .i64 0) := (hb2.cell (p := ⟨wd.heap.size + 1, 2, none⟩) (by simp; omega)).trans (by go_cell); have g0 : w2.frozen? ⟨wd.heap.size + 1, 0, none⟩ = false := (hb2.frozen (p := ⟨wd.heap.size + 1, 0, none⟩) (by simp; omega)).trans (by go_cell); have g1 : w2.frozen? ⟨wd.heap.size + 1, 1, none⟩ = false := (hb2.frozen (p := ⟨wd.heap.size + 1, 1, none⟩) (by simp; omega)).trans (by go_cell); have g2 : w2.frozen? ⟨wd.heap.size + 1, 2, none⟩ = false := (hb2.frozen (p := ⟨wd.heap.size + 1, 2, none⟩) (by simp; omega)).trans (by go_cell); have c0 : w2.cell? ⟨w1.heap.size, 0, none⟩ = some (.int .i64 m) := (hb2.cell (p := ⟨w1.heap.size, 0, none⟩) (by simp)).trans (by go_cell); have c1 : w2.cell? ⟨w1.heap.size, 1, none⟩ = some (.int .i64 m2) := (hb2.cell (p := ⟨w1.heap.size, 1, none⟩) (by simp)).trans (by go_cell); have c2 : w2.cell? ⟨w1.heap.size, 2, none⟩ = some (.int .i64 o) := (hb2.cell (p := ⟨w1.heap.size, 2, none⟩) (by simp)).trans (by go_cell); clear hc hf))))
  have hs2 : w1.heap.size < w2.heap.size := by have := hb2.size; simp at this; omega
  have hB : Below wd.heap.size wd w1 := (((Below.refl _ _).alloc (Nat.le_refl _) _).alloc (by simp) _).trans (hb.mono (by simp; omega))
  have hB2 : Below wd.heap.size wd w2 := (by go_grown : Below wd.heap.size wd _).trans (hb2.mono (by simp; omega))
  refine bodyPost_ret (Kit.results_ct rfl _ _ (wd.heap.size + 1) 0 [.int .i64 0, .int .i64 0, .int .i64 0] _ rfl (Kit.range_3 (by go_cell) (by go_cell) (by go_cell)) Tryd.underlying31 rfl (by kernel_rfl)) rfl ?_
  exact ⟨rfl, by go_grown⟩
theorem slide_good (H W C k s p o m m2 : Int) (hs : shapeB H W C = true) (hm : stepsM H k s p = m) (he : stepsE H k s p = 0) (hm2 : stepsM W k s p = m2) (he2 : stepsE W k s p = 0) (hr : shapeB m m2 o = true) (wd : World) :
    Calls Tryd.prog 28 #[.agg #[.int .i64 H, .int .i64 W, .int .i64 C], .int .i64 k, .int .i64 s, .int .i64 p, .int .i64 o] wd fun e w' => e = .returned (.tuple #[.agg #[.int .i64 m, .int .i64 m2, .int .i64 o], .int .i64 0]) ∧ Below wd.heap.size wd w' := by
  have HS := Lib.hid hs
  have HM := Lib.hid hm
  have HE := Lib.hid he
  have HM2 := Lib.hid hm2
  have HE2 := Lib.hid he2
  have HR := Lib.hid hr
  clear hs hm he hm2 he2 hr
  go_enter Tryd.func28, Tryd.ntmps28
  go_wp2_with (first
    | (go_at_call 43; ((with_reducible refine (right_to H W C true HS.out _).mono ?_); rintro e w1 ⟨rfl, hb⟩; obtain ⟨hc, hf⟩ := Kit.bcell hb))
    | (go_at_call 44; ((with_reducible refine (steps_to H k s p m 0 HM.out HE.out _).mono ?_); rintro e w' ⟨rfl, rfl⟩))
    | (go_at_call 44; ((with_reducible refine (steps_to W k s p m2 0 HM2.out HE2.out _).mono ?_); rintro e w' ⟨rfl, rfl⟩))
    | (go_at_call 43; ((with_reducible refine (right_to m m2 o true HR.out _).mono ?_); (rintro e w2 ⟨rfl, hb2⟩; have hs1 : wd.heap.size + 1 < w1.heap.size := (by have := hb.size; simp at this; omega); have d0 : w2.cell? ⟨wd.heap.size + 1, 0, none⟩ = some (.int .i64 0) := (hb2.cell (p := ⟨wd.heap.size + 1, 0, none⟩) (by simp; omega)).trans (by go_cell); have d1 : w2.cell? ⟨wd.heap.size + 1, 1, none⟩ = some (.int .i64 0) := (hb2.cell (p := ⟨wd.heap.size + 1, 1, none⟩) (by simp; omega)).trans (by go_cell); have d2 : w2.cell? ⟨wd.heap.size + 1, 2, none⟩ = some (.int .i64 0) := (hb2.cell (p := ⟨wd.heap.size + 1, 2, none⟩) (by simp; omega)).trans (by go_cell); have g0 : w2.frozen? ⟨wd.heap.size + 1, 0, none⟩ = false := (hb2.frozen (p := ⟨wd.heap.size + 1, 0, none⟩) (by simp; omega)).trans (by go_cell); have g1 : w2.frozen? ⟨wd.heap.size + 1, 1, none⟩ = false := (hb2.frozen (p := ⟨wd.heap.size + 1, 1, none⟩) (by simp; omega)).trans (by go_cell); have g2 : w2.frozen? ⟨wd.heap.size + 1, 2, none⟩ = false := (hb2.frozen (p := ⟨wd.heap.size + 1, 2, none⟩) (by simp; omega)).trans (by go_cell); have c0 : w2.cell? ⟨w1.heap.size, 0, none⟩ = some (.int .i64 m) := (hb2.cell (p := ⟨w1.heap.size, 0, none⟩) (by simp)).trans (by go_cell); have c1 : w2.cell? ⟨w1.heap.size, 1, none⟩ = some (.int .i64 m2) := (hb2.cell (p := ⟨w1.heap.size, 1, none⟩) (by simp)).trans (by go_cell); have c2 : w2.cell? ⟨w1.heap.size, 2, none⟩ = some (.int .i64 o) := (hb2.cell (p := ⟨w1.heap.size, 2, none⟩) (by simp)).trans (by go_cell); clear hc hf))))
  have hs2 : w1.heap.size < w2.heap.size := by have := hb2.size; simp at this; omega
  have hB : Below wd.heap.size wd w1 := (((Below.refl _ _).alloc (Nat.le_refl _) _).alloc (by simp) _).trans (hb.mono (by simp; omega))
  have hB2 : Below wd.heap.size wd w2 := (by go_grown : Below wd.heap.size wd _).trans (hb2.mono (by simp; omega))
  refine bodyPost_ret (Kit.results_ct rfl _ _ (wd.heap.size + 1) 0 [.int .i64 m, .int .i64 m2, .int .i64 o] _ rfl (Kit.range_3 (by go_cell) (by go_cell) (by go_cell)) Tryd.underlying31 rfl (by kernel_rfl)) rfl ?_
  exact ⟨rfl, by go_grown⟩
theorem slide_to (H W C k s p o e : Int) (v : Array Value) (he : slideE H W C k s p o = e) (hv : slideS H W C k s p o = v) (wd : World) :
    Calls Tryd.prog 28 #[.agg #[.int .i64 H, .int .i64 W, .int .i64 C], .int .i64 k, .int .i64 s, .int .i64 p, .int .i64 o] wd fun r w' => r = .returned (.tuple #[.agg v, .int .i64 e]) ∧ Below wd.heap.size wd w' := by
  subst hv
  unfold slideS
  rw [he]
  unfold slideE at he
  cases hs : shapeB H W C
  · rw [if_pos hs] at he
    subst he
    exact slide_wrong H W C k s p o hs wd
  · rw [if_neg (by simp [hs])] at he
    by_cases h1 : stepsE H k s p = 0
    · rw [if_neg (by simp [h1])] at he
      by_cases h2 : stepsE W k s p = 0
      · rw [if_neg (by simp [h2])] at he
        cases hr : shapeB (stepsM H k s p) (stepsM W k s p) o
        · rw [if_neg (by simp [hr])] at he
          subst he
          exact slide_bad H W C k s p o _ _ hs rfl h1 rfl h2 hr wd
        · rw [if_pos hr] at he
          subst he
          exact slide_good H W C k s p o _ _ hs rfl h1 rfl h2 hr wd
      · rw [if_pos h2] at he
        subst he
        rw [if_neg h2]
        exact slide_two H W C k s p o _ _ _ hs rfl h1 rfl rfl h2 wd
    · rw [if_pos h1] at he
      subst he
      rw [if_neg h1]
      exact slide_one H W C k s p o _ _ hs rfl rfl h1 wd
end Go.Proofs.YtamcdpkakdiggaaDoor.CShape
end
