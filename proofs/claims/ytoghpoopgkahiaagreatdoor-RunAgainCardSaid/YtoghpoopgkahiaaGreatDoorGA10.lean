/- Texts of this seat, one behind the other: FourBack0, WheelOne, WheelRows, OpenTensor. -/
import Derived.Laws.FloatArith
import Derived.Laws.CopyOwn
import Derived.Lib.SmallJoins
import Derived.Test.YtoghpoopgkahiaaGreatDoorGA1
import Derived.Test.YtoghpoopgkahiaaGreatDoorGA3
import Derived.Test.YtoghpoopgkahiaaGreatDoorGA6
import Derived.Test.YtoghpoopgkahiaaGreatDoorGA7
section
namespace Go.Proofs.YtoghpoopgkahiaaGreatDoor.CFour
open Go Go.ChangeShapes Go.WideShapes Go.ChangeAt Go.RowKit
open FloatNum
set_option linter.unusedVariables false
def agi (L : Nat → Int) : Value := .agg #[.int .i64 (L 0), .int .i64 (L 1), .int .i64 (L 2), .int .i64 (L 3)]
/-- whole numbers of 64 bits, filled from the left. -/
def IntR (L : Nat → Int) (k : Nat) (S : Nat → Value) : Prop := ∀ i, i < 4 → S i = .int .i64 (if i < k then L i else 0)
theorem IntR.step {L : Nat → Int} {k : Nat} {S : Nat → Value} (h : IntR L k S) : IntR L (k + 1) (fun i => if i = k then .int .i64 (L k) else S i) := fun i hi => by
  by_cases e : i = k
  · subst e; simp only [if_true]; rw [if_pos (by omega)]
  · simp only [if_neg e]
    rw [h i hi]
    by_cases h1 : i < k
    · rw [if_pos h1, if_pos (by omega)]
    · rw [if_neg h1, if_neg (by omega)]
theorem IntR.all {L : Nat → Int} {S : Nat → Value} (h : IntR L 4 S) {i : Nat} (hi : i < 4) : S i = .int .i64 (L i) := by rw [h i hi, if_pos hi]
set_option maxHeartbeats 4000000 in
theorem back_to (c : Nat → Value) (p : Nat → G) (B : Nat) (hB : B ≤ 2 ^ 48) (hc : ∀ i, i < 4 → IsC (c i) (p i)) (hp : ∀ i, Bd B (p i)) (L : Nat → Int) (hL : ∀ i, i < 4 → (gpart p 1 i 4).1 = 4 * L i) (w : World) :
    Calls Tryz.prog 154 #[agg4 c] w fun e' w' => e' = .returned (agi L) ∧ Below w.heap.size w w' := by
  have HC := Lib.hid hc
  have HP := Lib.hid hp
  have HL := Lib.hid hL
  have HBB := Lib.hid hB
  clear hc hp hB hL
  have hn1 : IsC (.complex .f64 0 4607182418800017408) (0, 1) := ⟨_, _, rfl, isF_zero, isF_one⟩
  have HN := Lib.hid hn1
  clear hn1
  go_enter Tryz.func154, Tryz.ntmps154
  go_wp2_with (go_at_call 158; ((with_reducible refine (turned_to c p (.complex .f64 0 4607182418800017408) 1 (.inl rfl) B HBB.out HC.out HP.out HN.out _).mono ?_); rintro e2 w2 ⟨⟨Y, rfl, hAll⟩, hb2⟩; obtain ⟨hcc, hff⟩ := Kit.bcell hb2))
  have HY := Lib.hid hAll
  clear hAll
  have hR : Four (w.heap.size + 1) (fun _ => .int .i64 0) w2 := by
    have h1 := (Four.new (w.alloc (.cells #[c 0, c 1, c 2, c 3] 179)) (.int .i64 0) 193).below ((Below.refl _ _).alloc (Nat.le_refl _) (.cells #[.int .i64 0, .int .i64 0, .int .i64 0, .int .i64 0] 193)) (by simp)
    have e1 : (w.alloc (.cells #[c 0, c 1, c 2, c 3] 179)).heap.size = w.heap.size + 1 := by simp
    rw [e1] at h1
    exact h1.below hb2 (by simp)
  have hF : Four (w.heap.size + 1 + 1) (fun _ => .int .i64 0) w2 := by
    have h1 := (Four.new ((w.alloc (.cells #[c 0, c 1, c 2, c 3] 179)).alloc (.cells #[.int .i64 0, .int .i64 0, .int .i64 0, .int .i64 0] 193)) (.int .i64 0) 193)
    have e1 : ((w.alloc (.cells #[c 0, c 1, c 2, c 3] 179)).alloc (.cells #[.int .i64 0, .int .i64 0, .int .i64 0, .int .i64 0] 193)).heap.size = w.heap.size + 1 + 1 := by simp
    rw [e1] at h1
    exact h1.below hb2 (by simp)
  have hBw : Below w.heap.size w w2 := ((((Below.refl _ _).alloc (Nat.le_refl _) _).alloc (by simp) _).alloc (by simp; omega) _).trans (hb2.mono (by simp; omega))
  clear hcc hff hb2
  have HR := Lib.hid hR
  have HF := Lib.hid hF
  have HBw := Lib.hid hBw
  clear hR hF hBw
  go_loopw [8] (fun u wr => ∃ (k : Nat) (S : Nat → Value), k ≤ 4 ∧ u = .int .i64 k ∧ Hid (IntR L k S) ∧ Hid (Four (w.heap.size + 1 + 1) S wr) ∧ Hid (Four (w.heap.size + 1) (fun _ => .int .i64 0) wr) ∧ Hid (Below w.heap.size w wr)) (fun u _ => 4 - (intOf u).toNat)
  case atStart => exact ⟨0, fun _ => .int .i64 0, by omega, rfl, Lib.hid (fun i hi => by rw [if_neg (by omega)]), HF, HR, HBw⟩
  case round =>
    obtain ⟨k, S, hk, rfl, hS, hF, hR, hB1⟩ := hrel
    by_cases hlt : k < 4
    · obtain ⟨a, b, hY, h1, h2⟩ := HY.out k hlt
      rw [HL.out k hlt] at h1
      have hbd : (4 * L k).natAbs ≤ 2 ^ 50 := by
        have := (gpart_bd (.inl rfl) HP.out k 4).1
        rw [HL.out k hlt] at this
        have := HBB.out
        omega
      obtain ⟨r, hr1, hr2⟩ := h1.quarter (Nat.lt_of_le_of_lt hbd (by decide))
      have hi := hr2.toInt (by omega) .i64 (by show (-9223372036854775808 : Int) ≤ _; omega) (by show _ ≤ (9223372036854775807 : Int); omega)
      have hq : ∀ (w : World) (t : TypeId), (binOp .quo t (.float .f64 a) (.float .f64 4616189618054758400)).run Tryz.prog w = .ok (.float .f64 r) w := fun w t => run_float_arith w .quo t .f64 a _ r hr1
      have hcv : ∀ (w : World), (convert 199 2 (.float .f64 r)).run Tryz.prog w = .ok (.int .i64 (L k)) w := fun w => run_convert_float_int w _ _ .f64 .i64 r _ (by kernel_rfl) (by kernel_rfl) hi
      have HT := Lib.hid hS.out.step
      have HG := Lib.hid (hF.out.set hlt (.int .i64 (L k)))
      have HR1 := Lib.hid (hR.out.other (g' := w.heap.size + 1 + 1) (k := k) (.int .i64 (L k)) (by omega))
      have HB1 := Lib.hid (hB1.out.setCell (p := ⟨w.heap.size + 1 + 1, k, none⟩) (by show w.heap.size ≤ w.heap.size + 1 + 1; omega) (.int .i64 (L k)))
      clear hi hr1 hr2 h1 h2 hbd
      have x0 := ix0 Y
      have x1 := ix1 Y
      have x2 := ix2 Y
      have x3 := ix3 Y
      have c0 := hF.out.1 0 (by omega)
      have c1 := hF.out.1 1 (by omega)
      have c2 := hF.out.1 2 (by omega)
      have c3 := hF.out.1 3 (by omega)
      have f0 := hF.out.2.1 0 (by omega)
      have f1 := hF.out.2.1 1 (by omega)
      have f2 := hF.out.2.1 2 (by omega)
      have f3 := hF.out.2.1 3 (by omega)
      obtain rfl | rfl | rfl | rfl := lt4 hlt
      all_goals
        go_wp2
        go_roundw
        case rel => exact ⟨_, _, by omega, by go_num, HT, HG, HR1, HB1⟩
        case measure => simp [intOf]
    · have hk4 : k = 4 := by omega
      subst hk4
      have c0 := hF.out.1 0 (by omega)
      have c1 := hF.out.1 1 (by omega)
      have c2 := hF.out.1 2 (by omega)
      have c3 := hF.out.1 3 (by omega)
      have d0 := hR.out.1 0 (by omega)
      have d1 := hR.out.1 1 (by omega)
      have d2 := hR.out.1 2 (by omega)
      have d3 := hR.out.1 3 (by omega)
      have f0 := hR.out.2.1 0 (by omega)
      have f1 := hR.out.2.1 1 (by omega)
      have f2 := hR.out.2.1 2 (by omega)
      have f3 := hR.out.2.1 3 (by omega)
      have s0 := hS.out.all (i := 0) (by omega)
      have s1 := hS.out.all (i := 1) (by omega)
      have s2 := hS.out.all (i := 2) (by omega)
      have s3 := hS.out.all (i := 3) (by omega)
      rw [s0] at c0
      rw [s1] at c1
      rw [s2] at c2
      rw [s3] at c3
      clear s0 s1 s2 s3 hlt hk
      go_wp2
      refine bodyPost_ret (Kit.results_c rfl _ _ (w.heap.size + 1) 0 [.int .i64 (L 0), .int .i64 (L 1), .int .i64 (L 2), .int .i64 (L 3)] _ rfl (range_4 (by go_cell) (by go_cell) (by go_cell) (by go_cell)) Tryz.underlying193 rfl (by kernel_rfl)) rfl ?_
      refine ⟨rfl, ?_⟩
      have := hB1.out
      go_grown
end Go.Proofs.YtoghpoopgkahiaaGreatDoor.CFour
end
section
namespace Go.Proofs.YtoghpoopgkahiaaGreatDoor.CWheel
open Go Go.ChangeShapes Go.WideShapes Go.ChangeAt Go.RowKit
open FloatNum CFour
set_option linter.unusedVariables false
/-- three weights by value. -/
abbrev w3 (x y z : Int) : Value := .agg #[.int .i8 x, .int .i8 y, .int .i8 z]
set_option maxHeartbeats 4000000 in
theorem rolled_to (x y z : Int) (hx : InW x) (hy : InW y) (hz : InW z) (w : World) :
    Calls Tryz.prog 144 #[w3 x y z] w fun e' w' => (∃ S, e' = .returned (agg4 S) ∧ ∀ i, i < 4 → IsC (S i) (wh4 x 0 z y i)) ∧ Below w.heap.size w w' := by
  have h0 : In16 0 := by unfold In16; omega
  have H0 := Lib.hid h0
  have HX := Lib.hid hx.to16
  have HY := Lib.hid hy.to16
  have HZ := Lib.hid hz.to16
  have e1 : IntKind.i16.wrap x = x := IntWalk.i16_in _ (by unfold InW at hx; omega)
  have e2 : IntKind.i16.wrap y = y := IntWalk.i16_in _ (by unfold InW at hy; omega)
  have e3 : IntKind.i16.wrap z = z := IntWalk.i16_in _ (by unfold InW at hz; omega)
  clear hx hy hz h0
  go_enter Tryz.func144, Tryz.ntmps144
  go_wp2_with fail
  go_at_call 153
  refine (of_to x 0 z y HX.out H0.out HZ.out HY.out _).mono ?_
  rintro e2 w2 ⟨⟨S, rfl, hS⟩, hb2⟩
  have HS := Lib.hid hS
  have hR : Four (w.heap.size + 1) (fun _ => z0) w2 := by
    have h1 := Four.new (w.alloc (.cells #[.int .i8 x, .int .i8 y, .int .i8 z] 154)) z0 179
    have e1 : (w.alloc (.cells #[.int .i8 x, .int .i8 y, .int .i8 z] 154)).heap.size = w.heap.size + 1 := by simp
    rw [e1] at h1
    exact h1.below hb2 (by simp)
  have hBw : Below w.heap.size w w2 := (((Below.refl _ _).alloc (Nat.le_refl _) _).alloc (by simp) _).trans (hb2.mono (by simp; omega))
  have h1c := oneC hS
  have HR := Lib.hid hR
  have HBw := Lib.hid hBw
  clear hR hBw hb2 hS e1 e2 e3
  go_wp2_with (refine wpList_store_mid rfl 179 (.tmp 2) (.tmp 13) rfl (w.heap.size + 1) 0 #[S 0, S 1, S 2, S 3] rfl rfl HR.out.there (by kernel_rfl) h1c ?_; change wpList _ _ _ _ _ (CFour.set4 (w.heap.size + 1) S w2); have hR2 := HR.out.set4 S; have hB2 := below_set4 HBw.out (g := w.heap.size + 1) (by omega) S; generalize CFour.set4 (w.heap.size + 1) S w2 = w3' at hR2 hB2 ⊢; have c0 := hR2.1 0 (by omega); have c1 := hR2.1 1 (by omega); have c2 := hR2.1 2 (by omega); have c3 := hR2.1 3 (by omega))
  refine bodyPost_ret (Kit.results_c rfl _ _ (w.heap.size + 1) 0 [S 0, S 1, S 2, S 3] _ rfl (range_4 c0 c1 c2 c3) Tryz.underlying179 rfl (by kernel_rfl)) rfl ?_
  exact ⟨⟨S, rfl, HS.out⟩, hB2⟩
set_option maxHeartbeats 4000000 in
theorem unrolled_to (c : Nat → Value) (p : Nat → G) (B : Nat) (hB : B ≤ 2 ^ 48) (hc : ∀ i, i < 4 → IsC (c i) (p i)) (hp : ∀ i, Bd B (p i)) (L : Nat → Int) (hL : ∀ i, i < 4 → bk p i = 4 * L i) (a b : Int) (ha : L 0 = a) (hb : L 1 = b) (w : World) :
    Calls Tryz.prog 146 #[agg4 c] w fun e' w' => e' = .returned (.agg #[.int .i64 a, .int .i64 b]) ∧ Below w.heap.size w w' := by
  have HC := Lib.hid hc
  have HP := Lib.hid hp
  have HL := Lib.hid hL
  have HBB := Lib.hid hB
  subst ha hb
  clear hc hp hB hL
  go_enter Tryz.func146, Tryz.ntmps146
  go_wp2_with fail
  go_at_call 154
  refine (back_to c p B HBB.out HC.out HP.out L HL.out _).mono ?_
  rintro e2 w2 ⟨rfl, hb2⟩
  have hR : Two (w.heap.size + 1) (.int .i64 0) (.int .i64 0) w2 := by
    have h1 := Two.new (w.alloc (.cells #[c 0, c 1, c 2, c 3] 179)) (.int .i64 0) (.int .i64 0) 181
    have e1 : (w.alloc (.cells #[c 0, c 1, c 2, c 3] 179)).heap.size = w.heap.size + 1 := by simp
    rw [e1] at h1
    exact h1.below hb2 (by simp)
  have hBw : Below w.heap.size w w2 := (((Below.refl _ _).alloc (Nat.le_refl _) _).alloc (by simp) _).trans (hb2.mono (by simp; omega))
  have hlt : w.heap.size + 1 < w2.heap.size := hR.2.2.2
  have HR := Lib.hid hR
  have HBw := Lib.hid hBw
  clear hR hBw hb2
  go_wp2_with (first
    | (refine wpList_store_mid rfl 193 (.tmp 3) (.tmp 5) rfl w2.heap.size 0 #[.int .i64 (L 0), .int .i64 (L 1), .int .i64 (L 2), .int .i64 (L 3)] rfl rfl (Four.new w2 (.int .i64 0) 193).there (by kernel_rfl) (one4 _ _ _ _) ?_; change wpList _ _ _ _ _ (CFour.set4 w2.heap.size (fun i => .int .i64 (L i)) (w2.alloc (.cells #[.int .i64 0, .int .i64 0, .int .i64 0, .int .i64 0] 193))); have hF := (Four.new w2 (.int .i64 0) 193).set4 (fun i => .int .i64 (L i)); have hR2 := (HR.out.below ((Below.refl w2.heap.size w2).alloc (Nat.le_refl _) (.cells #[.int .i64 0, .int .i64 0, .int .i64 0, .int .i64 0] 193)) hlt).oth4 (g' := w2.heap.size) (fun i => .int .i64 (L i)) (Nat.ne_of_lt hlt); have hB2 := below_set4 (HBw.out.trans (((Below.refl w2.heap.size w2).alloc (Nat.le_refl _) (.cells #[.int .i64 0, .int .i64 0, .int .i64 0, .int .i64 0] 193)).mono (by omega))) (g := w2.heap.size) (by omega) (fun i => .int .i64 (L i)); generalize CFour.set4 w2.heap.size (fun i => Value.int .i64 (L i)) (w2.alloc (.cells #[.int .i64 0, .int .i64 0, .int .i64 0, .int .i64 0] 193)) = w3' at hF hR2 hB2 ⊢; generalize w2.heap.size = gg at hF hR2 hB2 hlt ⊢; have d0 := hF.1 0 (by omega); have d1 := hF.1 1 (by omega); have HR2 := Lib.hid hR2; have HB2 := Lib.hid hB2; clear hF hR2 hB2)
    | (refine wpList_store_mid rfl 181 (.tmp 2) (.tmp 10) rfl (w.heap.size + 1) 0 #[.int .i64 (L 0), .int .i64 (L 1)] rfl rfl HR2.out.there (by kernel_rfl) (all_oneCell_toArray (cs := [Value.int .i64 (L 0), .int .i64 (L 1)]) (by intro v hv; simp at hv; rcases hv with rfl | rfl <;> rfl)) ?_; change wpList _ _ _ _ _ (CFour.set2 (w.heap.size + 1) (.int .i64 (L 0)) (.int .i64 (L 1)) w3'); have hR3 := HR2.out.set2 (.int .i64 (L 0)) (.int .i64 (L 1)); have hB3 := below_set2 HB2.out (g := w.heap.size + 1) (by omega) (.int .i64 (L 0)) (.int .i64 (L 1)); generalize CFour.set2 (w.heap.size + 1) (.int .i64 (L 0)) (.int .i64 (L 1)) w3' = w4 at hR3 hB3 ⊢))
  refine bodyPost_ret (Kit.results_c rfl _ _ (w.heap.size + 1) 0 [.int .i64 (L 0), .int .i64 (L 1)] _ rfl (Kit.range_2 hR3.1 hR3.2.1) Tryz.underlying181 rfl (by kernel_rfl)) rfl ?_
  exact ⟨rfl, hB3⟩
theorem blocks_to (n : Int) (h1 : -9223372036854775808 ≤ n) (h2 : n ≤ 9223372036854775807) (b : Int) (hb : b = if n < 3 then 0 else (n - 1) / 2) (w : World) :
    Calls Tryz.prog 145 #[.int .i64 n] w fun e' w' => e' = .returned (.int .i64 b) ∧ w = w' := by
  by_cases h : n < 3
  · rw [if_pos h] at hb
    subst hb
    go_enter Tryz.func145, Tryz.ntmps145
    go_wp2_with fail
    go_ret
    exact ⟨rfl, rfl⟩
  · rw [if_neg h] at hb
    have e1 : IntKind.i64.wrap (n - 3) = n - 3 := IntWalk.i64_in _ (by omega)
    have e2 : IntKind.i64.wrap (n - 3 + 2) = n - 1 := by rw [IntWalk.i64_in _ (by omega)]; omega
    have e3 : (n - 1).tdiv 2 = b := by rw [hb]; exact Int.tdiv_eq_ediv_of_nonneg (by omega)
    have e4 : IntKind.i64.wrap b = b := IntWalk.i64_in _ (by omega)
    clear hb
    go_enter Tryz.func145, Tryz.ntmps145
    go_wp2_with fail
    go_ret
    exact ⟨rfl, rfl⟩
end Go.Proofs.YtoghpoopgkahiaaGreatDoor.CWheel
end
section
namespace Go.Proofs.YtoghpoopgkahiaaGreatDoor.CWheel
open Go Go.ChangeShapes Go.WideShapes Go.ChangeAt Go.RowKit
open FloatNum CFour
set_option linter.unusedVariables false
theorem in16 {n : Int} (h : (Lit.int .i16 n).wf = true) : In16 n := by
  have : -32768 ≤ n ∧ n ≤ 32767 := by simpa [Lit.wf, IntKind.min, IntKind.max, IntKind.signed, IntKind.bits] using h
  exact this
/-- the numbers of rows, 0 behind their ends. -/
def XR (rows : List (List Int)) (k i : Nat) : Int := (rows.getD k []).getD i 0
theorem XR_at {rows : List (List Int)} {k : Nat} (hk : k < rows.length) (i : Nat) : XR rows k i = rows[k].getD i 0 := by
  unfold XR
  rw [List.getD_eq_getElem?_getD (l := rows), List.getElem?_eq_getElem hk]; rfl
theorem XR_in {rows : List (List Int)} (h : ∀ row ∈ rows, ∀ n ∈ row, (Lit.int .i16 n).wf = true) (k i : Nat) : In16 (XR rows k i) := by
  have h0 : In16 0 := by unfold In16; omega
  unfold XR
  rw [List.getD_eq_getElem?_getD (l := rows)]
  cases hr : rows[k]? with
  | none => simp; exact h0
  | some row =>
    rw [Option.getD_some, List.getD_eq_getElem?_getD]
    cases hz : row[i]? with
    | none => exact h0
    | some z =>
      have := h row (List.mem_of_getElem? hr) z (List.mem_of_getElem? hz)
      rw [Option.getD_some]
      exact in16 this
/-- three weights each, one behind the other. -/
def Wts (w : World) (B : Nat) (A : Option Addr) (n : Nat) (W : Nat → Nat → Int) : Prop :=
  ∀ k, k < n → ∃ b o, A = some ⟨b, o, none⟩ ∧ b < B ∧ w.rangeAt b (o + k * 3) [.int .i8 (W k 0), .int .i8 (W k 1), .int .i8 (W k 2)]
theorem range_below {w w' : World} {B b o : Nat} {vs : List Value} (h : w.rangeAt b o vs) (hb : Below B w w') (hB : b < B) : w'.rangeAt b o vs := fun j v hj => by
  rw [hb.cell (p := ⟨b, o + j, none⟩) hB]; exact h j v hj
/-- four turned sums each, one behind the other. -/
def Wheels (w : World) (B : Nat) (A : Option Addr) (n : Nat) (W : Nat → Nat → Int) : Prop :=
  ∀ k, k < n → ∃ (b o : Nat) (S : Nat → Value), A = some ⟨b, o, none⟩ ∧ b < B ∧ (∀ i, i < 4 → IsC (S i) (wh4 (W k 0) 0 (W k 2) (W k 1) i)) ∧ w.rangeAt b (o + k * 4) [S 0, S 1, S 2, S 3]
/-- what four numbers of a row are that are copied over four zeros. -/
theorem splice_four (row : List Int) (f : Nat) : splice [.int .i16 0, .int .i16 0, .int .i16 0, .int .i16 0] 0 (((row.drop f).take 4).map (Value.int .i16)) =
    [.int .i16 (row.getD f 0), .int .i16 (row.getD (f + 1) 0), .int .i16 (row.getD (f + 2) 0), .int .i16 (row.getD (f + 3) 0)] := by
  have e : ∀ j, row.getD (f + j) 0 = (row.drop f).getD j 0 := fun j => by
    rw [List.getD_eq_getElem?_getD, List.getD_eq_getElem?_getD, List.getElem?_drop]
  have e0 := e 0
  rw [Nat.add_zero] at e0
  rw [e0, e 1, e 2, e 3]
  generalize row.drop f = l
  unfold splice
  match l with
  | [] => rfl
  | [a] => rfl
  | [a, b] => rfl
  | [a, b, c] => rfl
  | a :: b :: c :: d :: l => simp
end Go.Proofs.YtoghpoopgkahiaaGreatDoor.CWheel
end
section
namespace Go.Proofs.YtoghpoopgkahiaaGreatDoor.Kit
open Go Go.ChangeShapes Go.WideShapes Go.ChangeAt Go.RowKit Go.Deep
set_option linter.unusedVariables false
section
variable {H : Type} {enc : TypeId × Value → H} {P : Program} {w : World} {base b0 : Nat} {spare : Nat → Bool} {held : Bool} {r : Reach}
theorem open_tensor {t s d e i : TypeId} {k : IntKind} {f0 f1 g0 g1 g2 : Field} {v : Value} {D : DataW H} {ps : List MemPlace}
    (ht : P.underlying t = some (.struct #[f0, f1])) (hs : P.underlying s = some (.struct #[g0, g1, g2])) (hd : P.underlying d = some (.slice e)) (he : P.underlying e = some (.int k)) (hi : P.underlying i = some (.int .i64)) (hce : P.cellsOf e = 1)
    (hct : P.cellsOf t = 4) (hcs : P.cellsOf s = 3) (hcd : P.cellsOf d = 1) (hci : P.cellsOf i = 1) (hf : f0.type = s ∧ f0.offset = 0 ∧ f1.type = d ∧ f1.offset = 3) (hg : g0.type = i ∧ g0.offset = 0 ∧ g1.type = i ∧ g1.offset = 1 ∧ g2.type = i ∧ g2.offset = 2)
    (hv : Value.okWide P w r b0 t v) (h : DataW.Trod enc P w base spare held t v D ps) :
    ∃ (x y z : Int) (A : Option Addr) (zs : List Int) (c : Nat), v = .agg #[.int .i64 x, .int .i64 y, .int .i64 z, .slice A zs.length c] ∧ (Lit.int .i64 x).wf = true ∧ (Lit.int .i64 y).wf = true ∧ (Lit.int .i64 z).wf = true ∧
      zs.length ≤ c ∧ c ≤ maxLen ∧ (∀ n ∈ zs, (Lit.int k n).wf = true) ∧ Rd w w.heap.size A (zs.map (.int k)) := by
  obtain ⟨cs, rfl, hsz⟩ := okWide_struct ht hv
  rw [hct] at hsz
  obtain ⟨c0, c1, c2, c3, rfl⟩ := size_4 hsz
  obtain ⟨fuel, hfu⟩ := h
  obtain ⟨xs, n, _, _, _, hlen, hx⟩ := DataW.trod_struct ht hfu
  have h0 := hx 0 f0 rfl
  have h1 := hx 1 f1 rfl
  rw [hf.1, hf.2.1, hcs] at h0
  rw [hf.2.2.1, hf.2.2.2, hcd] at h1
  have e0 : ((Value.agg #[c0, c1, c2, c3]).cells.toList.drop 0).take 3 = [c0, c1, c2] := rfl
  have e1 : ((Value.agg #[c0, c1, c2, c3]).cells.toList.drop 3).take 1 = [c3] := rfl
  rw [e0] at h0
  rw [e1] at h1
  have hl2 : xs.length = 2 := by simpa using hlen
  rw [List.getElem?_eq_getElem (by omega)] at h0 h1
  obtain ⟨ys, m, _, _, _, hlen2, hy⟩ := DataW.trod_struct hs h0
  have hm2 : ys.length = 3 := by simpa using hlen2
  have a0 := hy 0 g0 rfl
  have a1 := hy 1 g1 rfl
  have a2 := hy 2 g2 rfl
  rw [hg.1, hg.2.1, hci] at a0
  rw [hg.2.2.1, hg.2.2.2.1, hci] at a1
  rw [hg.2.2.2.2.1, hg.2.2.2.2.2, hci] at a2
  have q0 : ([c0, c1, c2].drop 0).take 1 = [c0] := rfl
  have q1 : ([c0, c1, c2].drop 1).take 1 = [c1] := rfl
  have q2 : ([c0, c1, c2].drop 2).take 1 = [c2] := rfl
  rw [q0, List.getElem?_eq_getElem (by omega)] at a0
  rw [q1, List.getElem?_eq_getElem (by omega)] at a1
  rw [q2, List.getElem?_eq_getElem (by omega)] at a2
  obtain ⟨x, ex, _, wx⟩ := DataW.trod_int hi a0
  obtain ⟨y, ey, _, wy⟩ := DataW.trod_int hi a1
  obtain ⟨z, ez, _, wz⟩ := DataW.trod_int hi a2
  simp at ex ey ez
  subst ex ey ez
  obtain ⟨a3, len, cap, e3⟩ := Go.Joins.slice_form hd h1
  simp at e3
  subst e3
  rcases open_ints hd he hce h1 with ⟨hcs, _⟩ | ⟨a, len', cap', zs, hcs, _, hl, hm, hz, _, hcell, hwz⟩
  · simp at hcs
    obtain ⟨rfl, rfl, rfl⟩ := hcs
    exact ⟨x, y, z, none, [], 0, rfl, wx, wy, wz, by simp, by simp, by simp, Rd.nil⟩
  · simp at hcs
    obtain ⟨rfl, rfl, rfl⟩ := hcs
    have hlz : len ≤ zs.length := by rw [hz]; split <;> omega
    refine ⟨x, y, z, some a, zs.take len, cap, ?_, wx, wy, wz, ?_, hm, fun n hn => hwz n (List.mem_of_mem_take hn), fun j u hu => ?_⟩
    · rw [List.length_take, Nat.min_eq_left hlz]
    · rw [List.length_take, Nat.min_eq_left hlz]; exact hl
    · rw [List.getElem?_map, List.getElem?_take] at hu
      split at hu
      · rename_i hj
        have hjz : j < zs.length := by omega
        rw [List.getElem?_eq_getElem hjz] at hu
        simp only [Option.map_some, Option.some.injEq] at hu
        subst hu
        have h9 := hcell j hjz
        rw [List.getD_eq_getElem?_getD, List.getElem?_eq_getElem hjz, Option.getD_some] at h9
        exact ⟨a, rfl, by have := block_lt h9; rwa [add_block] at this, h9⟩
      · simp at hu
end
end Go.Proofs.YtoghpoopgkahiaaGreatDoor.Kit
end
