/- For all rows of numbers of 16 bits and all weights, three each: the law WheelMany answers true (the code's sums of rows with their weights, or that there are none, are the document's; and the fixed calls answer as they must), and nothing that was there before the call has turned. No conditions. -/
import Derived.Test.YtbegabagokapoaaWheelKnown
import Derived.Test.YtbegabagokapoaaWheelRefM
import Derived.Test.YtbegabagokapoaaOpenThrees
namespace Go.Proofs.Ytbegabagokapoaa.lawWheelMany
open Go Go.ChangeShapes Go.WideShapes Go.ChangeAt Go.RowKit
open FloatNum CFour CWheel
set_option linter.unusedVariables false

set_option maxHeartbeats 8000000 in
theorem walk {w : World} (A : Option Addr) (rows : List (List Int)) (n cp : Nat) (hn : rows.length = n) (hc : n ≤ cp) (hcm : cp ≤ maxLen) (hw8 : ∀ row ∈ rows, ∀ v ∈ row, (Lit.int .i16 v).wf = true) (hr : Kit.RowsAt w w.heap.size .i16 A rows)
    (AW : Option Addr) (W : Nat → Nat → Int) (nW cW : Nat) (hcW : nW ≤ cW) (hcmW : cW ≤ maxLen) (hwW : ∀ j i, (Lit.int .i8 (W j i)).wf = true) (hrW : Kit.Threes w w.heap.size .i8 AW nW W) :
    Calls Try.prog 4 #[.slice A n cp, .slice AW nW cW] w fun e w' => e = .returned (.bool true) ∧ Below w.heap.size w w' := by
  by_cases h1 : n ≤ 20
  · have k1 : ¬ (n : Int) > 20 := by omega
    by_cases h2 : nW ≤ 20
    · have k2 : ¬ (nW : Int) > 20 := by omega
      have HN := Lib.hid hn
      have HR := Lib.hid hr
      have HW8 := Lib.hid hw8
      have HWW := Lib.hid (fun j i => inW (hwW j i))
      have hrW2 : Wts w w.heap.size AW nW W := hrW
      have HWT := Lib.hid hrW2
      have HCM := Lib.hid hcm
      clear hn hr hw8 hwW hrW hrW2 hcm hcmW hcW
      go_enter Try.func4, Try.ntmps4
      go_wp2_with fail
      go_loopw [5] (fun u wr => ∃ k : Nat, k ≤ n ∧ u = .int .i64 k ∧ Hid (∀ j (hj : j < rows.length), j < k → rows[j].length ≤ 60) ∧ Hid (wr = w)) (fun u _ => n - (intOf u).toNat)
      case atStart => exact ⟨0, Nat.zero_le _, rfl, Lib.hid (fun j _ hj => by omega), Lib.hid rfl⟩
      case round =>
        obtain ⟨k, hk, rfl, HA, hwr⟩ := hrel
        obtain rfl := hwr.out
        clear hwr
        by_cases hlt : k < n
        · have hkI : (k : Int) < (n : Int) := by omega
          have hk0 : (0 : Int) ≤ (k : Int) := by omega
          obtain ⟨bk, ok, Ak, Lk, ck, rfl, hbk, hck, ek, -⟩ := HR.out.row (i := k) (by have := HN.out; omega)
          have EK := Lib.hid ek
          clear ek
          by_cases h4 : Lk ≤ 60
          · have k4 : ¬ (Lk : Int) > 60 := by omega
            have HA2 : Hid (∀ j (hj : j < rows.length), j < k + 1 → rows[j].length ≤ 60) := Lib.hid (fun j hj h => by
              rcases Nat.lt_or_ge j k with h5 | h5
              · exact HA.out j hj h5
              · obtain rfl : j = k := by omega
                have := EK.out; omega)
            go_wp2_with fail
            go_roundw
            case rel => exact ⟨k + 1, by omega, by go_num, HA2, Lib.hid (by first | rfl | trivial)⟩
            case measure => simp [intOf]; omega
          · have k4 : (Lk : Int) > 60 := by omega
            go_wp2_with (go_at_call 6; ((with_reducible refine (known15 _).mono ?_); rintro e1 w1 ⟨rfl, h1⟩))
            go_ret
            exact ⟨rfl, h1⟩
        · obtain rfl : k = n := by omega
          have h6 : ∀ row ∈ rows, row.length ≤ 60 := fun row hrow => by
            obtain ⟨j, hj, rfl⟩ := List.mem_iff_getElem.1 hrow
            exact HA.out j hj (by have := HN.out; omega)
          have H6 : Hid (∀ row ∈ rows, row.length ≤ 1000000) := Lib.hid (fun row hrow => by have := h6 row hrow; omega)
          have hmN : manyN rows nW ≤ 60 := by
            unfold manyN
            split
            · rename_i hb
              have := fit_yes hb
              rw [row0 (by omega)]
              have := h6 _ (List.getElem_mem (show 0 < rows.length by omega)); omega
            · omega
          obtain ⟨m, hm⟩ : ∃ m, m = manyN rows nW := ⟨_, rfl⟩
          have HM := Lib.hid hm
          rw [← hm] at hmN
          clear h6 hm HA
          go_wp2_with (first
            | (go_at_call 12; refine (many_to A rows k cp AW nW cW W m HN.out HCM.out hc (by omega) H6.out HM.out (XR_in HW8.out) HWW.out _ rfl _ HR.out HWT.out).mono ?_; rintro e w1 ⟨v1, rfl, hown1, hb1⟩; obtain ⟨A1, c1, rfl, -, -, hrd1⟩ := Kit.own_rd hown1; have HR1 := Lib.hid hrd1; have HB1 := Lib.hid hb1; clear hown1 hrd1 hb1)
            | (go_at_call 13; refine (refMany_to A rows k cp AW nW cW W m HN.out HCM.out hc (by omega) H6.out HM.out HW8.out HWW.out _ rfl _ ((HR.out.below HB1.out).more HB1.out.size) ((HWT.out.below HB1.out).more HB1.out.size)).mono ?_; rintro e w2 ⟨v2, rfl, hown2, hb2⟩; obtain ⟨A2, c2, rfl, -, -, hrd2⟩ := Kit.own_rd hown2; have HR2 := Lib.hid hrd2; replace HR1 := Lib.hid (HR1.out.below hb2); replace HB1 := Lib.hid (HB1.out.trans (hb2.mono HB1.out.size)); clear hown2 hrd2 hb2)
            | (go_at_call 9; refine (same_yes A1 A2 (nums (mnAt (XR rows) W k) m) m c1 m c2 (nums_len _ _) rfl (by omega) _ HR1.out HR2.out).mono ?_; rintro e w3' ⟨rfl, hb3⟩; replace HB1 := Lib.hid (HB1.out.trans (hb3.mono HB1.out.size)); clear hb3)
            | (go_at_call 6; refine (known15 _).mono ?_; rintro e w4 ⟨rfl, hb4⟩; replace HB1 := Lib.hid (HB1.out.trans (hb4.mono HB1.out.size)); clear hb4))
          go_ret
          exact ⟨rfl, HB1.out⟩
    · have k2 : (nW : Int) > 20 := by omega
      clear hr hw8 hwW hrW hcm hcmW hcW hn hc
      go_enter Try.func4, Try.ntmps4
      go_wp2_with (go_at_call 6; ((with_reducible refine (known15 _).mono ?_); rintro e1 w1 ⟨rfl, h1⟩))
      go_ret
      exact ⟨rfl, h1⟩
  · have k1 : (n : Int) > 20 := by omega
    clear hr hw8 hwW hrW hcm hcmW hcW hn hc
    go_enter Try.func4, Try.ntmps4
    go_wp2_with (go_at_call 6; ((with_reducible refine (known15 _).mono ?_); rintro e1 w1 ⟨rfl, h1⟩))
    go_ret
    exact ⟨rfl, h1⟩
/-! ### the frame: written by program -/
theorem own : ownKnob Try.prog.godebug = none := by kernel_rfl
theorem laid : laidOutB Try.prog = true := by kernel_rfl
theorem contract {H : Type} {enc : TypeId × Value → H} {W : World} {base : Nat} {args : Array Value} {ds gs : List (DataW H)} {before : List MemPlace}
    (hval0 : ∀ (j : Nat) t v, Try.f4.params[j]? = some t → args[j]? = some v → Value.okWide Try.prog W .any base t v)
    (hW : DataW.Whole enc Try.prog Try.f4.params.toList Rows.wheelManySpec.vars false W args.toList ds gs before) :
    Calls Try.prog 4 args W fun e W' => e = .returned (.bool true) ∧ Below W.heap.size W W' := by
  have hval : ∀ (j : Nat) t v, Try.f4.params[j]? = some t → args[j]? = some v → Value.okWide Try.prog W .any base t v := hval0
  obtain ⟨p, q, hA0, hV, rfl, hfz, hnd⟩ := hW
  have hA : DataW.TrodAll enc Try.prog W 0 (fun _ => true) true Try.f4.params.toList args.toList ds p := hA0
  rw [Try.params4] at hA hval
  obtain ⟨v0, vs0, d0, ds0, p0, q0, hargs, rfl, rfl, h0, r0⟩ := trodAll_cons hA
  obtain ⟨v1, vs1, d1, ds1, p1, q1, rfl, rfl, rfl, h1, r1⟩ := trodAll_cons r0
  obtain ⟨rfl, rfl, rfl⟩ := trodAll_nil r1
  obtain rfl : args = #[v0, v1] := by cases args; simp_all
  clear hA0 hval0
  obtain ⟨A0, R0, n0, c0, rfl, hl0, hc0, hm0, hw0, hr0⟩ := Kit.open_irows Try.underlying35 Try.underlying22 Try.underlying25 (by kernel_rfl) (by kernel_rfl) (hval 0 35 v0 rfl rfl) h0
  obtain ⟨A1, W1, n1, c1, rfl, hc1, hm1, hw1, hr1⟩ := Kit.open_threes Try.underlying36 Try.underlying24 Try.underlying23 (by kernel_rfl) (by kernel_rfl) (by decide) (hval 1 36 v1 rfl rfl) h1
  exact walk (w := W) A0 R0 n0 c0 hl0 hc0 hm0 hw0 hr0 A1 W1 n1 c1 hc1 hm1 hw1 hr1
theorem fnIs {H : Type} : ∀ ds : List (DataW H), ds.length = Try.f4.params.toList.length → Rows.wheelManySpec.fn H ds = { results := [.lit (.bool true)], args := ds } := by
  intro ds h
  rw [Try.params4] at h
  match ds, h with
  | [d1, d2], _ => rfl
set_option maxRecDepth 100000 in
theorem lifted (os : Os) (started : os.Started) (H : Type) (enc : TypeId × Value → H) :
    ReturnsInHanded {} Try.checked os 4 .any (Rows.wheelManySpec.pre6 enc Try.prog Try.f4 Rows.wheelManyRow.domain false) (Rows.wheelManySpec.post enc Try.prog Try.f4 false true false false) := by
  refine returnsInHanded_of_change (C := Try.checked) own started (by kernel_rfl) Try.func4
    (ChangeSpec.witness6 (enc := enc) (C := Try.checked) false ⟨#[], #[.slice none 0 0, .slice none 0 0], []⟩ 8 (by kernel_rfl) (by kernel_rfl) (by kernel_rfl) (by kernel_rfl)) ?_
  intro W base args ds gs before hval hW _ _
  refine (contract hval hW).mono fun e W' ⟨he, hg⟩ => ?_
  subst he
  exact ⟨_, rfl, Kit.law_post (tb := 4) laid (by kernel_rfl) rfl (by kernel_rfl) Try.underlying4 fnIs hW hg⟩
theorem over : Rows.wheelManyRow.holds Try.pinned (OpenSpec.ofChange Rows.wheelManySpec) :=
  OpenClaim.holds_of_wide 4 Try.f4 rfl rfl rfl rfl rfl rfl rfl ⟨rfl, rfl, rfl, rfl, rfl⟩ rfl rfl rfl rfl rfl (by kernel_rfl) Try.func4 (by kernel_rfl)
    (of_decide_eq_true (by kernel_rfl)) (by unfold Func.isWrapper; first | (rw [if_pos (by decide +kernel)]; kernel_rfl) | (rw [if_neg (by decide +kernel)]; exact ⟨rfl, rfl⟩))
    (fun os started H enc _ => lifted os started H enc)
/-- the statement. -/
theorem proved : Rows.WheelManySaid :=
  over
end Go.Proofs.Ytbegabagokapoaa.lawWheelMany
