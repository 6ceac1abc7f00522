/- For every row of four numbers of 16 bits: the law FourParts answers true (the four sums' parts are those of the document, and the fixed call answers as it must), and nothing that was there before the call has turned. No conditions. -/
import Derived.Test.YtdohcmjpaepmlaaFourKnown
namespace Go.Proofs.Ytdohcmjpaepmlaa.lawFourParts
open Go Go.ChangeShapes Go.WideShapes Go.ChangeAt Go.RowKit
open FloatNum CFour
set_option linter.unusedVariables false

set_option maxHeartbeats 4000000 in
theorem walk {w : World} (a : Int) (wa : (Lit.int .i16 a).wf = true) (b : Int) (wb : (Lit.int .i16 b).wf = true) (c : Int) (wc : (Lit.int .i16 c).wf = true) (d : Int) (wd : (Lit.int .i16 d).wf = true) :
    Calls Try.prog 3 #[.agg #[.int .i16 a, .int .i16 b, .int .i16 c, .int .i16 d]] w fun e w' => e = .returned (.bool true) ∧ Below w.heap.size w w' := by
  have ha : In16 a := by simp [Lit.wf, IntKind.min, IntKind.max, IntKind.bits, IntKind.signed] at wa; exact ⟨by omega, by omega⟩
  have hb : In16 b := by simp [Lit.wf, IntKind.min, IntKind.max, IntKind.bits, IntKind.signed] at wb; exact ⟨by omega, by omega⟩
  have hc : In16 c := by simp [Lit.wf, IntKind.min, IntKind.max, IntKind.bits, IntKind.signed] at wc; exact ⟨by omega, by omega⟩
  have hd : In16 d := by simp [Lit.wf, IntKind.min, IntKind.max, IntKind.bits, IntKind.signed] at wd; exact ⟨by omega, by omega⟩
  have HA := Lib.hid ha
  have HB := Lib.hid hb
  have HC := Lib.hid hc
  have HD := Lib.hid hd
  have HBD : Hid (∀ k, Bd (4 * 32768) (gpart (lp a b c d) (-1) k 4)) := Lib.hid (fun k => gpart_bd (.inr rfl) (lp_bd ha hb hc hd) k 4)
  clear ha hb hc hd wa wb wc wd
  obtain ⟨RF, hRF⟩ : ∃ f, reF a b c d = f := ⟨_, rfl⟩
  obtain ⟨IF, hIF⟩ : ∃ f, imF a b c d = f := ⟨_, rfl⟩
  have HP : Hid (∀ W, Calls Try.prog 6 #[.agg #[.int .i16 a, .int .i16 b, .int .i16 c, .int .i16 d]] W fun e' w' => e' = .returned (.tuple #[.agg #[.int .i32 (RF 0), .int .i32 (RF 1), .int .i32 (RF 2), .int .i32 (RF 3)], .agg #[.int .i32 (IF 0), .int .i32 (IF 1), .int .i32 (IF 2), .int .i32 (IF 3)]]) ∧ Below W.heap.size W w') := Lib.hid (fun W => by have := parts_to a b c d HA.out HB.out HC.out HD.out W; rw [hRF, hIF] at this; exact this)
  have HQ : Hid (∀ (k : Nat) (hk : k < 4) (K : Int) (hK : (k : Int) = K) (W : World), Calls Try.prog 7 #[.agg #[.int .i16 a, .int .i16 b, .int .i16 c, .int .i16 d], .int .i64 K] W fun e' w' => e' = .returned (.tuple #[.int .i64 (RF k), .int .i64 (IF k)]) ∧ Below W.heap.size W w') := Lib.hid (fun k hk K hK W => by have := refParts_at a b c d HA.out HB.out HC.out HD.out k hk K hK W; rw [hRF, hIF] at this; exact this)
  have HR : Hid (∀ k, (-131072 ≤ RF k ∧ RF k ≤ 131072) ∧ -131072 ≤ IF k ∧ IF k ≤ 131072) := Lib.hid (fun k => by
    have := HBD.out k
    rw [← hRF, ← hIF]
    unfold Bd at this
    unfold reF imF
    omega)
  clear hRF hIF HBD
  go_enter Try.func3, Try.ntmps3
  go_wp2_with (go_at_call 6; ((with_reducible refine (HP.out _).mono ?_); rintro e1 w1 ⟨rfl, hb1⟩; obtain ⟨hcc, hff⟩ := Kit.bcell hb1))
  have hX : Four w.heap.size (fun i => .int .i16 (l4 a b c d i)) w1 := (Four.box w (fun i => .int .i16 (l4 a b c d i)) 23).below hb1 (by simp)
  have hbw : Below w.heap.size w w1 := ((Below.refl _ _).alloc (Nat.le_refl _) _).trans (hb1.mono (by simp))
  have hlt1 : w.heap.size < w1.heap.size := by have := hb1.size; simp at this; omega
  clear hcc hff hb1
  have h1 := (Four.box w1 (fun i => .int .i32 (RF i)) 24).below ((Below.refl _ _).alloc (Nat.le_refl _) (.cells #[.int .i32 (IF 0), .int .i32 (IF 1), .int .i32 (IF 2), .int .i32 (IF 3)] 24)) (by simp)
  have h2 := Four.box (w1.alloc (.cells #[.int .i32 (RF 0), .int .i32 (RF 1), .int .i32 (RF 2), .int .i32 (RF 3)] 24)) (fun i => .int .i32 (IF i)) 24
  have h0 := hX.below (((Below.refl _ _).alloc (Nat.le_refl _) (.cells #[.int .i32 (RF 0), .int .i32 (RF 1), .int .i32 (RF 2), .int .i32 (RF 3)] 24)).alloc (by simp) (.cells #[.int .i32 (IF 0), .int .i32 (IF 1), .int .i32 (IF 2), .int .i32 (IF 3)] 24)) hlt1
  have e1 : (w1.alloc (.cells #[.int .i32 (RF 0), .int .i32 (RF 1), .int .i32 (RF 2), .int .i32 (RF 3)] 24)).heap.size = w1.heap.size + 1 := by simp
  rw [e1] at h2
  have hb0 : Below w.heap.size w ((w1.alloc (.cells #[.int .i32 (RF 0), .int .i32 (RF 1), .int .i32 (RF 2), .int .i32 (RF 3)] 24)).alloc (.cells #[.int .i32 (IF 0), .int .i32 (IF 1), .int .i32 (IF 2), .int .i32 (IF 3)] 24)) := (hbw.alloc hbw.size _).alloc (by have := hbw.size; simp; omega) _
  have H0 := Lib.hid h0
  have H1 := Lib.hid h1
  have H2 := Lib.hid h2
  have HB0 := Lib.hid hb0
  clear h0 h1 h2 hb0 hX hbw e1 hlt1
  have Q0 : Hid (((0 : Nat) : Int) = (0 : Int)) := Lib.hid rfl
  have L40 : Hid ((0 : Nat) < 4) := Lib.hid (by decide)
  have Q1 : Hid (((1 : Nat) : Int) = (1 : Int)) := Lib.hid rfl
  have L41 : Hid ((1 : Nat) < 4) := Lib.hid (by decide)
  have Q2 : Hid (((2 : Nat) : Int) = (2 : Int)) := Lib.hid rfl
  have L42 : Hid ((2 : Nat) < 4) := Lib.hid (by decide)
  have Q3 : Hid (((3 : Nat) : Int) = (3 : Int)) := Lib.hid rfl
  have L43 : Hid ((3 : Nat) < 4) := Lib.hid (by decide)
  go_loopw [5] (fun u wr => ∃ k : Nat, k ≤ 4 ∧ u = .int .i64 k ∧ Hid (Four w.heap.size (fun i => .int .i16 (l4 a b c d i)) wr) ∧ Hid (Four w1.heap.size (fun i => .int .i32 (RF i)) wr) ∧ Hid (Four (w1.heap.size + 1) (fun i => .int .i32 (IF i)) wr) ∧ Hid (Below w.heap.size w wr)) (fun u _ => 4 - (intOf u).toNat)
  case atStart => exact ⟨0, by omega, rfl, H0, H1, H2, HB0⟩
  case round =>
    obtain ⟨k, hk, rfl, hX, hR, hI, hBw⟩ := hrel
    clear H0 H1 H2 HB0
    by_cases hlt : k < 4
    · have c0 := hX.out.1 0 (by omega)
      have c1 := hX.out.1 1 (by omega)
      have c2 := hX.out.1 2 (by omega)
      have c3 := hX.out.1 3 (by omega)
      simp only [l4] at c0 c1 c2 c3
      obtain ⟨⟨r1, r2⟩, r3, r4⟩ := HR.out k
      obtain rfl | rfl | rfl | rfl := lt4 hlt
      all_goals clear hlt hk
      · go_wp2_with (go_at_call 7; ((with_reducible refine (HQ.out 0 L40.out 0 Q0.out _).mono ?_); rintro e3 w3 ⟨rfl, hb3⟩; have hX3 := Lib.hid (hX.out.below hb3 hX.out.2.2); have hR3 := Lib.hid (hR.out.below hb3 hR.out.2.2); have hI3 := Lib.hid (hI.out.below hb3 hI.out.2.2); have hB3 := Lib.hid (hBw.out.trans (hb3.mono hBw.out.size)); have d0 := hR3.out.1 0 (by decide); have d1 := hI3.out.1 0 (by decide); clear hb3 c0 c1 c2 c3))
        go_roundw
        case rel => exact ⟨0 + 1, by omega, by go_num, hX3, hR3, hI3, hB3⟩
        case measure => simp [intOf]
      · go_wp2_with (go_at_call 7; ((with_reducible refine (HQ.out 1 L41.out 1 Q1.out _).mono ?_); rintro e3 w3 ⟨rfl, hb3⟩; have hX3 := Lib.hid (hX.out.below hb3 hX.out.2.2); have hR3 := Lib.hid (hR.out.below hb3 hR.out.2.2); have hI3 := Lib.hid (hI.out.below hb3 hI.out.2.2); have hB3 := Lib.hid (hBw.out.trans (hb3.mono hBw.out.size)); have d0 := hR3.out.1 1 (by decide); have d1 := hI3.out.1 1 (by decide); clear hb3 c0 c1 c2 c3))
        go_roundw
        case rel => exact ⟨1 + 1, by omega, by go_num, hX3, hR3, hI3, hB3⟩
        case measure => simp [intOf]
      · go_wp2_with (go_at_call 7; ((with_reducible refine (HQ.out 2 L42.out 2 Q2.out _).mono ?_); rintro e3 w3 ⟨rfl, hb3⟩; have hX3 := Lib.hid (hX.out.below hb3 hX.out.2.2); have hR3 := Lib.hid (hR.out.below hb3 hR.out.2.2); have hI3 := Lib.hid (hI.out.below hb3 hI.out.2.2); have hB3 := Lib.hid (hBw.out.trans (hb3.mono hBw.out.size)); have d0 := hR3.out.1 2 (by decide); have d1 := hI3.out.1 2 (by decide); clear hb3 c0 c1 c2 c3))
        go_roundw
        case rel => exact ⟨2 + 1, by omega, by go_num, hX3, hR3, hI3, hB3⟩
        case measure => simp [intOf]
      · go_wp2_with (go_at_call 7; ((with_reducible refine (HQ.out 3 L43.out 3 Q3.out _).mono ?_); rintro e3 w3 ⟨rfl, hb3⟩; have hX3 := Lib.hid (hX.out.below hb3 hX.out.2.2); have hR3 := Lib.hid (hR.out.below hb3 hR.out.2.2); have hI3 := Lib.hid (hI.out.below hb3 hI.out.2.2); have hB3 := Lib.hid (hBw.out.trans (hb3.mono hBw.out.size)); have d0 := hR3.out.1 3 (by decide); have d1 := hI3.out.1 3 (by decide); clear hb3 c0 c1 c2 c3))
        go_roundw
        case rel => exact ⟨3 + 1, by omega, by go_num, hX3, hR3, hI3, hB3⟩
        case measure => simp [intOf]
    · have hk4 : k = 4 := by omega
      subst hk4
      clear hlt hk
      go_wp2_with (go_at_call 8; ((with_reducible refine (known14 _).mono ?_); rintro e3 w3 ⟨rfl, hb3⟩; have hB3 := Lib.hid (hBw.out.trans (hb3.mono hBw.out.size)); clear hb3))
      go_ret
      exact ⟨rfl, hB3.out⟩
/-! ### the frame: written by program -/
theorem own : ownKnob Try.prog.godebug = none := by kernel_rfl
theorem laid : laidOutB Try.prog = true := by kernel_rfl
theorem contract {H : Type} {enc : TypeId × Value → H} {W : World} {base : Nat} {args : Array Value} {ds gs : List (DataW H)} {before : List MemPlace}
    (hval0 : ∀ (j : Nat) t v, Try.f3.params[j]? = some t → args[j]? = some v → Value.okWide Try.prog W .any base t v)
    (hW : DataW.Whole enc Try.prog Try.f3.params.toList Rows.fourPartsSpec.vars false W args.toList ds gs before) :
    Calls Try.prog 3 args W fun e W' => e = .returned (.bool true) ∧ Below W.heap.size W W' := by
  have hval : ∀ (j : Nat) t v, Try.f3.params[j]? = some t → args[j]? = some v → Value.okWide Try.prog W .any base t v := hval0
  obtain ⟨p, q, hA0, hV, rfl, hfz, hnd⟩ := hW
  have hA : DataW.TrodAll enc Try.prog W 0 (fun _ => true) true Try.f3.params.toList args.toList ds p := hA0
  rw [Try.params3] at hA hval
  obtain ⟨v0, vs0, d0, ds0, p0, q0, hargs, rfl, rfl, h0, r0⟩ := trodAll_cons hA
  obtain ⟨rfl, rfl, rfl⟩ := trodAll_nil r0
  obtain rfl : args = #[v0] := by cases args; simp_all
  clear hA0 hval0
  obtain ⟨cs0, rfl, hs0, hf0⟩ := Kit.open_array Try.underlying23 (by kernel_rfl) (by kernel_rfl) (hval 0 23 v0 rfl rfl) h0
  obtain ⟨u0_0, u0_1, u0_2, u0_3, rfl⟩ := Kit.size_4 hs0
  obtain ⟨a0_0, rfl, w0_0⟩ := Kit.flat_int Try.underlying22 (v := u0_0) rfl (hf0 0 (by decide))
  obtain ⟨a0_1, rfl, w0_1⟩ := Kit.flat_int Try.underlying22 (v := u0_1) rfl (hf0 1 (by decide))
  obtain ⟨a0_2, rfl, w0_2⟩ := Kit.flat_int Try.underlying22 (v := u0_2) rfl (hf0 2 (by decide))
  obtain ⟨a0_3, rfl, w0_3⟩ := Kit.flat_int Try.underlying22 (v := u0_3) rfl (hf0 3 (by decide))
  exact walk (w := W) a0_0 w0_0 a0_1 w0_1 a0_2 w0_2 a0_3 w0_3
theorem fnIs {H : Type} : ∀ ds : List (DataW H), ds.length = Try.f3.params.toList.length → Rows.fourPartsSpec.fn H ds = { results := [.lit (.bool true)], args := ds } := by
  intro ds h
  rw [Try.params3] at h
  match ds, h with
  | [d1], _ => rfl
set_option maxRecDepth 100000 in
theorem lifted (os : Os) (started : os.Started) (H : Type) (enc : TypeId × Value → H) :
    ReturnsInHanded {} Try.checked os 3 .any (Rows.fourPartsSpec.pre6 enc Try.prog Try.f3 Rows.fourPartsRow.domain false) (Rows.fourPartsSpec.post enc Try.prog Try.f3 false true false false) := by
  refine returnsInHanded_of_change (C := Try.checked) own started (by kernel_rfl) Try.func3
    (ChangeSpec.witness6 (enc := enc) (C := Try.checked) false ⟨#[], #[.agg #[.int .i16 0, .int .i16 0, .int .i16 0, .int .i16 0]], []⟩ 8 (by kernel_rfl) (by kernel_rfl) (by kernel_rfl) (by kernel_rfl)) ?_
  intro W base args ds gs before hval hW _ _
  refine (contract hval hW).mono fun e W' ⟨he, hg⟩ => ?_
  subst he
  exact ⟨_, rfl, Kit.law_post (tb := 4) laid (by kernel_rfl) rfl (by kernel_rfl) Try.underlying4 fnIs hW hg⟩
theorem over : Rows.fourPartsRow.holds Try.pinned (OpenSpec.ofChange Rows.fourPartsSpec) :=
  OpenClaim.holds_of_wide 3 Try.f3 rfl rfl rfl rfl rfl rfl rfl ⟨rfl, rfl, rfl, rfl, rfl⟩ rfl rfl rfl rfl rfl (by kernel_rfl) Try.func3 (by kernel_rfl)
    (of_decide_eq_true (by kernel_rfl)) (by unfold Func.isWrapper; first | (rw [if_pos (by decide +kernel)]; kernel_rfl) | (rw [if_neg (by decide +kernel)]; exact ⟨rfl, rfl⟩))
    (fun os started H enc _ => lifted os started H enc)
/-- the statement. -/
theorem proved : Rows.FourPartsSaid :=
  over
end Go.Proofs.Ytdohcmjpaepmlaa.lawFourParts
