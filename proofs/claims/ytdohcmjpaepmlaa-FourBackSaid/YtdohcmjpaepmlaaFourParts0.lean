/- Layer 14 (four): the contract of four.Parts. -/
import Derived.Test.YtdohcmjpaepmlaaFourTurn
import Derived.Test.YtdohcmjpaepmlaaFourBack0
import Derived.BigRegion
namespace Go.Proofs.Ytdohcmjpaepmlaa.CFour
open Go Go.ChangeShapes Go.WideShapes Go.ChangeAt Go.RowKit
open FloatNum
set_option linter.unusedVariables false

theorem results_cc {P : Program} {fn : Func} {p q : Tmp} {tp tq : TypeId} (h : fn.results = #[.cell p tp, .cell q tq]) (tmps : Array Value) (w : World) (b o b' o' : Nat) (cs ds : List Value) (d d' : TypeDesc)
    (hp : tmps.getD p undef = .pointer (some ⟨b, o, none⟩)) (hq : tmps.getD q undef = .pointer (some ⟨b', o', none⟩)) (hc : w.rangeAt b o cs) (hd : w.rangeAt b' o' ds)
    (hu : P.underlying tp = some d) (hr : d.isRow = true) (hi : (P.info? tp).map (·.size) = some cs.length) (hu' : P.underlying tq = some d') (hr' : d'.isRow = true) (hi' : (P.info? tq).map (·.size) = some ds.length) :
    (results fn tmps).run P w = .ok (.tuple #[.agg cs.toArray, .agg ds.toArray]) w := by
  have hp' : tmps[p]?.getD undef = .pointer (some ⟨b, o, none⟩) := by simpa using hp
  have hq' : tmps[q]?.getD undef = .pointer (some ⟨b', o', none⟩) := by simpa using hq
  simp [results, h, hp', hq', asAddr, run_loadVar_mid w b o tp cs d hc hu hr hi, run_loadVar_mid w b' o' tq ds d' hd hu' hr' hi']
def ag32 (L : Nat → Int) : Value := .agg #[.int .i32 (L 0), .int .i32 (L 1), .int .i32 (L 2), .int .i32 (L 3)]
def I32R (L : Nat → Int) (k : Nat) (S : Nat → Value) : Prop := ∀ i, i < 4 → S i = .int .i32 (if i < k then L i else 0)
theorem I32R.step {L : Nat → Int} {k : Nat} {S : Nat → Value} (h : I32R L k S) : I32R L (k + 1) (fun i => if i = k then .int .i32 (L k) else S i) := fun i hi => by
  by_cases e : i = k
  · subst e; simp only [if_true]; rw [if_pos (by omega)]
  · simp only [if_neg e]
    rw [h i hi]
    by_cases h1 : i < k
    · rw [if_pos h1, if_pos (by omega)]
    · rw [if_neg h1, if_neg (by omega)]
theorem I32R.all {L : Nat → Int} {S : Nat → Value} (h : I32R L 4 S) {i : Nat} (hi : i < 4) : S i = .int .i32 (L i) := by rw [h i hi, if_pos hi]
/-- the parts of the four sums. -/
def reF (a b c d : Int) (k : Nat) : Int := (gpart (lp a b c d) (-1) k 4).1
def imF (a b c d : Int) (k : Nat) : Int := (gpart (lp a b c d) (-1) k 4).2

set_option maxHeartbeats 4000000 in
theorem parts_to (a b c d : Int) (ha : In16 a) (hb : In16 b) (hc : In16 c) (hd : In16 d) (w : World) :
    Calls Try.prog 6 #[.agg #[.int .i16 a, .int .i16 b, .int .i16 c, .int .i16 d]] w fun e' w' => e' = .returned (.tuple #[ag32 (reF a b c d), ag32 (imF a b c d)]) ∧ Below w.heap.size w w' := by
  have HBD : Hid (∀ k, Bd (4 * 32768) (gpart (lp a b c d) (-1) k 4)) := Lib.hid (fun k => gpart_bd (.inr rfl) (lp_bd ha hb hc hd) k 4)
  have HA := Lib.hid ha
  have HB := Lib.hid hb
  have HC := Lib.hid hc
  have HD := Lib.hid hd
  clear ha hb hc hd
  go_enter Try.func6, Try.ntmps6
  go_wp2_with (go_at_call 10; ((with_reducible refine (of_to a b c d HA.out HB.out HC.out HD.out _).mono ?_); rintro e2 w2 ⟨⟨Y, rfl, hAll⟩, hb2⟩; obtain ⟨hcc, hff⟩ := Kit.bcell hb2))
  have HY := Lib.hid hAll
  clear hAll
  have hR : Four (w.heap.size + 1) (fun _ => .int .i32 0) w2 := by
    have h1 := (Four.new (w.alloc (.cells #[.int .i16 a, .int .i16 b, .int .i16 c, .int .i16 d] 23)) (.int .i32 0) 24).below ((Below.refl _ _).alloc (Nat.le_refl _) (.cells #[.int .i32 0, .int .i32 0, .int .i32 0, .int .i32 0] 24)) (by simp)
    have e1 : (w.alloc (.cells #[.int .i16 a, .int .i16 b, .int .i16 c, .int .i16 d] 23)).heap.size = w.heap.size + 1 := by simp
    rw [e1] at h1
    exact h1.below hb2 (by simp)
  have hF : Four (w.heap.size + 1 + 1) (fun _ => .int .i32 0) w2 := by
    have h1 := (Four.new ((w.alloc (.cells #[.int .i16 a, .int .i16 b, .int .i16 c, .int .i16 d] 23)).alloc (.cells #[.int .i32 0, .int .i32 0, .int .i32 0, .int .i32 0] 24)) (.int .i32 0) 24)
    have e1 : ((w.alloc (.cells #[.int .i16 a, .int .i16 b, .int .i16 c, .int .i16 d] 23)).alloc (.cells #[.int .i32 0, .int .i32 0, .int .i32 0, .int .i32 0] 24)).heap.size = w.heap.size + 1 + 1 := by simp
    rw [e1] at h1
    exact h1.below hb2 (by simp)
  have hBw : Below w.heap.size w w2 := ((((Below.refl _ _).alloc (Nat.le_refl _) _).alloc (by simp) _).alloc (by simp; omega) _).trans (hb2.mono (by simp; omega))
  clear hcc hff hb2
  have HR := Lib.hid hR
  have HF := Lib.hid hF
  have HBw := Lib.hid hBw
  clear hR hF hBw
  go_loopw [8] (fun u wr => ∃ (k : Nat) (S T : Nat → Value), k ≤ 4 ∧ u = .int .i64 k ∧ Hid (I32R (reF a b c d) k S) ∧ Hid (I32R (imF a b c d) k T) ∧ Hid (Four (w.heap.size + 1) S wr) ∧ Hid (Four (w.heap.size + 1 + 1) T wr) ∧ Hid (Below w.heap.size w wr)) (fun u _ => 4 - (intOf u).toNat)
  case atStart => exact ⟨0, fun _ => .int .i32 0, fun _ => .int .i32 0, by omega, rfl, Lib.hid (fun i hi => by rw [if_neg (by omega)]), Lib.hid (fun i hi => by rw [if_neg (by omega)]), HR, HF, HBw⟩
  case round =>
    obtain ⟨k, S, T, hk, rfl, hS, hT, hR, hF, hB1⟩ := hrel
    by_cases hlt : k < 4
    · obtain ⟨x, y, hY, h1, h2⟩ := HY.out k hlt
      have hbd := HBD.out k
      have hi := h1.toInt (Nat.lt_of_le_of_lt hbd.1 (by decide)) .i32 (by have := hbd.1; show (-2147483648 : Int) ≤ _; omega) (by have := hbd.1; show _ ≤ (2147483647 : Int); omega)
      have hj := h2.toInt (Nat.lt_of_le_of_lt hbd.2 (by decide)) .i32 (by have := hbd.2; show (-2147483648 : Int) ≤ _; omega) (by have := hbd.2; show _ ≤ (2147483647 : Int); omega)
      have hcv : ∀ (w : World), (convert 39 21 (.float .f64 x)).run Try.prog w = .ok (.int .i32 (reF a b c d k)) w := fun w => run_convert_float_int w _ _ .f64 .i32 x _ (by kernel_rfl) (by kernel_rfl) hi
      have hcw : ∀ (w : World), (convert 39 21 (.float .f64 y)).run Try.prog w = .ok (.int .i32 (imF a b c d k)) w := fun w => run_convert_float_int w _ _ .f64 .i32 y _ (by kernel_rfl) (by kernel_rfl) hj
      have HS := Lib.hid hS.out.step
      have HT := Lib.hid hT.out.step
      have HG := Lib.hid ((hR.out.set hlt (.int .i32 (reF a b c d k))).other (g' := w.heap.size + 1 + 1) (k := k) (.int .i32 (imF a b c d k)) (by omega))
      have HG2 := Lib.hid ((hF.out.other (g' := w.heap.size + 1) (k := k) (.int .i32 (reF a b c d k)) (by omega)).set hlt (.int .i32 (imF a b c d k)))
      have HB2 := Lib.hid ((hB1.out.setCell (p := ⟨w.heap.size + 1, k, none⟩) (by show w.heap.size ≤ w.heap.size + 1; omega) (.int .i32 (reF a b c d k))).setCell (p := ⟨w.heap.size + 1 + 1, k, none⟩) (by show w.heap.size ≤ w.heap.size + 1 + 1; omega) (.int .i32 (imF a b c d k)))
      clear hi hj h1 h2 hbd
      have x0 := ix0 Y
      have x1 := ix1 Y
      have x2 := ix2 Y
      have x3 := ix3 Y
      have c0 := hR.out.1 0 (by omega)
      have c1 := hR.out.1 1 (by omega)
      have c2 := hR.out.1 2 (by omega)
      have c3 := hR.out.1 3 (by omega)
      have f0 := hR.out.2.1 0 (by omega)
      have f1 := hR.out.2.1 1 (by omega)
      have f2 := hR.out.2.1 2 (by omega)
      have f3 := hR.out.2.1 3 (by omega)
      have d0 := hF.out.1 0 (by omega)
      have d1 := hF.out.1 1 (by omega)
      have d2 := hF.out.1 2 (by omega)
      have d3 := hF.out.1 3 (by omega)
      have e0 := hF.out.2.1 0 (by omega)
      have e1 := hF.out.2.1 1 (by omega)
      have e2 := hF.out.2.1 2 (by omega)
      have e3 := hF.out.2.1 3 (by omega)
      obtain rfl | rfl | rfl | rfl := lt4 hlt
      all_goals
        go_wp2
        go_roundw
        case rel => exact ⟨_, _, _, by omega, by go_num, HS, HT, HG, HG2, HB2⟩
        case measure => simp [intOf]
    · have hk4 : k = 4 := by omega
      subst hk4
      have c0 := hR.out.1 0 (by omega)
      have c1 := hR.out.1 1 (by omega)
      have c2 := hR.out.1 2 (by omega)
      have c3 := hR.out.1 3 (by omega)
      have f0 := hR.out.2.1 0 (by omega)
      have f1 := hR.out.2.1 1 (by omega)
      have f2 := hR.out.2.1 2 (by omega)
      have f3 := hR.out.2.1 3 (by omega)
      have d0 := hF.out.1 0 (by omega)
      have d1 := hF.out.1 1 (by omega)
      have d2 := hF.out.1 2 (by omega)
      have d3 := hF.out.1 3 (by omega)
      have e0 := hF.out.2.1 0 (by omega)
      have e1 := hF.out.2.1 1 (by omega)
      have e2 := hF.out.2.1 2 (by omega)
      have e3 := hF.out.2.1 3 (by omega)
      have s0 := hS.out.all (i := 0) (by omega)
      have t0 := hT.out.all (i := 0) (by omega)
      rw [s0] at c0
      rw [t0] at d0
      have s1 := hS.out.all (i := 1) (by omega)
      have t1 := hT.out.all (i := 1) (by omega)
      rw [s1] at c1
      rw [t1] at d1
      have s2 := hS.out.all (i := 2) (by omega)
      have t2 := hT.out.all (i := 2) (by omega)
      rw [s2] at c2
      rw [t2] at d2
      have s3 := hS.out.all (i := 3) (by omega)
      have t3 := hT.out.all (i := 3) (by omega)
      rw [s3] at c3
      rw [t3] at d3
      clear s0 s1 s2 s3 t0 t1 t2 t3 hlt hk
      generalize hR0 : reF a b c d 0 = r0 at *
      generalize hR1 : reF a b c d 1 = r1 at *
      generalize hR2 : reF a b c d 2 = r2 at *
      generalize hR3 : reF a b c d 3 = r3 at *
      generalize hI0 : imF a b c d 0 = i0 at *
      generalize hI1 : imF a b c d 1 = i1 at *
      generalize hI2 : imF a b c d 2 = i2 at *
      generalize hI3 : imF a b c d 3 = i3 at *
      go_wp2
      go_region
      all_goals
        go_wp2
        refine bodyPost_ret (results_cc rfl _ _ (w.heap.size + 1) 0 (w.heap.size + 1 + 1) 0 [.int .i32 r0, .int .i32 r1, .int .i32 r2, .int .i32 r3] [.int .i32 i0, .int .i32 i1, .int .i32 i2, .int .i32 i3] _ _ rfl rfl (range_4 (by go_cell) (by go_cell) (by go_cell) (by go_cell)) (range_4 (by go_cell) (by go_cell) (by go_cell) (by go_cell)) Try.underlying24 rfl (by kernel_rfl) Try.underlying24 rfl (by kernel_rfl)) rfl ?_
        refine ⟨?_, ?_⟩
        · unfold ag32; rw [hR0, hR1, hR2, hR3, hI0, hI1, hI2, hI3]
        · have := hB1.out
          go_grown
end Go.Proofs.Ytdohcmjpaepmlaa.CFour
