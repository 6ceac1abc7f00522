/- PatchRaw: a row of whatever rows is there just if they have as many numbers as they must; the call returns true and leaves its arguments as they were. No condition. -/
import Derived.Test.YtmboccmagkgffaaPatchKnown
namespace Go.Proofs.Ytmboccmagkgffaa.lawPatchRaw
open Go Go.ChangeShapes Go.WideShapes Go.ChangeAt Go.RowKit
open Plain CSat CShape CTensor CConv CPatch
set_option linter.unusedVariables false

theorem i64_bd' {a : Int} (h : (Lit.int .i64 a).wf = true) : -9223372036854775808 ≤ a ∧ a ≤ 9223372036854775807 := by simpa [Lit.wf, IntKind.min, IntKind.max, IntKind.signed, IntKind.bits] using h
set_option maxRecDepth 100000 in
set_option maxHeartbeats 8000000 in
theorem walk {w : World} (M : Int) (wM : (Lit.int .i64 M).wf = true) (Wd : Int) (wWd : (Lit.int .i64 Wd).wf = true) (A : Option Addr) (zs : List Int) (c : Nat) (hc : zs.length ≤ c) (hm : c ≤ maxLen) (hw : ∀ n ∈ zs, (Lit.int .i16 n).wf = true) (hr : Kit.Rd w w.heap.size A (zs.map (.int .i16))) (i : Int) (wi : (Lit.int .i64 i).wf = true) :
    Calls Try.prog 4 #[.int .i64 M, .int .i64 Wd, .slice A zs.length c, .int .i64 i] w fun e w' => e = .returned (.bool true) ∧ Below w.heap.size w w' := by
  obtain ⟨m1, m2⟩ := i64_bd' wM
  obtain ⟨n, hn⟩ : ∃ n, zs.length = n := ⟨_, rfl⟩
  rw [hn] at hc ⊢
  clear wM wWd wi hw
  by_cases hl : 1024 < n
  · go_enter Try.func4, Try.ntmps4
    go_wp2_with (go_at_call 7; (refine (known11 _).mono ?_); rintro e w' ⟨rfl, hb⟩)
    go_ret
    exact ⟨rfl, hb⟩
  · cases hrb : rowB M Wd n i
    · have HRB := Lib.hid hrb
      have HNO : Hid (∀ w : World, Calls Try.prog 11 #[.agg #[.int .i64 M, .int .i64 Wd, .slice A n c], .int .i64 i] w fun e w' => e = .returned (.slice none 0 0) ∧ Below w.heap.size w w') := Lib.hid (fun w => row_no M Wd A n c i m1 m2 hrb w)
      have hcs : M < 0 ∨ (0 ≤ M ∧ Wd < 0) ∨ (0 ≤ M ∧ 0 ≤ Wd ∧ 1048576 < M) ∨ (0 ≤ M ∧ 0 ≤ Wd ∧ M ≤ 1048576 ∧ 1048576 < Wd) ∨ (0 ≤ M ∧ 0 ≤ Wd ∧ M ≤ 1048576 ∧ Wd ≤ 1048576 ∧ (n : Int) ≠ M * Wd) ∨ (0 ≤ M ∧ 0 ≤ Wd ∧ M ≤ 1048576 ∧ Wd ≤ 1048576 ∧ (n : Int) = M * Wd ∧ i < 0) ∨ (0 ≤ M ∧ 0 ≤ Wd ∧ M ≤ 1048576 ∧ Wd ≤ 1048576 ∧ (n : Int) = M * Wd ∧ 0 ≤ i ∧ M ≤ i) := by
        simp only [rowB, decide_eq_false_iff_not] at hrb
        by_cases e : (n : Int) = M * Wd
        · omega
        · omega
      clear hrb hr
      rcases hcs with h1 | ⟨h1, h2⟩ | ⟨h1, h2, h3⟩ | ⟨h1, h2, h3, h4⟩ | ⟨h1, h2, h3, h4, h5⟩ | ⟨h1, h2, h3, h4, h5, h6⟩ | ⟨h1, h2, h3, h4, h5, h6, h7⟩
      · go_enter Try.func4, Try.ntmps4
        go_wp2_with fail
        go_at_call 11
        refine (HNO.out _).mono ?_
        rintro e w1 ⟨rfl, hb1⟩
        have HB := Lib.hid hb1
        clear hb1
        go_wp2_with (go_at_call 7; (refine (known11 _).mono ?_); rintro e w2 ⟨rfl, hb2⟩; (replace HB := Lib.hid (HB.out.trans (hb2.mono HB.out.size))); clear hb2)
        go_ret
        exact ⟨rfl, HB.out⟩
      · go_enter Try.func4, Try.ntmps4
        go_wp2_with fail
        go_at_call 11
        refine (HNO.out _).mono ?_
        rintro e w1 ⟨rfl, hb1⟩
        have HB := Lib.hid hb1
        clear hb1
        go_wp2_with (go_at_call 7; (refine (known11 _).mono ?_); rintro e w2 ⟨rfl, hb2⟩; (replace HB := Lib.hid (HB.out.trans (hb2.mono HB.out.size))); clear hb2)
        go_ret
        exact ⟨rfl, HB.out⟩
      · go_enter Try.func4, Try.ntmps4
        go_wp2_with fail
        go_at_call 11
        refine (HNO.out _).mono ?_
        rintro e w1 ⟨rfl, hb1⟩
        have HB := Lib.hid hb1
        clear hb1
        go_wp2_with (go_at_call 7; (refine (known11 _).mono ?_); rintro e w2 ⟨rfl, hb2⟩; (replace HB := Lib.hid (HB.out.trans (hb2.mono HB.out.size))); clear hb2)
        go_ret
        exact ⟨rfl, HB.out⟩
      · go_enter Try.func4, Try.ntmps4
        go_wp2_with fail
        go_at_call 11
        refine (HNO.out _).mono ?_
        rintro e w1 ⟨rfl, hb1⟩
        have HB := Lib.hid hb1
        clear hb1
        go_wp2_with (go_at_call 7; (refine (known11 _).mono ?_); rintro e w2 ⟨rfl, hb2⟩; (replace HB := Lib.hid (HB.out.trans (hb2.mono HB.out.size))); clear hb2)
        go_ret
        exact ⟨rfl, HB.out⟩
      · have ⟨a5, a6⟩ := row_mul h1 h3 h2 h4
        obtain ⟨p, hp⟩ : ∃ p, M * Wd = p := ⟨_, rfl⟩
        have e1 : IntKind.i64.wrap (M * Wd) = p := by rw [IntWalk.i64_in _ (by omega)]; exact hp
        rw [hp] at h5
        have h9 : (p == (n : Int)) = false := by simp; omega
        clear a5 a6 hp h5
        go_enter Try.func4, Try.ntmps4
        go_wp2_with fail
        go_at_call 11
        refine (HNO.out _).mono ?_
        rintro e w1 ⟨rfl, hb1⟩
        have HB := Lib.hid hb1
        clear hb1
        go_wp2_with (go_at_call 7; (refine (known11 _).mono ?_); rintro e w2 ⟨rfl, hb2⟩; (replace HB := Lib.hid (HB.out.trans (hb2.mono HB.out.size))); clear hb2)
        go_ret
        exact ⟨rfl, HB.out⟩
      · have ⟨a5, a6⟩ := row_mul h1 h3 h2 h4
        have e1 : IntKind.i64.wrap (M * Wd) = (n : Int) := by rw [IntWalk.i64_in _ (by omega)]; exact h5.symm
        clear a5 a6 h5
        go_enter Try.func4, Try.ntmps4
        go_wp2_with fail
        go_at_call 11
        refine (HNO.out _).mono ?_
        rintro e w1 ⟨rfl, hb1⟩
        have HB := Lib.hid hb1
        clear hb1
        go_wp2_with (go_at_call 7; (refine (known11 _).mono ?_); rintro e w2 ⟨rfl, hb2⟩; (replace HB := Lib.hid (HB.out.trans (hb2.mono HB.out.size))); clear hb2)
        go_ret
        exact ⟨rfl, HB.out⟩
      · have ⟨a5, a6⟩ := row_mul h1 h3 h2 h4
        have e1 : IntKind.i64.wrap (M * Wd) = (n : Int) := by rw [IntWalk.i64_in _ (by omega)]; exact h5.symm
        clear a5 a6 h5
        go_enter Try.func4, Try.ntmps4
        go_wp2_with fail
        go_at_call 11
        refine (HNO.out _).mono ?_
        rintro e w1 ⟨rfl, hb1⟩
        have HB := Lib.hid hb1
        clear hb1
        go_wp2_with (go_at_call 7; (refine (known11 _).mono ?_); rintro e w2 ⟨rfl, hb2⟩; (replace HB := Lib.hid (HB.out.trans (hb2.mono HB.out.size))); clear hb2)
        go_ret
        exact ⟨rfl, HB.out⟩
    · have ⟨h1, h2, h3, h4, h5, h6, h7⟩ : 0 ≤ M ∧ M ≤ 1048576 ∧ 0 ≤ Wd ∧ Wd ≤ 1048576 ∧ (n : Int) = M * Wd ∧ 0 ≤ i ∧ i ≤ M - 1 := by simpa [rowB] using hrb
      obtain ⟨m, rfl⟩ := Int.eq_ofNat_of_zero_le h1
      obtain ⟨k, rfl⟩ := Int.eq_ofNat_of_zero_le h3
      obtain ⟨j, rfl⟩ := Int.eq_ofNat_of_zero_le h6
      have hmk : n = m * k := by have := h5; rw [← Int.natCast_mul] at this; exact Int.ofNat.inj this
      have e1 : IntKind.i64.wrap ((m : Int) * (k : Int)) = (n : Int) := by rw [← Int.natCast_mul, ← hmk]; exact IntWalk.i64_in _ (by omega)
      obtain ⟨p1, hp1⟩ : ∃ p, j * k = p := ⟨_, rfl⟩
      obtain ⟨p2, hp2⟩ : ∃ p, p1 + k = p := ⟨_, rfl⟩
      have hp2n : p2 ≤ n := by rw [hmk, ← hp2, ← hp1]; have := Nat.mul_le_mul_right k (show j + 1 ≤ m by omega); rwa [Nat.add_mul, Nat.one_mul] at this
      obtain ⟨j', hj'⟩ : ∃ j', j + 1 = j' := ⟨_, rfl⟩
      have f1 : IntKind.i64.wrap ((j : Int) * (k : Int)) = (p1 : Int) := by rw [← Int.natCast_mul, hp1]; exact IntWalk.i64_in _ (by omega)
      have f2 : IntKind.i64.wrap ((j : Int) + 1) = (j' : Int) := by rw [IntWalk.i64_in _ (by omega)]; omega
      have f3 : IntKind.i64.wrap ((j' : Int) * (k : Int)) = (p2 : Int) := by rw [← Int.natCast_mul, ← hj', Nat.add_mul, Nat.one_mul, hp1, hp2]; exact IntWalk.i64_in _ (by omega)
      have hcm : c ≤ 9223372036854775807 := by unfold maxLen at hm; omega
      have s1 : (0 : Int) ≤ (p1 : Int) := by omega
      have s2 : (p1 : Int) ≤ (p2 : Int) := by omega
      have s3 : (p2 : Int) ≤ (c : Int) := by omega
      have sA : p2 - p1 = k := by omega
      have hlen : ((zs.drop p1).take k).length = k := by simp; omega
      have hkn : k ≤ 1024 := by omega
      have HY : Hid (∀ w : World, Kit.Rd w w.heap.size A (zs.map (.int .i16)) → Calls Try.prog 11 #[.agg #[.int .i64 (m : Int), .int .i64 (k : Int), .slice A n c], .int .i64 (j : Int)] w (OwnedR w k (I16v ((zs.drop p1).take k)))) := Lib.hid (fun w h => by
        rw [← hp1]
        exact row_yes m k A zs n c j hn hc hm (by omega) (by omega) hmk (by omega) (by omega) w h)
      have HCUT : Hid (Kit.Rd w w.heap.size (if c = p1 then A else A.map (·.add p1)) (((zs.drop p1).take k).map (.int .i16))) := Lib.hid (by
        rw [List.map_take, List.map_drop]
        exact (hr.cut (k := p1) (c := c) (by simp; omega)).take k)
      obtain ⟨L, hL⟩ : ∃ L, (zs.drop p1).take k = L := ⟨_, rfl⟩
      rw [hL] at HY HCUT hlen
      have HLEN := Lib.hid hlen
      have HR := Lib.hid hr
      have hjm : (j : Int) < (m : Int) := by omega
      clear hr hlen hp1 hp2 hj' hmk h5 hn hrb hL
      by_cases hcp : c = p1
      · have hc2 := HCUT.out
        rw [if_pos hcp] at hc2
        have HC2 := Lib.hid hc2
        subst hcp
        clear hc2 HCUT
        go_enter Try.func4, Try.ntmps4
        go_wp2_with fail
        go_at_call 11
        refine (HY.out _ HR.out).mono ?_
        rintro e w1 ⟨v1, rfl, ho1, hb1⟩
        obtain ⟨A1, c1, rfl, -, -, hrd⟩ := Kit.own_rd ho1
        have RA := Lib.hid hrd
        replace HC2 := Lib.hid (HC2.out.below hb1)
        have HB := Lib.hid hb1
        clear ho1 hb1 hrd HR HY
        go_wp2_with fail
        go_at_call 10
        refine (quiet_below (same16_yes A1 _ L k c1 _ HLEN.out (by omega) _ RA.out HC2.out)).mono ?_
        rintro e w2 ⟨rfl, hb2⟩
        replace HB := Lib.hid (HB.out.trans (hb2.mono HB.out.size))
        clear hb2
        go_wp2_with (go_at_call 7; (refine (known11 _).mono ?_); rintro e w3 ⟨rfl, hb3⟩; (replace HB := Lib.hid (HB.out.trans (hb3.mono HB.out.size))); clear hb3)
        go_ret
        exact ⟨rfl, HB.out⟩
      · have hc2 := HCUT.out
        rw [if_neg hcp] at hc2
        have HC2 := Lib.hid hc2
        clear hc2 HCUT
        go_enter Try.func4, Try.ntmps4
        go_wp2_with fail
        go_at_call 11
        refine (HY.out _ HR.out).mono ?_
        rintro e w1 ⟨v1, rfl, ho1, hb1⟩
        obtain ⟨A1, c1, rfl, -, -, hrd⟩ := Kit.own_rd ho1
        have RA := Lib.hid hrd
        replace HC2 := Lib.hid (HC2.out.below hb1)
        have HB := Lib.hid hb1
        clear ho1 hb1 hrd HR HY
        go_wp2_with fail
        go_at_call 10
        refine (quiet_below (same16_yes A1 _ L k c1 _ HLEN.out (by omega) _ RA.out HC2.out)).mono ?_
        rintro e w2 ⟨rfl, hb2⟩
        replace HB := Lib.hid (HB.out.trans (hb2.mono HB.out.size))
        clear hb2
        go_wp2_with (go_at_call 7; (refine (known11 _).mono ?_); rintro e w3 ⟨rfl, hb3⟩; (replace HB := Lib.hid (HB.out.trans (hb3.mono HB.out.size))); clear hb3)
        go_ret
        exact ⟨rfl, HB.out⟩
/-! ### the frame: written by program -/
theorem own : ownKnob Try.prog.godebug = none := by kernel_rfl
theorem laid : laidOutB Try.prog = true := by kernel_rfl
theorem contract {H : Type} {enc : TypeId × Value → H} {W : World} {base : Nat} {args : Array Value} {ds gs : List (DataW H)} {before : List MemPlace}
    (hval0 : ∀ (j : Nat) t v, Try.f4.params[j]? = some t → args[j]? = some v → Value.okWide Try.prog W .any base t v)
    (hW : DataW.Whole enc Try.prog Try.f4.params.toList Rows.patchRawSpec.vars false W args.toList ds gs before) :
    Calls Try.prog 4 args W fun e W' => e = .returned (.bool true) ∧ Below W.heap.size W W' := by
  have hval : ∀ (j : Nat) t v, Try.f4.params[j]? = some t → args[j]? = some v → Value.okWide Try.prog W .any base t v := hval0
  obtain ⟨p, q, hA0, hV, rfl, hfz, hnd⟩ := hW
  have hA : DataW.TrodAll enc Try.prog W 0 (fun _ => true) true Try.f4.params.toList args.toList ds p := hA0
  rw [Try.params4] at hA hval
  obtain ⟨v0, vs0, d0, ds0, p0, q0, hargs, rfl, rfl, h0, r0⟩ := trodAll_cons hA
  obtain ⟨v1, vs1, d1, ds1, p1, q1, rfl, rfl, rfl, h1, r1⟩ := trodAll_cons r0
  obtain ⟨v2, vs2, d2, ds2, p2, q2, rfl, rfl, rfl, h2, r2⟩ := trodAll_cons r1
  obtain ⟨v3, vs3, d3, ds3, p3, q3, rfl, rfl, rfl, h3, r3⟩ := trodAll_cons r2
  obtain ⟨rfl, rfl, rfl⟩ := trodAll_nil r3
  obtain rfl : args = #[v0, v1, v2, v3] := by cases args; simp_all
  clear hA0 hval0
  obtain ⟨a0, rfl, rfl, rfl, w0⟩ := open_int Try.underlying3 (hval 0 3 v0 rfl rfl) h0
  obtain ⟨a1, rfl, rfl, rfl, w1⟩ := open_int Try.underlying3 (hval 1 3 v1 rfl rfl) h1
  obtain ⟨A2, z2, c2, rfl, hc2, hm2, hw2, hr2⟩ := Kit.open_islice Try.underlying34 Try.underlying56 (by kernel_rfl) (hval 2 34 v2 rfl rfl) h2
  obtain ⟨a3, rfl, rfl, rfl, w3⟩ := open_int Try.underlying3 (hval 3 3 v3 rfl rfl) h3
  exact walk (w := W) a0 w0 a1 w1 A2 z2 c2 hc2 hm2 hw2 hr2 a3 w3
theorem fnIs {H : Type} : ∀ ds : List (DataW H), ds.length = Try.f4.params.toList.length → Rows.patchRawSpec.fn H ds = { results := [.lit (.bool true)], args := ds } := by
  intro ds h
  rw [Try.params4] at h
  match ds, h with
  | [d1, d2, d3, d4], _ => rfl
set_option maxRecDepth 100000 in
theorem lifted (os : Os) (started : os.Started) (H : Type) (enc : TypeId × Value → H) :
    ReturnsInHanded {} Try.checked os 4 .any (Rows.patchRawSpec.pre6 enc Try.prog Try.f4 Rows.patchRawRow.domain false) (Rows.patchRawSpec.post enc Try.prog Try.f4 false true false false) := by
  refine returnsInHanded_of_change (C := Try.checked) own started (by kernel_rfl) Try.func4
    (ChangeSpec.witness6 (enc := enc) (C := Try.checked) false ⟨#[], #[.int .i64 0, .int .i64 0, .slice none 0 0, .int .i64 0], []⟩ 8 (by kernel_rfl) (by kernel_rfl) (by kernel_rfl) (by kernel_rfl)) ?_
  intro W base args ds gs before hval hW _ _
  refine (contract hval hW).mono fun e W' ⟨he, hg⟩ => ?_
  subst he
  exact ⟨_, rfl, Kit.law_post (tb := 4) laid (by kernel_rfl) rfl (by kernel_rfl) Try.underlying4 fnIs hW hg⟩
theorem over : Rows.patchRawRow.holds Try.pinned (OpenSpec.ofChange Rows.patchRawSpec) :=
  OpenClaim.holds_of_wide 4 Try.f4 rfl rfl rfl rfl rfl rfl rfl ⟨rfl, rfl, rfl, rfl, rfl⟩ rfl rfl rfl rfl rfl (by kernel_rfl) Try.func4 (by kernel_rfl)
    (of_decide_eq_true (by kernel_rfl)) (by unfold Func.isWrapper; first | (rw [if_pos (by decide +kernel)]; kernel_rfl) | (rw [if_neg (by decide +kernel)]; exact ⟨rfl, rfl⟩))
    (fun os started H enc _ => lifted os started H enc)
/-- the statement. -/
theorem proved : Rows.PatchRawSaid :=
  over
end Go.Proofs.Ytmboccmagkgffaa.lawPatchRaw
