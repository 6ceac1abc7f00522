/- TensorAt: any place of any tensor has the number that the document says, and with another one it has that, and all else stays; the call returns true and leaves its arguments as they were. No condition. -/
import Derived.Test.YtikendjjolpnoaaTensorWith
import Derived.Test.YtikendjjolpnoaaTensorKnown
import Derived.Test.YtikendjjolpnoaaTensorSame
import Derived.Test.YtikendjjolpnoaaShapeRefTwo
import Derived.Test.YtikendjjolpnoaaOpenTensor
namespace Go.Proofs.Ytikendjjolpnoaa.lawTensorAt
open Go Go.ChangeShapes Go.WideShapes Go.ChangeAt Go.RowKit
open Plain CSat CShape CTensor
set_option linter.unusedVariables false

set_option maxHeartbeats 2000000 in
theorem walk_no {w : World} (H W C : Int) (A : Option Addr) (n k : Nat) (hl : n ≤ 2000) (h v c x : Int) (hP : placeB H W C n h v c = false) :
    Calls Try.prog 4 #[.agg #[.int .i64 H, .int .i64 W, .int .i64 C, .slice A n k], .agg #[.int .i64 h, .int .i64 v, .int .i64 c], .int .i8 x] w fun e w' => e = .returned (.bool true) ∧ Below w.heap.size w w' := by
  obtain ⟨r, hr⟩ : ∃ r, indexZ H W C h v c (-1) = r := ⟨_, rfl⟩
  have HR := Lib.hid hr
  have HP := Lib.hid hP
  have hlI : (n : Int) ≤ 2000 := by omega
  have hcase : tensB H W C n = false ∨ (tensB H W C n = true ∧ r < 0) := by
    cases ht : tensB H W C n
    · exact .inl rfl
    · refine .inr ⟨rfl, ?_⟩
      have hi : inB H W C h v c = false := by simpa [placeB, ht] using hP
      rw [indexZ_no hi] at hr
      omega
  clear hr hP
  have H0 := Lib.hid (Below.refl w.heap.size w)
  rcases hcase with ht | ⟨ht, hr0⟩
  all_goals
    have HT := Lib.hid ht
    clear ht
    go_enter Try.func4, Try.ntmps4
    go_wp2_with (first
      | (go_at_call 18; ((with_reducible refine (at_no H W C A n k h v c HP.out _).mono ?_); (rintro e w1 ⟨rfl, hb1⟩; obtain ⟨hc1, hf1⟩ := Kit.bcell hb1; have z1 : w.heap.size + 1 < w1.heap.size := (by have := hb1.size; simp at this; omega); have z2 : w.heap.size < w1.heap.size := (by omega); have HB1 := Lib.hid (show Below w.heap.size w w1 from Below.trans (by go_grown) (hb1.mono (by simp; omega))); clear hb1)))
      | (go_at_call 19; ((with_reducible refine (with_no H W C A n k h v c x HP.out _).mono ?_); (rintro e w2 ⟨rfl, hb2⟩; obtain ⟨hc2, hf2⟩ := Kit.bcell hb2; have z3 : w.heap.size + 1 < w2.heap.size := (by have := hb2.size; omega); have z4 : w.heap.size < w2.heap.size := (by omega); have HB2 := Lib.hid (HB1.out.trans (hb2.mono (by omega))); clear hb2)))
      | (go_at_call 20; ((with_reducible refine (refIndex_to H W C h v c r HR.out _).mono ?_); (rintro e w3 ⟨rfl, hb3⟩; obtain ⟨hc3, hf3⟩ := Kit.bcell hb3; have z5 : w2.heap.size < w3.heap.size := (by have := hb3.size; simp at this; omega); have z6 : w.heap.size < w3.heap.size := (by omega); have z7 : w.heap.size + 1 < w3.heap.size := (by omega); have HB3 := Lib.hid ((HB2.out.alloc (by omega) _).trans (hb3.mono (by simp; omega))); clear hb3)))
      | (go_at_call 10; ((with_reducible refine (refRight_to H W C A n k _ HT.out _).mono ?_); (rintro e w4 ⟨rfl, hb4⟩; obtain ⟨hc4, hf4⟩ := Kit.bcell hb4; have HB4 := Lib.hid (HB3.out.trans (hb4.mono (by omega))); have z8 : w3.heap.size ≤ w4.heap.size := hb4.size; clear hb4)))
      | (go_at_call 16; ((with_reducible refine (refSame_0 0 0 _).mono ?_); (rintro e w5 ⟨rfl, hb5⟩; have HB5 := Lib.hid (HB4.out.trans (hb5.mono (by omega))); have z9 : w4.heap.size ≤ w5.heap.size := hb5.size; clear hb5)))
      | (go_at_call 9; ((refine (known05 _).mono ?_); (rintro e w6 ⟨rfl, hb6⟩; have HB6 := Lib.hid (HB5.out.trans (hb6.mono (by omega))); clear hb6))))
    go_ret
    exact ⟨rfl, HB6.out⟩

theorem set_same {zs : List Int} {p : Nat} {x0 x : Int} (hx : zs[p]? = some x0) : decide (zs = zs.set p x) = (x0 == x) := by
  obtain ⟨hp, hx⟩ := List.getElem?_eq_some_iff.1 hx
  by_cases h : x0 = x
  · subst h
    subst hx
    simp
  · have hne : ¬ zs = zs.set p x := fun e => by
      have e2 := congrArg (fun l : List Int => l[p]?) e
      simp [hp] at e2
      omega
    simp [hne, h]
set_option maxHeartbeats 4000000 in
theorem walk_yes {w : World} (H W C : Int) (A : Option Addr) (zs : List Int) (n k : Nat) (hn : zs.length = n) (hk : n ≤ k) (hl : n ≤ 2000) (hr : Kit.Rd w w.heap.size A (zs.map (.int .i8))) (h v c x : Int) (hP : placeB H W C n h v c = true) :
    Calls Try.prog 4 #[.agg #[.int .i64 H, .int .i64 W, .int .i64 C, .slice A n k], .agg #[.int .i64 h, .int .i64 v, .int .i64 c], .int .i8 x] w fun e w' => e = .returned (.bool true) ∧ Below w.heap.size w w' := by
  have hP2 := hP
  simp only [placeB, Bool.and_eq_true] at hP2
  obtain ⟨ht, hi⟩ := hP2
  have hi2 := hi
  simp only [inB, Bool.and_eq_true, decide_eq_true_eq] at hi2
  obtain ⟨hs, h1, h2, h3, h4, h5, h6⟩ := hi2
  obtain ⟨b1, b2, b3, b4, b5⟩ := at_bd hs h1 h2 h3 h4 h5 h6
  have hnn : (n : Int) = H * W * C := by simpa [tensB, hs] using ht
  obtain ⟨p, hp⟩ : ∃ p : Nat, (h * W + v) * C + c = p := ⟨((h * W + v) * C + c).toNat, by omega⟩
  have hpn : p < n := by omega
  have hix : indexZ H W C h v c (-1) = (p : Int) := by rw [indexZ_yes hi, hp]
  have hk9 : n ≤ 1000000 := by omega
  have hlI : (n : Int) ≤ 2000 := by omega
  have hpI : (p : Int) < (n : Int) := by omega
  have hpI0 : (0 : Int) ≤ (p : Int) := by omega
  obtain ⟨b, off, rfl, hbw, hcz⟩ := hr.ints (j := p) (by omega)
  obtain ⟨x0, hx0⟩ : ∃ x0, zs[p]? = some x0 := ⟨_, List.getElem?_eq_getElem (by omega)⟩
  have hcz0 : w.cell? ⟨b, off + p, none⟩ = some (.int .i8 x0) := by
    rw [hcz, ← (Option.some.inj ((List.getElem?_eq_getElem (by omega)).symm.trans hx0))]
  have HX := Lib.hid hx0
  have HSX := Lib.hid (set_same (x := x) hx0)
  have HSS := Lib.hid (show decide (zs = zs) = true by simp)
  have HN := Lib.hid hn
  have HN2 := Lib.hid (show (zs.set p x).length = n by simp [hn])
  have HP := Lib.hid hP
  have HPP := Lib.hid hp
  have HT := Lib.hid ht
  have HIX := Lib.hid hix
  have HRt := Lib.hid hr
  have HCZ := Lib.hid hcz0
  have HE := eqShape H W C H W C
  have hg := Try.eqGuardType23
  clear hcz hcz0 hx0 hn hP hp ht hix hr hi hs h1 h2 h3 h4 h5 h6 b1 b2 b3 b4 b5 hnn
  go_enter Try.func4, Try.ntmps4
  go_wp2_with (first
      | (go_at_call 18; ((refine (at_yes H W C _ zs n k HN.out hk hk9 h v c p HP.out HPP.out x0 HX.out (B := w.heap.size) _ (by first | (simp; done) | (simp; omega)) ((HRt.out.alloc (Nat.le_refl _) _).alloc (by simp) _)).mono ?_); (rintro e w1 ⟨rfl, hb1⟩; obtain ⟨hc1, hf1⟩ := Kit.bcell hb1; have z1 : w.heap.size + 1 < w1.heap.size := (by have := hb1.size; simp at this; omega); have z2 : w.heap.size < w1.heap.size := (by omega); have HB1 := Lib.hid (show Below w.heap.size w w1 from Below.trans (by go_grown) (hb1.mono (by simp; omega))); clear hb1)))
      | (go_at_call 19; ((refine (with_yes H W C _ zs n k HN.out hk9 h v c x p HP.out HPP.out hpn (B := w.heap.size) _ (by omega) (HRt.out.below HB1.out)).mono ?_); (rintro e w2 ⟨v2, rfl, ho2, hb2⟩; obtain ⟨A2, c2, rfl, hnc2, hcm2, hru⟩ := Kit.own_rd ho2; have HRU := Lib.hid hru; obtain ⟨hc2, hf2⟩ := Kit.bcell hb2; have z3 : w.heap.size + 1 < w2.heap.size := (by have := hb2.size; omega); have z4 : w.heap.size < w2.heap.size := (by omega); have HB2 := Lib.hid (HB1.out.trans (hb2.mono (by omega))); clear hb2 hru ho2)))
      | (go_at_call 20; ((with_reducible refine (refIndex_to H W C h v c _ HIX.out _).mono ?_); (rintro e w3 ⟨rfl, hb3⟩; obtain ⟨hc3, hf3⟩ := Kit.bcell hb3; have z5 : w2.heap.size < w3.heap.size := (by have := hb3.size; simp at this; omega); have z6 : w.heap.size < w3.heap.size := (by omega); have z7 : w.heap.size + 1 < w3.heap.size := (by omega); have HB3 := Lib.hid ((HB2.out.alloc (by omega) _).trans (hb3.mono (by simp; omega))); have HU3 := Lib.hid (Below.trans (show Below w2.heap.size w2 _ from by go_grown) (hb3.mono (by simp))); clear hb3)))
      | (go_at_call 10; ((with_reducible refine (refRight_to H W C _ n k _ HT.out _).mono ?_); (rintro e w4 ⟨rfl, hb4⟩; obtain ⟨hc4, hf4⟩ := Kit.bcell hb4; have HB4 := Lib.hid (HB3.out.trans (hb4.mono (by omega))); have HU4 := Lib.hid (HU3.out.trans (hb4.mono (by omega))); have z8 : w3.heap.size ≤ w4.heap.size := hb4.size; have z81 : w.heap.size < w4.heap.size := (by omega); have z82 : w2.heap.size < w4.heap.size := (by omega); have z83 : w.heap.size + 1 < w4.heap.size := (by omega); have hce : w4.cell? ⟨b, off + p, none⟩ = some (.int .i8 x0) := (HB4.out.cell (p := ⟨b, off + p, none⟩) hbw).trans HCZ.out; clear hb4)))
      | (go_at_call 21; ((refine (same_to H W C _ _ zs zs n k k HN.out HN.out hk9 true (decide_eq_true rfl) _ (B1 := w.heap.size) (B2 := w.heap.size) (by omega) (by omega) (HRt.out.below HB4.out) (HRt.out.below HB4.out)).mono ?_); (rintro e w5 ⟨rfl, hb5⟩; obtain ⟨hc5, hf5⟩ := Kit.bcell hb5; have HB5 := Lib.hid (HB4.out.trans (hb5.mono (by omega))); have HU5 := Lib.hid (HU4.out.trans (hb5.mono (by omega))); have z9 : w4.heap.size ≤ w5.heap.size := hb5.size; have z91 : w.heap.size < w5.heap.size := (by omega); have z92 : w2.heap.size < w5.heap.size := (by omega); clear hb5))))
  go_loopw [12] (fun i wr => ∃ q nq : Nat, q ≤ n ∧ i = .int .i64 q ∧ Hid (wr = w5.drewN nq)) (fun i _ => n - (intOf i).toNat)
  case atStart => exact ⟨0, 0, Nat.zero_le _, rfl, Lib.hid rfl⟩
  case round =>
    obtain ⟨q, nq, hq, rfl, hwr⟩ := hrel
    obtain rfl := hwr.out
    clear hwr
    by_cases hlt : q < n
    · have hqz : q < zs.length := by have := HN.out; omega
      have hqs : q < (zs.set p x).length := by have := HN2.out; omega
      obtain ⟨b', off', hA, _, hct⟩ := (HRt.out.below HB5.out).ints (j := q) hqz
      cases hA
      obtain ⟨g, goff, rfl, _, hcu⟩ := Kit.Rd.ints (k := .i8) (HRU.out.below HU5.out) (j := q) hqs
      rw [List.getElem_set] at hcu
      have h0 : (0 : Int) ≤ (q : Int) := by omega
      have h1 : (q : Int) < (n : Int) := by omega
      by_cases hqp : p = q
      · rw [if_pos hqp] at hcu
        subst hqp
        generalize zs[p] = y at hct
        go_wp2_with fail
        go_quiet (fail)
        go_wp2
        go_roundw
        case rel => exact ⟨p + 1, _, by omega, by go_num, Lib.hid rfl⟩
        case measure => simp [intOf]; omega
      · rw [if_neg hqp] at hcu
        generalize zs[q] = y at hct hcu
        have e1 : ((q : Int) == (p : Int)) = false := by simp; omega
        have e2 : ((q : Int) != (p : Int)) = true := by simp; omega
        go_wp2_with fail
        go_quiet (fail)
        go_wp2
        go_roundw
        case rel => exact ⟨q + 1, _, by omega, by go_num, Lib.hid rfl⟩
        case measure => simp [intOf]; omega
    · have hge : ¬ (q : Int) < (n : Int) := by omega
      go_wp2_with (first
        | (go_at_call 21; ((refine (same_to H W C _ _ zs (zs.set p x) n k c2 HN.out HN2.out hk9 (x0 == x) HSX.out _ (B1 := w.heap.size) (B2 := w2.heap.size) (by simp; omega) (by simp; omega) (HRt.out.below (Kit.below_drewN HB5.out nq)) (HRU.out.below (Kit.below_drewN HU5.out nq))).mono ?_); (rintro e w7 ⟨rfl, hb7⟩; have HB7 := Lib.hid ((Kit.below_drewN HB5.out nq).trans (hb7.mono (by simp; omega))); clear hb7)))
        | (go_at_call 9; ((refine (known05 _).mono ?_); (rintro e w8 ⟨rfl, hb8⟩; have HB8 := Lib.hid (HB7.out.trans (hb8.mono HB7.out.size)); clear hb8))))
      go_ret
      exact ⟨rfl, HB8.out⟩

theorem walk {w : World} (H : Int) (wH : (Lit.int .i64 H).wf = true) (W : Int) (wW : (Lit.int .i64 W).wf = true) (C : Int) (wC : (Lit.int .i64 C).wf = true) (A : Option Addr) (zs : List Int) (k : Nat) (hk : zs.length ≤ k) (hm : k ≤ maxLen) (hw : ∀ n ∈ zs, (Lit.int .i8 n).wf = true) (hr : Kit.Rd w w.heap.size A (zs.map (.int .i8)))
    (h : Int) (wh : (Lit.int .i64 h).wf = true) (v : Int) (wv : (Lit.int .i64 v).wf = true) (c : Int) (wc : (Lit.int .i64 c).wf = true) (x : Int) (wx : (Lit.int .i8 x).wf = true) :
    Calls Try.prog 4 #[.agg #[.int .i64 H, .int .i64 W, .int .i64 C, .slice A zs.length k], .agg #[.int .i64 h, .int .i64 v, .int .i64 c], .int .i8 x] w fun e w' => e = .returned (.bool true) ∧ Below w.heap.size w w' := by
  unfold maxLen at hm
  by_cases hl : 2000 < zs.length
  · clear hw hr wH wW wC wh wv wc wx
    go_enter Try.func4, Try.ntmps4
    go_wp2_with (go_at_call 9; refine (known05 _).mono ?_; rintro e w' ⟨rfl, hb⟩)
    go_ret
    exact ⟨rfl, (((Below.refl _ _).alloc (Nat.le_refl _) _).alloc (by simp) _).trans (hb.mono (by simp; omega))⟩
  have hb : zs.length ≤ 2000 := by omega
  obtain ⟨n, hn⟩ : ∃ n, zs.length = n := ⟨_, rfl⟩
  rw [hn] at hb hk ⊢
  cases hP : placeB H W C n h v c
  · exact walk_no H W C A n k hb h v c x hP
  · exact walk_yes H W C A zs n k hn hk hb hr h v c x hP
/-! ### the frame: written by program -/
theorem own : ownKnob Try.prog.godebug = none := by kernel_rfl
theorem laid : laidOutB Try.prog = true := by kernel_rfl
theorem contract {H : Type} {enc : TypeId × Value → H} {W : World} {base : Nat} {args : Array Value} {ds gs : List (DataW H)} {before : List MemPlace}
    (hval0 : ∀ (j : Nat) t v, Try.f4.params[j]? = some t → args[j]? = some v → Value.okWide Try.prog W .any base t v)
    (hW : DataW.Whole enc Try.prog Try.f4.params.toList Rows.tensorAtSpec.vars false W args.toList ds gs before) :
    Calls Try.prog 4 args W fun e W' => e = .returned (.bool true) ∧ Below W.heap.size W W' := by
  have hval : ∀ (j : Nat) t v, Try.f4.params[j]? = some t → args[j]? = some v → Value.okWide Try.prog W .any base t v := hval0
  obtain ⟨p, q, hA0, hV, rfl, hfz, hnd⟩ := hW
  have hA : DataW.TrodAll enc Try.prog W 0 (fun _ => true) true Try.f4.params.toList args.toList ds p := hA0
  rw [Try.params4] at hA hval
  obtain ⟨v0, vs0, d0, ds0, p0, q0, hargs, rfl, rfl, h0, r0⟩ := trodAll_cons hA
  obtain ⟨v1, vs1, d1, ds1, p1, q1, rfl, rfl, rfl, h1, r1⟩ := trodAll_cons r0
  obtain ⟨v2, vs2, d2, ds2, p2, q2, rfl, rfl, rfl, h2, r2⟩ := trodAll_cons r1
  obtain ⟨rfl, rfl, rfl⟩ := trodAll_nil r2
  obtain rfl : args = #[v0, v1, v2] := by cases args; simp_all
  clear hA0 hval0
  obtain ⟨x0, y0, t0, A0, z0, c0, rfl, wx0, wy0, wt0, hc0, hm0, hw0, hr0⟩ := Kit.open_tensor (s := 23) (d := 24) (e := 25) (i := 3) Try.underlying28 Try.underlying23 Try.underlying24 Try.underlying25 Try.underlying3 (by kernel_rfl) (by kernel_rfl) (by kernel_rfl) (by kernel_rfl) (by kernel_rfl) ⟨rfl, rfl, rfl, rfl⟩ ⟨rfl, rfl, rfl, rfl, rfl, rfl⟩ (hval 0 28 v0 rfl rfl) h0
  obtain ⟨cs1, rfl, hs1, hf1⟩ := Kit.open_array Try.underlying39 (by kernel_rfl) (by kernel_rfl) (hval 1 39 v1 rfl rfl) h1
  obtain ⟨u1_0, u1_1, u1_2, rfl⟩ := Kit.size_3 hs1
  obtain ⟨a1_0, rfl, w1_0⟩ := Kit.flat_int Try.underlying3 (v := u1_0) rfl (hf1 0 (by decide))
  obtain ⟨a1_1, rfl, w1_1⟩ := Kit.flat_int Try.underlying3 (v := u1_1) rfl (hf1 1 (by decide))
  obtain ⟨a1_2, rfl, w1_2⟩ := Kit.flat_int Try.underlying3 (v := u1_2) rfl (hf1 2 (by decide))
  obtain ⟨a2, rfl, rfl, rfl, w2⟩ := open_int Try.underlying25 (hval 2 25 v2 rfl rfl) h2
  exact walk (w := W) x0 wx0 y0 wy0 t0 wt0 A0 z0 c0 hc0 hm0 hw0 hr0 a1_0 w1_0 a1_1 w1_1 a1_2 w1_2 a2 w2
theorem fnIs {H : Type} : ∀ ds : List (DataW H), ds.length = Try.f4.params.toList.length → Rows.tensorAtSpec.fn H ds = { results := [.lit (.bool true)], args := ds } := by
  intro ds h
  rw [Try.params4] at h
  match ds, h with
  | [d1, d2, d3], _ => rfl
set_option maxRecDepth 100000 in
theorem lifted (os : Os) (started : os.Started) (H : Type) (enc : TypeId × Value → H) :
    ReturnsInHanded {} Try.checked os 4 .any (Rows.tensorAtSpec.pre6 enc Try.prog Try.f4 Rows.tensorAtRow.domain false) (Rows.tensorAtSpec.post enc Try.prog Try.f4 false true false false) := by
  refine returnsInHanded_of_change (C := Try.checked) own started (by kernel_rfl) Try.func4
    (ChangeSpec.witness6 (enc := enc) (C := Try.checked) false ⟨#[], #[.agg #[.int .i64 0, .int .i64 0, .int .i64 0, .slice none 0 0], .agg #[.int .i64 0, .int .i64 0, .int .i64 0], .int .i8 0], []⟩ 8 (by kernel_rfl) (by kernel_rfl) (by kernel_rfl) (by kernel_rfl)) ?_
  intro W base args ds gs before hval hW _ _
  refine (contract hval hW).mono fun e W' ⟨he, hg⟩ => ?_
  subst he
  exact ⟨_, rfl, Kit.law_post (tb := 4) laid (by kernel_rfl) rfl (by kernel_rfl) Try.underlying4 fnIs hW hg⟩
theorem over : Rows.tensorAtRow.holds Try.pinned (OpenSpec.ofChange Rows.tensorAtSpec) :=
  OpenClaim.holds_of_wide 4 Try.f4 rfl rfl rfl rfl rfl rfl rfl ⟨rfl, rfl, rfl, rfl, rfl⟩ rfl rfl rfl rfl rfl (by kernel_rfl) Try.func4 (by kernel_rfl)
    (of_decide_eq_true (by kernel_rfl)) (by unfold Func.isWrapper; first | (rw [if_pos (by decide +kernel)]; kernel_rfl) | (rw [if_neg (by decide +kernel)]; exact ⟨rfl, rfl⟩))
    (fun os started H enc _ => lifted os started H enc)
/-- the statement. -/
theorem proved : Rows.TensorAtSaid :=
  over
end Go.Proofs.Ytikendjjolpnoaa.lawTensorAt
