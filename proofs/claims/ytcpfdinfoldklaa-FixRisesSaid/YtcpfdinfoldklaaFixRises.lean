/- FixRises: a greater sum is never a lesser number, by whatever scale; the call returns true and leaves its arguments as they were. No condition. -/
import Derived.Test.YtcpfdinfoldklaaFixKnown
import Derived.Deep.RegionHeld3
namespace Go.Proofs.Ytcpfdinfoldklaa.lawFixRises
open Go Go.ChangeShapes Go.WideShapes Go.ChangeAt Go.RowKit
open Plain CSat CFix
set_option linter.unusedVariables false

theorem walk (a : Int) (wa : (Lit.int .i32 a).wf = true) (b : Int) (wb : (Lit.int .i32 b).wf = true) (m : Int) (wm : (Lit.int .i32 m).wf = true) (s : Int) (ws : (Lit.int .i64 s).wf = true) (z : Int) (wz : (Lit.int .i8 z).wf = true) (w : World) :
    Calls Try.prog 10 #[.int .i32 a, .int .i32 b, .agg #[.int .i32 m, .int .i64 s, .int .i8 z]] w fun e w' => e = .returned (.bool true) ∧ Below w.heap.size w w' := by
  obtain ⟨ha1, ha2⟩ := i32_bd wa
  obtain ⟨hb1, hb2⟩ := i32_bd wb
  obtain ⟨hm1, hm2⟩ := i32_bd wm
  obtain ⟨hz1, hz2⟩ := i8_bd wz
  clear wa wb wm ws wz
  obtain ⟨x, hx⟩ : ∃ x, heldZ a m s z (-128) 127 = x := ⟨_, rfl⟩
  obtain ⟨y, hy⟩ : ∃ y, heldZ b m s z (-128) 127 = y := ⟨_, rfl⟩
  have k1 : a ≤ b → x ≤ y := fun h => hx ▸ hy ▸ held_mono a b m s z _ _ h (by omega)
  have k2 : b ≤ a → y ≤ x := fun h => hx ▸ hy ▸ held_mono b a m s z _ _ h (by omega)
  have HX := Lib.hid hx
  have HY := Lib.hid hy
  clear hx hy
  have t1 : decide (a > b) = true ∧ decide (b > a) = false ∧ y ≤ x ∨ decide (a > b) = false ∧ decide (b > a) = true ∧ x ≤ y ∨ decide (a > b) = false ∧ decide (b > a) = false ∧ x ≤ y ∧ y ≤ x := by
    simp; omega
  clear k1 k2
  rcases t1 with ⟨t1, t2, t3⟩ | ⟨t1, t2, t3⟩ | ⟨t1, t2, t3, t4⟩
  all_goals
    go_enter Try.func10, Try.ntmps10
    go_wp2_with fail
    go_region_held3 (fun w' => w'.cell? ⟨w.heap.size, 0, none⟩ = some (.int .i32 m) ∧ w'.cell? ⟨w.heap.size, 1, none⟩ = some (.int .i64 s) ∧ w'.cell? ⟨w.heap.size, 2, none⟩ = some (.int .i8 z)) (go_keep) ((first
      | (go_at_call 29; with_reducible refine (put_to a m s z x ha1 ha2 hm1 hm2 hz1 hz2 HX.out _).mono ?_; rintro e w1 ⟨rfl, hbx⟩; obtain ⟨hcx, hfx⟩ := Kit.bcell hbx; have hsx : w.heap.size < w1.heap.size := Nat.lt_of_lt_of_le (by simp) hbx.size)
      | (go_at_call 29; with_reducible refine (put_to b m s z y hb1 hb2 hm1 hm2 hz1 hz2 HY.out _).mono ?_; rintro e w2 ⟨rfl, hby⟩; obtain ⟨hcy, hfy⟩ := Kit.bcell hby; have hsy : w.heap.size < w2.heap.size := Nat.lt_of_lt_of_le hsx hby.size)))
    go_wp2_with (first
      | fail
      | (go_at_call 28; refine (CFix.known _).mono ?_; rintro e w' ⟨rfl, hb⟩))
    all_goals go_outline
    go_ret
    exact ⟨rfl, ((((Below.refl w.heap.size w).alloc (Nat.le_refl _) _).drew.trans (hbx.mono (by simp))).trans (hby.mono (by omega))).trans (hb.mono (by omega))⟩
/-! ### the frame: written by program -/
theorem own : ownKnob Try.prog.godebug = none := by kernel_rfl
theorem laid : laidOutB Try.prog = true := by kernel_rfl
theorem contract {H : Type} {enc : TypeId × Value → H} {W : World} {base : Nat} {args : Array Value} {ds gs : List (DataW H)} {before : List MemPlace}
    (hval0 : ∀ (j : Nat) t v, Try.f10.params[j]? = some t → args[j]? = some v → Value.okWide Try.prog W .any base t v)
    (hW : DataW.Whole enc Try.prog Try.f10.params.toList Rows.fixRisesSpec.vars false W args.toList ds gs before) :
    Calls Try.prog 10 args W fun e W' => e = .returned (.bool true) ∧ Below W.heap.size W W' := by
  have hval : ∀ (j : Nat) t v, Try.f10.params[j]? = some t → args[j]? = some v → Value.okWide Try.prog W .any base t v := hval0
  obtain ⟨p, q, hA0, hV, rfl, hfz, hnd⟩ := hW
  have hA : DataW.TrodAll enc Try.prog W 0 (fun _ => true) true Try.f10.params.toList args.toList ds p := hA0
  rw [Try.params10] at hA hval
  obtain ⟨v0, vs0, d0, ds0, p0, q0, hargs, rfl, rfl, h0, r0⟩ := trodAll_cons hA
  obtain ⟨v1, vs1, d1, ds1, p1, q1, rfl, rfl, rfl, h1, r1⟩ := trodAll_cons r0
  obtain ⟨v2, vs2, d2, ds2, p2, q2, rfl, rfl, rfl, h2, r2⟩ := trodAll_cons r1
  obtain ⟨rfl, rfl, rfl⟩ := trodAll_nil r2
  obtain rfl : args = #[v0, v1, v2] := by cases args; simp_all
  clear hA0 hval0
  obtain ⟨a0, rfl, rfl, rfl, w0⟩ := open_int Try.underlying21 (hval 0 21 v0 rfl rfl) h0
  obtain ⟨a1, rfl, rfl, rfl, w1⟩ := open_int Try.underlying21 (hval 1 21 v1 rfl rfl) h1
  obtain ⟨cs2, rfl, hs2, hf2⟩ := Kit.open_flat Try.underlying43 (by kernel_rfl) (by kernel_rfl) (hval 2 43 v2 rfl rfl) h2
  obtain ⟨u2_0, u2_1, u2_2, rfl⟩ := Kit.size_3 hs2
  obtain ⟨a2_0, rfl, w2_0⟩ := Kit.flat_int Try.underlying21 (v := u2_0) rfl (hf2 0 _ rfl)
  obtain ⟨a2_1, rfl, w2_1⟩ := Kit.flat_int Try.underlying3 (v := u2_1) rfl (hf2 1 _ rfl)
  obtain ⟨a2_2, rfl, w2_2⟩ := Kit.flat_int Try.underlying22 (v := u2_2) rfl (hf2 2 _ rfl)
  exact walk (w := W) a0 w0 a1 w1 a2_0 w2_0 a2_1 w2_1 a2_2 w2_2
theorem fnIs {H : Type} : ∀ ds : List (DataW H), ds.length = Try.f10.params.toList.length → Rows.fixRisesSpec.fn H ds = { results := [.lit (.bool true)], args := ds } := by
  intro ds h
  rw [Try.params10] at h
  match ds, h with
  | [d1, d2, d3], _ => rfl
set_option maxRecDepth 100000 in
theorem lifted (os : Os) (started : os.Started) (H : Type) (enc : TypeId × Value → H) :
    ReturnsInHanded {} Try.checked os 10 .any (Rows.fixRisesSpec.pre6 enc Try.prog Try.f10 Rows.fixRisesRow.domain false) (Rows.fixRisesSpec.post enc Try.prog Try.f10 false true false false) := by
  refine returnsInHanded_of_change (C := Try.checked) own started (by kernel_rfl) Try.func10
    (ChangeSpec.witness6 (enc := enc) (C := Try.checked) false ⟨#[], #[.int .i32 0, .int .i32 0, .agg #[.int .i32 0, .int .i64 0, .int .i8 0]], []⟩ 8 (by kernel_rfl) (by kernel_rfl) (by kernel_rfl) (by kernel_rfl)) ?_
  intro W base args ds gs before hval hW _ _
  refine (contract hval hW).mono fun e W' ⟨he, hg⟩ => ?_
  subst he
  exact ⟨_, rfl, Kit.law_post (tb := 4) laid (by kernel_rfl) rfl (by kernel_rfl) Try.underlying4 fnIs hW hg⟩
theorem over : Rows.fixRisesRow.holds Try.pinned (OpenSpec.ofChange Rows.fixRisesSpec) :=
  OpenClaim.holds_of_wide 10 Try.f10 rfl rfl rfl rfl rfl rfl rfl ⟨rfl, rfl, rfl, rfl, rfl⟩ rfl rfl rfl rfl rfl (by kernel_rfl) Try.func10 (by kernel_rfl)
    (of_decide_eq_true (by kernel_rfl)) (by unfold Func.isWrapper; first | (rw [if_pos (by decide +kernel)]; kernel_rfl) | (rw [if_neg (by decide +kernel)]; exact ⟨rfl, rfl⟩))
    (fun os started H enc _ => lifted os started H enc)
/-- the statement. -/
theorem proved : Rows.FixRisesSaid :=
  over
end Go.Proofs.Ytcpfdinfoldklaa.lawFixRises
