/- RatioOf: the scale of any number by any other one, or that there is none, is that of the document; the call returns true and leaves its arguments as they were. No condition. -/
import Derived.Test.YtpiigdgiliaihaaRatioKnown
namespace Go.Proofs.Ytpiigdgiliaihaa.lawRatioOf
open Go Go.ChangeShapes Go.WideShapes Go.ChangeAt Go.RowKit
open Plain CSat CFix Num CRatio
set_option linter.unusedVariables false

theorem walk (num : Int) (wn : (Lit.int .i64 num).wf = true) (den : Int) (wd : (Lit.int .i64 den).wf = true) (w : World) :
    Calls Try.prog 3 #[.int .i64 num, .int .i64 den] w fun e w' => e = .returned (.bool true) ∧ Below w.heap.size w w' := by
  clear wn wd
  obtain ⟨x, y, e, c1, c2⟩ := of_both num den
  have HA := Lib.hid c1
  have HB := Lib.hid c2
  have HE := eqQuant x y 0 x y 0
  have hg := Try.eqGuardType24
  clear c1 c2
  go_enter Try.func3, Try.ntmps3
  go_wp2_with (first
    | (go_at_call 7; (refine (HA.out _).mono ?_; rintro e w1 ⟨rfl, h1⟩; have l1 : w.heap.size ≤ w1.heap.size := h1.size))
    | (go_at_call 8; (refine (HB.out _).mono ?_; rintro e w2 ⟨rfl, h2⟩; have s2 : w1.heap.size < w2.heap.size := (by have := h2.size; simp at this; omega); have d0 : w2.cell? ⟨w1.heap.size, 0, none⟩ = some (.int .i32 x) := (h2.cell (p := ⟨w1.heap.size, 0, none⟩) (by first | omega | (simp; done) | (simp; omega))).trans (by go_cell); have d1 : w2.cell? ⟨w1.heap.size, 1, none⟩ = some (.int .i64 y) := (h2.cell (p := ⟨w1.heap.size, 1, none⟩) (by first | omega | (simp; done) | (simp; omega))).trans (by go_cell); have d2 : w2.cell? ⟨w1.heap.size, 2, none⟩ = some (.int .i8 0) := (h2.cell (p := ⟨w1.heap.size, 2, none⟩) (by first | omega | (simp; done) | (simp; omega))).trans (by go_cell); have n3 : ¬ w1.heap.size = w2.heap.size := Nat.ne_of_lt s2; have n4 : ¬ w2.heap.size = w1.heap.size := Nat.ne_of_gt s2; have z2 : Below w.heap.size w w2 := (by go_grown : Below w.heap.size w _).trans (h2.mono (by simp; omega))))
    | (go_at_call 9; refine (known03 _).mono ?_; rintro e w6 ⟨rfl, h6⟩))
  go_ret
  exact ⟨rfl, (by go_grown : Below w.heap.size w _).trans (h6.mono (by simp; omega))⟩
/-! ### the frame: written by program -/
theorem own : ownKnob Try.prog.godebug = none := by kernel_rfl
theorem laid : laidOutB Try.prog = true := by kernel_rfl
theorem contract {H : Type} {enc : TypeId × Value → H} {W : World} {base : Nat} {args : Array Value} {ds gs : List (DataW H)} {before : List MemPlace}
    (hval0 : ∀ (j : Nat) t v, Try.f3.params[j]? = some t → args[j]? = some v → Value.okWide Try.prog W .any base t v)
    (hW : DataW.Whole enc Try.prog Try.f3.params.toList Rows.ratioOfSpec.vars false W args.toList ds gs before) :
    Calls Try.prog 3 args W fun e W' => e = .returned (.bool true) ∧ Below W.heap.size W W' := by
  have hval : ∀ (j : Nat) t v, Try.f3.params[j]? = some t → args[j]? = some v → Value.okWide Try.prog W .any base t v := hval0
  obtain ⟨p, q, hA0, hV, rfl, hfz, hnd⟩ := hW
  have hA : DataW.TrodAll enc Try.prog W 0 (fun _ => true) true Try.f3.params.toList args.toList ds p := hA0
  rw [Try.params3] at hA hval
  obtain ⟨v0, vs0, d0, ds0, p0, q0, hargs, rfl, rfl, h0, r0⟩ := trodAll_cons hA
  obtain ⟨v1, vs1, d1, ds1, p1, q1, rfl, rfl, rfl, h1, r1⟩ := trodAll_cons r0
  obtain ⟨rfl, rfl, rfl⟩ := trodAll_nil r1
  obtain rfl : args = #[v0, v1] := by cases args; simp_all
  clear hA0 hval0
  obtain ⟨a0, rfl, rfl, rfl, w0⟩ := open_int Try.underlying3 (hval 0 3 v0 rfl rfl) h0
  obtain ⟨a1, rfl, rfl, rfl, w1⟩ := open_int Try.underlying3 (hval 1 3 v1 rfl rfl) h1
  exact walk (w := W) a0 w0 a1 w1
theorem fnIs {H : Type} : ∀ ds : List (DataW H), ds.length = Try.f3.params.toList.length → Rows.ratioOfSpec.fn H ds = { results := [.lit (.bool true)], args := ds } := by
  intro ds h
  rw [Try.params3] at h
  match ds, h with
  | [d1, d2], _ => rfl
set_option maxRecDepth 100000 in
theorem lifted (os : Os) (started : os.Started) (H : Type) (enc : TypeId × Value → H) :
    ReturnsInHanded {} Try.checked os 3 .any (Rows.ratioOfSpec.pre6 enc Try.prog Try.f3 Rows.ratioOfRow.domain false) (Rows.ratioOfSpec.post enc Try.prog Try.f3 false true false false) := by
  refine returnsInHanded_of_change (C := Try.checked) own started (by kernel_rfl) Try.func3
    (ChangeSpec.witness6 (enc := enc) (C := Try.checked) false ⟨#[], #[.int .i64 0, .int .i64 0], []⟩ 8 (by kernel_rfl) (by kernel_rfl) (by kernel_rfl) (by kernel_rfl)) ?_
  intro W base args ds gs before hval hW _ _
  refine (contract hval hW).mono fun e W' ⟨he, hg⟩ => ?_
  subst he
  exact ⟨_, rfl, Kit.law_post (tb := 4) laid (by kernel_rfl) rfl (by kernel_rfl) Try.underlying4 fnIs hW hg⟩
theorem over : Rows.ratioOfRow.holds Try.pinned (OpenSpec.ofChange Rows.ratioOfSpec) :=
  OpenClaim.holds_of_wide 3 Try.f3 rfl rfl rfl rfl rfl rfl rfl ⟨rfl, rfl, rfl, rfl, rfl⟩ rfl rfl rfl rfl rfl (by kernel_rfl) Try.func3 (by kernel_rfl)
    (of_decide_eq_true (by kernel_rfl)) (by unfold Func.isWrapper; first | (rw [if_pos (by decide +kernel)]; kernel_rfl) | (rw [if_neg (by decide +kernel)]; exact ⟨rfl, rfl⟩))
    (fun os started H enc _ => lifted os started H enc)
/-- the statement. -/
theorem proved : Rows.RatioOfSaid :=
  over
end Go.Proofs.Ytpiigdgiliaihaa.lawRatioOf
