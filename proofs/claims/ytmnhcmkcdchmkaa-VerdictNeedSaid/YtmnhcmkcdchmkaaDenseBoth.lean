/- Layer 18 (dense): the line, code and document; the fixed call. -/
import Derived.Test.YtmnhcmkcdchmkaaDenseRef
import Derived.Test.YtmnhcmkcdchmkaaConvBoth
namespace Go.Proofs.Ytmnhcmkcdchmkaa.CDense
open Go Go.ChangeShapes Go.WideShapes Go.ChangeAt Go.RowKit
open Plain CSat CShape CTensor CConv
set_option linter.unusedVariables false

theorem owned_nil (w w' : World) (T : TypeId) {e : Ending} (h : e = .returned (.slice none 0 0) ∧ w' = w) : Owned w T 0 (I32v []) e w' := by
  obtain ⟨rfl, rfl⟩ := h
  exact ⟨_, rfl, World.ownsRow_nil _ _ _ _, Below.refl _ _⟩
theorem line_both (A : Option Addr) (zs : List Int) (n c : Nat) (hn : zs.length = n) (hn2 : n ≤ 1000000) (hz : I8b zs) (WA : Option Addr) (ws : List Int) (nW cW : Nat) (hws : ws.length = nW) (hwc : nW ≤ cW) (hwb : I8b ws) (hW2 : nW ≤ 1000000)
    (BA : Option Addr) (bs : List Int) (nB cB : Nat) (hbs : bs.length = nB) (hb32 : ∀ q, -2147483648 ≤ bs.getD q 0 ∧ bs.getD q 0 ≤ 2147483647) (hB2 : nB ≤ 1000000) (Z : Int) (z1 : -128 ≤ Z) (z2 : Z ≤ 127) :
    ∃ (m : Nat) (ys : List Int), ys.length = m ∧ m ≤ 1000000 ∧
      (∀ w : World, Kit.Rd w w.heap.size A (I8s zs) → Kit.Rd w w.heap.size WA (I8s ws) → Kit.Rd w w.heap.size BA (I32v bs) → Calls Try.prog 13 #[.slice A n c, .slice WA nW cW, .slice BA nB cB, .int .i8 Z] w (Owned w 21 m (I32v ys))) ∧
      (∀ w : World, Kit.Rd w w.heap.size A (I8s zs) → Kit.Rd w w.heap.size WA (I8s ws) → Kit.Rd w w.heap.size BA (I32v bs) → Calls Try.prog 16 #[.slice A n c, .slice WA nW cW, .slice BA nB cB, .int .i8 Z] w (Owned w 21 m (I32v ys))) := by
  by_cases h : 1 ≤ n ∧ 1 ≤ nB ∧ n * nB = nW
  · obtain ⟨h1, h2, h3⟩ := h
    exact ⟨nB, rowL (lineF zs ws bs n Z) nB, rowL_len _ _, hB2,
      fun w r1 r2 r3 => line_yes A zs n c hn h1 hn2 hz WA ws nW cW hws hwc hwb BA bs nB cB hbs h2 hB2 h3 hW2 Z z1 z2 _ (fun _ => rfl) w r1 r2 r3,
      fun w r1 r2 r3 => refLine_yes A zs n c hn h1 hn2 hz WA ws nW cW hws hwb BA bs nB cB hbs hb32 h2 hB2 h3 hW2 Z z1 z2 _ (fun _ => rfl) w r1 r2 r3⟩
  · exact ⟨0, [], rfl, by omega,
      fun w _ _ _ => (line_no A WA BA n c nW cW nB cB h hn2 hB2 Z w).mono fun e w' h => owned_nil w w' _ h,
      fun w _ _ _ => (refLine_no A WA BA n c nW cW nB cB h hn2 hB2 Z w).mono fun e w' h => owned_nil w w' _ h⟩
theorem line_known (A WA BA : Option Addr) (w : World) (r1 : Kit.Rd w w.heap.size A (I8s [1, 2])) (r2 : Kit.Rd w w.heap.size WA (I8s [10, 100, 1, 0])) (r3 : Kit.Rd w w.heap.size BA (I32v [5, 6])) :
    Calls Try.prog 13 #[.slice A 2 2, .slice WA 4 4, .slice BA 2 2, .int .i8 0] w (Owned w 21 2 (I32v [215, 7])) := by
  have h := line_yes A [1, 2] 2 2 rfl (by omega) (by omega) (fun q => by rcases q with _ | _ | q <;> simp) WA [10, 100, 1, 0] 4 4 rfl (by omega) (fun q => by rcases q with _ | _ | _ | _ | q <;> simp) BA [5, 6] 2 2 rfl (by omega) (by omega) rfl (by omega) 0 (by omega) (by omega) _ (fun _ => rfl) w r1 r2 r3
  have e : I32v (rowL (lineF [1, 2] [10, 100, 1, 0] [5, 6] 2 0) 2) = I32v [215, 7] := by
    simp [I32v, rowL, List.range_succ, lineF, termF, psum, IntKind.wrap_i32]
  rw [e] at h
  exact h
end Go.Proofs.Ytmnhcmkcdchmkaa.CDense
