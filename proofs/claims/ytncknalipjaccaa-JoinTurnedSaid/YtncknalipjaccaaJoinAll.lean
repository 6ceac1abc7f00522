/- Layer 20 (join): code and document beside one another, of any two tensors; and the other way round. -/
import Derived.Test.YtncknalipjaccaaJoinOf
import Derived.Test.YtncknalipjaccaaJoinRefOf
import Derived.Test.YtncknalipjaccaaJoinRefBad
import Derived.Test.YtncknalipjaccaaTensorSameTwo
namespace Go.Proofs.Ytncknalipjaccaa.CJoin
open Go Go.ChangeShapes Go.WideShapes Go.ChangeAt Go.RowKit Go.Deep
open Plain CSat CFix CShape CTensor CConv
set_option linter.unusedVariables false

theorem tens_pos {H W C : Int} {n : Nat} (h : tensB H W C n = true) : 1 ≤ n := by
  obtain ⟨hs, hn⟩ : shapeB H W C = true ∧ (n : Int) = H * W * C := by simpa [tensB] using h
  obtain ⟨g1, g2, g3, g4, g5, g6, g7⟩ := shapeB_yes hs
  have : 0 < H * W * C := Int.mul_pos (Int.mul_pos (by omega) (by omega)) (by omega)
  omega
theorem NBd.turned {Z Y m1 z1 m2 z2 lo hi : Int} (h : NBd Z Y m1 z1 m2 z2 lo hi) : NBd Y Z m2 z1 m1 z1 lo hi := by
  obtain ⟨h1, h2, h3, h4, h5, h6, h7, h8⟩ := h
  exact ⟨h2, h1, h5, h4, h3, h4, h7, h8⟩
theorem joinOf_all (H W C H1 W1 C1 : Int) (A B : Option Addr) (zs ys : List Int) (n m c d : Nat) (hz : zs.length = n) (hy : ys.length = m) (bz : I8b zs) (by_ : I8b ys) (hn6 : n ≤ 1000000) (x0 x1 x2 : Value) (K S P O Z Y : Int) (WA BA : Option Addr) (nW cW nB cB : Nat) (m1 s1 z1 m2 s2 z2 lo hi : Int) (hnb : NBd Z Y m1 z1 m2 z2 lo hi) :
    ∃ (X V U : Int) (k : Nat) (xs : List Int) (er : Int), xs.length = k ∧ k ≤ 1000000 ∧
      (∀ w : World, Kit.Rd w w.heap.size A (I8s zs) → Kit.Rd w w.heap.size B (I8s ys) → Calls Try.prog 7 #[.agg #[.int .i64 H, .int .i64 W, .int .i64 C, .slice A n c], .agg #[.int .i64 H1, .int .i64 W1, .int .i64 C1, .slice B m d], .agg #[x0, x1, x2, .int .i64 K, .int .i64 S, .int .i64 P, .int .i64 O, .int .i8 Z, .int .i8 Y, .slice WA nW cW, .slice BA nB cB, .int .i32 m1, .int .i64 s1, .int .i8 z1, .int .i32 m2, .int .i64 s2, .int .i8 z2, .int .i8 lo, .int .i8 hi]] w (MadeJ w X V U k xs (.int .i64 er))) ∧
      (∀ w : World, Kit.Rd w w.heap.size A (I8s zs) → Kit.Rd w w.heap.size B (I8s ys) → Calls Try.prog 8 #[.agg #[.int .i64 H, .int .i64 W, .int .i64 C, .slice A n c], .agg #[.int .i64 H1, .int .i64 W1, .int .i64 C1, .slice B m d], .agg #[x0, x1, x2, .int .i64 K, .int .i64 S, .int .i64 P, .int .i64 O, .int .i8 Z, .int .i8 Y, .slice WA nW cW, .slice BA nB cB, .int .i32 m1, .int .i64 s1, .int .i8 z1, .int .i32 m2, .int .i64 s2, .int .i8 z2, .int .i8 lo, .int .i8 hi]] w (MadeJ w X V U k xs (.int .i64 er))) ∧
      (∀ w : World, Kit.Rd w w.heap.size A (I8s zs) → Kit.Rd w w.heap.size B (I8s ys) → Calls Try.prog 7 #[.agg #[.int .i64 H1, .int .i64 W1, .int .i64 C1, .slice B m d], .agg #[.int .i64 H, .int .i64 W, .int .i64 C, .slice A n c], .agg #[x0, x1, x2, .int .i64 K, .int .i64 S, .int .i64 P, .int .i64 O, .int .i8 Y, .int .i8 Z, .slice WA nW cW, .slice BA nB cB, .int .i32 m2, .int .i64 s2, .int .i8 z1, .int .i32 m1, .int .i64 s1, .int .i8 z1, .int .i8 lo, .int .i8 hi]] w (MadeJ w X V U k xs (.int .i64 er))) := by
  cases h1 : tensB H W C n
  · refine ⟨0, 0, 0, 0, [], 5, rfl, by omega, fun w _ _ => jof_bad1 H W C H1 W1 C1 A B n c m d x0 x1 x2 K S P O Z Y WA BA nW cW nB cB m1 s1 z1 m2 s2 z2 lo hi h1 w, fun w _ _ => rjof_bad1 H W C H1 W1 C1 A B n c m d x0 x1 x2 K S P O Z Y WA BA nW cW nB cB m1 s1 z1 m2 s2 z2 lo hi h1 w, fun w _ _ => ?_⟩
    cases h2 : tensB H1 W1 C1 m
    · exact jof_bad1 H1 W1 C1 H W C B A m d n c x0 x1 x2 K S P O Y Z WA BA nW cW nB cB m2 s2 z1 m1 s1 z1 lo hi h2 w
    · exact jof_bad2 H1 W1 C1 H W C B A m d n c x0 x1 x2 K S P O Y Z WA BA nW cW nB cB m2 s2 z1 m1 s1 z1 lo hi h2 h1 w
  · cases h2 : tensB H1 W1 C1 m
    · exact ⟨0, 0, 0, 0, [], 5, rfl, by omega, fun w _ _ => jof_bad2 H W C H1 W1 C1 A B n c m d x0 x1 x2 K S P O Z Y WA BA nW cW nB cB m1 s1 z1 m2 s2 z2 lo hi h1 h2 w, fun w _ _ => rjof_bad2 H W C H1 W1 C1 A B n c m d x0 x1 x2 K S P O Z Y WA BA nW cW nB cB m1 s1 z1 m2 s2 z2 lo hi h1 h2 w, fun w _ _ => jof_bad1 H1 W1 C1 H W C B A m d n c x0 x1 x2 K S P O Y Z WA BA nW cW nB cB m2 s2 z1 m1 s1 z1 lo hi h2 w⟩
    · cases he : (H == H1 && (W == W1 && C == C1))
      · have he2 : (H1 == H && (W1 == W && C1 == C)) = false := by
          rw [← he]
          rw [Bool.beq_comm (a := H1), Bool.beq_comm (a := W1), Bool.beq_comm (a := C1)]
        exact ⟨0, 0, 0, 0, [], 5, rfl, by omega, fun w _ _ => jof_bad3 H W C H1 W1 C1 A B n c m d x0 x1 x2 K S P O Z Y WA BA nW cW nB cB m1 s1 z1 m2 s2 z2 lo hi h1 h2 he w, fun w _ _ => rjof_bad3 H W C H1 W1 C1 A B n c m d x0 x1 x2 K S P O Z Y WA BA nW cW nB cB m1 s1 z1 m2 s2 z2 lo hi h1 h2 he w, fun w _ _ => jof_bad3 H1 W1 C1 H W C B A m d n c x0 x1 x2 K S P O Y Z WA BA nW cW nB cB m2 s2 z1 m1 s1 z1 lo hi h2 h1 he2 w⟩
      · obtain ⟨e1, e2, e3⟩ : H = H1 ∧ W = W1 ∧ C = C1 := by simpa using he
        subst e1 e2 e3
        have hnm : n = m := by
          have q1 : (n : Int) = H * W * C := by have := h1; unfold tensB at this; simp at this; exact this.2
          have q2 : (m : Int) = H * W * C := by have := h2; unfold tensB at this; simp at this; exact this.2
          omega
        subst hnm
        cases hh : (rightB m1 s1 && rightB m2 s2)
        · exact ⟨0, 0, 0, 0, [], 7, rfl, by omega, fun w _ _ => jof_quant H W C A B n c d x0 x1 x2 K S P O Z Y WA BA nW cW nB cB m1 s1 z1 m2 s2 z2 lo hi h1 hh w, fun w _ _ => rjof_quant H W C A B n c d x0 x1 x2 K S P O Z Y WA BA nW cW nB cB m1 s1 z1 m2 s2 z2 lo hi h1 hh w, fun w _ _ => jof_quant H W C B A n d c x0 x1 x2 K S P O Y Z WA BA nW cW nB cB m2 s2 z1 m1 s1 z1 lo hi h1 (by rw [Bool.and_comm]; exact hh) w⟩
        · refine ⟨H, W, C, n, rowL (joinF zs ys Z Y m1 s1 z1 m2 s2 lo hi) n, 0, rowL_len _ _, hn6, fun w ra rb => ?_, fun w ra rb => ?_, fun w ra rb => ?_⟩
          · exact jof_yes H W C A B n c d zs ys hz hy bz by_ x0 x1 x2 K S P O Z Y WA BA nW cW nB cB m1 s1 z1 m2 s2 z2 lo hi hnb h1 hh (tens_pos h1) hn6 w ra rb
          · exact rjof_yes H W C A B n c d zs ys hz hy bz by_ x0 x1 x2 K S P O Z Y WA BA nW cW nB cB m1 s1 z1 m2 s2 z2 lo hi hnb h1 hh (tens_pos h1) hn6 _ (fun _ => rfl) w ra rb
          · have h := jof_yes H W C B A n d c ys zs hy hz by_ bz x0 x1 x2 K S P O Y Z WA BA nW cW nB cB m2 s2 z1 m1 s1 z1 lo hi hnb.turned h1 (by rw [Bool.and_comm]; exact hh) (tens_pos h1) hn6 w rb ra
            have hF : joinF ys zs Y Z m2 s2 z1 m1 s1 lo hi = joinF zs ys Z Y m1 s1 z1 m2 s2 lo hi := by
              funext k; unfold joinF; exact oneZ_turned _ _ _ _ _ _ _ _ _ _ _
            rw [hF] at h
            exact h
theorem i8b_of {zs : List Int} (h : ∀ n ∈ zs, (Lit.int .i8 n).wf = true) : I8b zs := fun q => by
  rw [List.getD_eq_getElem?_getD]
  cases hq : zs[q]? with
  | none => simp
  | some x =>
    have hx := h x (List.mem_of_getElem? hq)
    have ⟨a, b⟩ : -128 ≤ x ∧ x ≤ 127 := by simpa [Lit.wf, IntKind.min, IntKind.max, IntKind.signed, IntKind.bits] using hx
    simpa using ⟨a, b⟩
end Go.Proofs.Ytncknalipjaccaa.CJoin
