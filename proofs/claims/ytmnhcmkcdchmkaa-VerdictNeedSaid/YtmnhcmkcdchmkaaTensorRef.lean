/- Contracts of the document's own answers of layer 5: what is right, what is alike. -/
import Derived.Test.YtmnhcmkcdchmkaaTk
import Derived.Test.YtmnhcmkcdchmkaaTensor
import Derived.Test.YtmnhcmkcdchmkaaShapeRef
import Derived.Laws.StructEq
namespace Go.Proofs.Ytmnhcmkcdchmkaa.CTensor
open Go Go.ChangeShapes Go.WideShapes Go.ChangeAt Go.RowKit
open Plain CSat CShape
set_option linter.unusedVariables false

theorem refRight_to (H W C : Int) (A : Option Addr) (n c : Nat) (b : Bool) (hb : tensB H W C n = b) (w : World) :
    Calls Try.prog 15 #[.agg #[.int .i64 H, .int .i64 W, .int .i64 C, .slice A n c]] w fun e w' => e = .returned (.bool b) ∧ Below w.heap.size w w' := by
  obtain ⟨m, hm⟩ : ∃ m, elemsZ H W C = m := ⟨_, rfl⟩
  have hT := tens_eq (n := n) hm hb
  have HM := Lib.hid hm
  have HB0 := Lib.hid (((Below.refl w.heap.size w).alloc (Nat.le_refl _) (.cells #[.int .i64 H, .int .i64 W, .int .i64 C, .slice A n c] 26)).drew)
  cases hr : shapeB H W C
  all_goals
    have HR := Lib.hid hr
    rw [hr] at hT
    clear hr hb hm
  · obtain ⟨h0, rfl⟩ := hT
    have hz : m = 0 := h0
    subst hz
    go_enter Try.func15, Try.ntmps15
    go_wp2_with fail
    refine wp_region_held_drew (S := BoxAt w.heap.size H W C A n c) (by kernel_rfl) (BoxAt.new _ _ _ _ _ _ _ _) (fun hHeld => ?_)
    refine Tk.y 0 (v := ?_) rfl ?_ ?_
    rotate_left
    · intro wS hSw
      obtain ⟨s1, s2, s3, s4⟩ := hSw
      first | (go_simp; done) | (go_simp; with_reducible rfl)
    try simp only [Tk.put]
    refine Tk.y 1 (v := ?_) rfl ?_ ?_
    rotate_left
    · intro wS hSw
      obtain ⟨s1, s2, s3, s4⟩ := hSw
      first | (go_simp; done) | (go_simp; with_reducible rfl)
    try simp only [Tk.put]
    refine Tk.s 2 rfl (fun K hK => ?_)
    go_simp
    go_at_call 21
    refine (CShape.refElems_to H W C 0 HM.out _).mono ?_
    rintro e w1 ⟨rfl, hb1⟩
    have hS1 := hHeld.below (by first | (simp; done) | assumption) hb1
    have hz1 : w.heap.size < w1.heap.size := by have := hb1.size; first | omega | (simp at this; omega)
    have HB1 := Lib.hid (HB0.out.trans (hb1.mono HB0.out.size))
    clear hb1 hHeld
    dsimp only
    refine hK.out _ _ ?_ (fun hHeld => ?_)
    · exact hS1
    clear hK K
    try simp only [Tk.put]
    refine Tk.x 3 rfl ?_
    try simp only [Tk.put]
    refine Tk.x 4 rfl ?_
    try simp only [Tk.put]
    refine Tk.t 5 (v := undef) rfl (Or.inr ⟨by rfl, rfl⟩) (by assumption) ?_
    try simp only [Tk.put]
    refine Tk.t 6 (v := undef) rfl (Or.inr ⟨by rfl, rfl⟩) (by assumption) ?_
    try simp only [Tk.put]
    refine Tk.t 7 (v := undef) rfl (Or.inr ⟨by rfl, rfl⟩) (by assumption) ?_
    try simp only [Tk.put]
    refine Tk.t 8 (v := undef) rfl (Or.inr ⟨by rfl, rfl⟩) (by assumption) ?_
    try simp only [Tk.put]
    refine Tk.t 9 (v := undef) rfl (Or.inr ⟨by rfl, rfl⟩) (by assumption) ?_
    try simp only [Tk.put]
    refine Tk.t 10 (v := undef) rfl (Or.inr ⟨by rfl, rfl⟩) (by assumption) ?_
    try simp only [Tk.put]
    refine Tk.t 11 (v := undef) rfl (Or.inr ⟨by rfl, rfl⟩) (by assumption) ?_
    try simp only [Tk.put]
    refine Tk.x 12 rfl ?_
    try simp only [Tk.put]
    refine Tk.x 13 rfl ?_
    try simp only [Tk.put]
    refine wpAnyH_done (by kernel_rfl) ?_ _
    go_wp2
    go_ret
    exact ⟨rfl, HB1.out⟩
  · obtain ⟨h0, rfl⟩ := hT
    go_enter Try.func15, Try.ntmps15
    go_wp2_with fail
    refine wp_region_held_drew (S := BoxAt w.heap.size H W C A n c) (by kernel_rfl) (BoxAt.new _ _ _ _ _ _ _ _) (fun hHeld => ?_)
    refine Tk.y 0 (v := ?_) rfl ?_ ?_
    rotate_left
    · intro wS hSw
      obtain ⟨s1, s2, s3, s4⟩ := hSw
      first | (go_simp; done) | (go_simp; with_reducible rfl)
    try simp only [Tk.put]
    refine Tk.y 1 (v := ?_) rfl ?_ ?_
    rotate_left
    · intro wS hSw
      obtain ⟨s1, s2, s3, s4⟩ := hSw
      first | (go_simp; done) | (go_simp; with_reducible rfl)
    try simp only [Tk.put]
    refine Tk.s 2 rfl (fun K hK => ?_)
    go_simp
    go_at_call 21
    refine (CShape.refElems_to H W C m HM.out _).mono ?_
    rintro e w1 ⟨rfl, hb1⟩
    have hS1 := hHeld.below (by first | (simp; done) | assumption) hb1
    have hz1 : w.heap.size < w1.heap.size := by have := hb1.size; first | omega | (simp at this; omega)
    have HB1 := Lib.hid (HB0.out.trans (hb1.mono HB0.out.size))
    clear hb1 hHeld
    dsimp only
    refine hK.out _ _ ?_ (fun hHeld => ?_)
    · exact hS1
    clear hK K
    try simp only [Tk.put]
    refine Tk.x 3 rfl ?_
    try simp only [Tk.put]
    refine Tk.x 4 rfl ?_
    try simp only [Tk.put]
    refine Tk.y 5 (v := ?_) rfl ?_ ?_
    rotate_left
    · intro wS hSw
      obtain ⟨s1, s2, s3, s4⟩ := hSw
      first | (go_simp; done) | (go_simp; with_reducible rfl)
    try simp only [Tk.put]
    refine Tk.y 6 (v := ?_) rfl ?_ ?_
    rotate_left
    · intro wS hSw
      obtain ⟨s1, s2, s3, s4⟩ := hSw
      first | (go_simp; done) | (go_simp; with_reducible rfl)
    try simp only [Tk.put]
    refine Tk.y 8 (v := ?_) rfl ?_ ?_
    rotate_left
    · intro wS hSw
      obtain ⟨s1, s2, s3, s4⟩ := hSw
      first | (go_simp; done) | (go_simp; with_reducible rfl)
    try simp only [Tk.put]
    refine Tk.y 9 (v := ?_) rfl ?_ ?_
    rotate_left
    · intro wS hSw
      obtain ⟨s1, s2, s3, s4⟩ := hSw
      first | (go_simp; done) | (go_simp; with_reducible rfl)
    try simp only [Tk.put]
    refine Tk.y 10 (v := ?_) rfl ?_ ?_
    rotate_left
    · intro wS hSw
      obtain ⟨s1, s2, s3, s4⟩ := hSw
      first | (go_simp; done) | (go_simp; with_reducible rfl)
    try simp only [Tk.put]
    refine Tk.s 7 rfl (fun K hK => ?_)
    go_simp
    go_at_call 21
    refine (CShape.refElems_to H W C m HM.out _).mono ?_
    rintro e w2 ⟨rfl, hb2⟩
    have hS2 := hHeld.below (by first | (simp; done) | assumption) hb2
    have hz2 : w.heap.size < w2.heap.size := by have := hb2.size; first | omega | (simp at this; omega)
    have HB2 := Lib.hid (HB1.out.trans (hb2.mono HB1.out.size))
    clear hb2 hHeld
    dsimp only
    refine hK.out _ _ ?_ (fun hHeld => ?_)
    · exact hS2
    clear hK K
    try simp only [Tk.put]
    refine Tk.x 11 rfl ?_
    try simp only [Tk.put]
    refine Tk.x 12 rfl ?_
    try simp only [Tk.put]
    refine Tk.x 13 rfl ?_
    try simp only [Tk.put]
    refine wpAnyH_done (by kernel_rfl) ?_ _
    go_wp2
    go_ret
    exact ⟨bool_comm _ _, HB2.out⟩
end Go.Proofs.Ytmnhcmkcdchmkaa.CTensor
