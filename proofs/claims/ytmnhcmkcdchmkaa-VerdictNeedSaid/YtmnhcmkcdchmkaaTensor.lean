/- Contracts of package tensor (layer 5): copies, what is right. -/
import Derived.Test.YtmnhcmkcdchmkaaTk
import Derived.Test.YtmnhcmkcdchmkaaShape
import Derived.OrdersHeld
import Derived.Deep.RegionHeld3
import Derived.Lib.SliceRun
namespace Go.Proofs.Ytmnhcmkcdchmkaa.CTensor
open Go Go.ChangeShapes Go.WideShapes Go.ChangeAt Go.RowKit
open Plain CSat CShape
set_option linter.unusedVariables false

def I8s (zs : List Int) : List Value := zs.map (.int .i8)
/-- what is handed back: a list of the call's own; nothing that was there has turned. -/
def Owned (w : World) (n : Nat) (xs : List Value) (e : Ending) (w' : World) : Prop :=
  ∃ v, e = .returned v ∧ w'.ownsRow w.heap.size 46 1 v n xs ∧ Below w.heap.size w w'
theorem info_i8 : (Try.prog.info? 46).map (fun i => (i.zero, i.size, i.bytes)) = some (some (.int .i8 0), 1, 1) := by kernel_rfl

/-- is a tensor right? -/
def tensB (H W C : Int) (n : Nat) : Bool := shapeB H W C && decide ((n : Int) = H * W * C)
/-- the box of a tensor, in whatever world. -/
def BoxAt (B : Nat) (H W C : Int) (A : Option Addr) (n c : Nat) (wd : World) : Prop :=
  wd.cell? ⟨B, 0, none⟩ = some (.int .i64 H) ∧ wd.cell? ⟨B, 1, none⟩ = some (.int .i64 W) ∧ wd.cell? ⟨B, 2, none⟩ = some (.int .i64 C) ∧ wd.cell? ⟨B, 3, none⟩ = some (.slice A n c)
theorem BoxAt.new (H W C : Int) (A : Option Addr) (n c : Nat) (T : TypeId) (w : World) : BoxAt w.heap.size H W C A n c (w.alloc (.cells #[.int .i64 H, .int .i64 W, .int .i64 C, .slice A n c] T)).drew :=
  ⟨Kit.new_cell _ _ _ _, Kit.new_cell _ _ _ _, Kit.new_cell _ _ _ _, Kit.new_cell _ _ _ _⟩
theorem BoxAt.below {B B' : Nat} {H W C : Int} {A : Option Addr} {n c : Nat} {w w' : World} (h : BoxAt B H W C A n c w) (hB : B < B') (hb : Below B' w w') : BoxAt B H W C A n c w' :=
  ⟨(hb.cell (p := ⟨B, 0, none⟩) hB).trans h.1, (hb.cell (p := ⟨B, 1, none⟩) hB).trans h.2.1, (hb.cell (p := ⟨B, 2, none⟩) hB).trans h.2.2.1, (hb.cell (p := ⟨B, 3, none⟩) hB).trans h.2.2.2⟩
theorem tens_eq {H W C m : Int} {n : Nat} {b : Bool} (hm : elemsZ H W C = m) (hb : tensB H W C n = b) : (if shapeB H W C = true then 0 < m ∧ ((n : Int) == m) = b else m = 0 ∧ false = b) := by
  cases hr : shapeB H W C
  · rw [elemsZ_no hr] at hm
    subst hm hb
    simp [tensB, hr]
  · have := elemsZ_pos H W C
    rw [hr, hm] at this
    rw [elemsZ_yes hr] at hm
    subst hb
    simp at this
    rw [if_pos rfl]
    refine ⟨this, ?_⟩
    rw [tensB, hr, hm, Bool.true_and]
    rfl
theorem bool_comm (a b : Int) : Ending.returned (.bool (a == b)) = .returned (.bool (b == a)) := by rw [BEq.comm]
theorem right_to (H W C : Int) (A : Option Addr) (n c : Nat) (b : Bool) (hb : tensB H W C n = b) (w : World) :
    Calls Try.prog 12 #[.agg #[.int .i64 H, .int .i64 W, .int .i64 C, .slice A n c]] w fun e w' => e = .returned (.bool b) ∧ Below w.heap.size w w' := by
  obtain ⟨m, hm⟩ : ∃ m, elemsZ H W C = m := ⟨_, rfl⟩
  have hT := tens_eq (n := n) hm hb
  have HM := Lib.hid hm
  have HB0 := Lib.hid (((Below.refl w.heap.size w).alloc (Nat.le_refl _) (.cells #[.int .i64 H, .int .i64 W, .int .i64 C, .slice A n c] 26)).drew)
  cases hr : shapeB H W C
  all_goals
    have HR := Lib.hid hr
    rw [hr] at hT
    clear hr hb hm
  · obtain ⟨h0, rfl⟩ := hT
    have HM0 := HM.out
    go_enter Try.func12, Try.ntmps12
    go_wp2_with fail
    refine wp_region_held_drew (S := BoxAt w.heap.size H W C A n c) (by kernel_rfl) (BoxAt.new _ _ _ _ _ _ _ _) (fun hHeld => ?_)
    refine Tk.y 0 (v := ?_) rfl ?_ ?_
    rotate_left
    · intro wS hSw
      obtain ⟨s1, s2, s3, s4⟩ := hSw
      first | (go_simp; done) | (go_simp; with_reducible rfl)
    try simp only [Tk.put]
    refine Tk.y 1 (v := ?_) rfl ?_ ?_
    rotate_left
    · intro wS hSw
      obtain ⟨s1, s2, s3, s4⟩ := hSw
      first | (go_simp; done) | (go_simp; with_reducible rfl)
    try simp only [Tk.put]
    refine Tk.s 2 rfl (fun K hK => ?_)
    go_simp
    go_at_call 19
    refine (CShape.right_to H W C false HR.out _).mono ?_
    rintro e w1 ⟨rfl, hb1⟩
    have hS1 := hHeld.below (by first | (simp; done) | assumption) hb1
    have hz1 : w.heap.size < w1.heap.size := by have := hb1.size; first | omega | (simp at this; omega)
    have HB1 := Lib.hid (HB0.out.trans (hb1.mono HB0.out.size))
    clear hb1 hHeld
    dsimp only
    refine hK.out _ _ ?_ (fun hHeld => ?_)
    · exact hS1
    clear hK K
    try simp only [Tk.put]
    refine Tk.x 3 rfl ?_
    try simp only [Tk.put]
    refine Tk.t 4 (v := undef) rfl (Or.inr ⟨by rfl, rfl⟩) (by assumption) ?_
    try simp only [Tk.put]
    refine Tk.t 5 (v := undef) rfl (Or.inr ⟨by rfl, rfl⟩) (by assumption) ?_
    try simp only [Tk.put]
    refine Tk.t 6 (v := undef) rfl (Or.inr ⟨by rfl, rfl⟩) (by assumption) ?_
    try simp only [Tk.put]
    refine Tk.t 7 (v := undef) rfl (Or.inr ⟨by rfl, rfl⟩) (by assumption) ?_
    try simp only [Tk.put]
    refine Tk.t 8 (v := undef) rfl (Or.inr ⟨by rfl, rfl⟩) (by assumption) ?_
    try simp only [Tk.put]
    refine Tk.t 9 (v := undef) rfl (Or.inr ⟨by rfl, rfl⟩) (by assumption) ?_
    try simp only [Tk.put]
    refine Tk.t 10 (v := undef) rfl (Or.inr ⟨by rfl, rfl⟩) (by assumption) ?_
    try simp only [Tk.put]
    refine Tk.x 11 rfl ?_
    try simp only [Tk.put]
    refine Tk.x 12 rfl ?_
    try simp only [Tk.put]
    refine wpAnyH_done (by kernel_rfl) ?_ _
    go_wp2
    go_ret
    exact ⟨rfl, HB1.out⟩
  · obtain ⟨h0, rfl⟩ := hT
    go_enter Try.func12, Try.ntmps12
    go_wp2_with fail
    refine wp_region_held_drew (S := BoxAt w.heap.size H W C A n c) (by kernel_rfl) (BoxAt.new _ _ _ _ _ _ _ _) (fun hHeld => ?_)
    refine Tk.y 0 (v := ?_) rfl ?_ ?_
    rotate_left
    · intro wS hSw
      obtain ⟨s1, s2, s3, s4⟩ := hSw
      first | (go_simp; done) | (go_simp; with_reducible rfl)
    try simp only [Tk.put]
    refine Tk.y 1 (v := ?_) rfl ?_ ?_
    rotate_left
    · intro wS hSw
      obtain ⟨s1, s2, s3, s4⟩ := hSw
      first | (go_simp; done) | (go_simp; with_reducible rfl)
    try simp only [Tk.put]
    refine Tk.s 2 rfl (fun K hK => ?_)
    go_simp
    go_at_call 19
    refine (CShape.right_to H W C true HR.out _).mono ?_
    rintro e w1 ⟨rfl, hb1⟩
    have hS1 := hHeld.below (by first | (simp; done) | assumption) hb1
    have hz1 : w.heap.size < w1.heap.size := by have := hb1.size; first | omega | (simp at this; omega)
    have HB1 := Lib.hid (HB0.out.trans (hb1.mono HB0.out.size))
    clear hb1 hHeld
    dsimp only
    refine hK.out _ _ ?_ (fun hHeld => ?_)
    · exact hS1
    clear hK K
    try simp only [Tk.put]
    refine Tk.x 3 rfl ?_
    try simp only [Tk.put]
    refine Tk.y 4 (v := ?_) rfl ?_ ?_
    rotate_left
    · intro wS hSw
      obtain ⟨s1, s2, s3, s4⟩ := hSw
      first | (go_simp; done) | (go_simp; with_reducible rfl)
    try simp only [Tk.put]
    refine Tk.y 5 (v := ?_) rfl ?_ ?_
    rotate_left
    · intro wS hSw
      obtain ⟨s1, s2, s3, s4⟩ := hSw
      first | (go_simp; done) | (go_simp; with_reducible rfl)
    try simp only [Tk.put]
    refine Tk.y 6 (v := ?_) rfl ?_ ?_
    rotate_left
    · intro wS hSw
      obtain ⟨s1, s2, s3, s4⟩ := hSw
      first | (go_simp; done) | (go_simp; with_reducible rfl)
    try simp only [Tk.put]
    refine Tk.y 7 (v := ?_) rfl ?_ ?_
    rotate_left
    · intro wS hSw
      obtain ⟨s1, s2, s3, s4⟩ := hSw
      first | (go_simp; done) | (go_simp; with_reducible rfl)
    try simp only [Tk.put]
    refine Tk.y 8 (v := ?_) rfl ?_ ?_
    rotate_left
    · intro wS hSw
      obtain ⟨s1, s2, s3, s4⟩ := hSw
      first | (go_simp; done) | (go_simp; with_reducible rfl)
    try simp only [Tk.put]
    refine Tk.s 9 rfl (fun K hK => ?_)
    go_simp
    go_at_call 22
    refine (CShape.elems_to H W C m HM.out _).mono ?_
    rintro e w2 ⟨rfl, hb2⟩
    have hS2 := hHeld.below (by first | (simp; done) | assumption) hb2
    have hz2 : w.heap.size < w2.heap.size := by have := hb2.size; first | omega | (simp at this; omega)
    have HB2 := Lib.hid (HB1.out.trans (hb2.mono HB1.out.size))
    clear hb2 hHeld
    dsimp only
    refine hK.out _ _ ?_ (fun hHeld => ?_)
    · exact hS2
    clear hK K
    try simp only [Tk.put]
    refine Tk.x 10 rfl ?_
    try simp only [Tk.put]
    refine Tk.x 11 rfl ?_
    try simp only [Tk.put]
    refine Tk.x 12 rfl ?_
    try simp only [Tk.put]
    refine wpAnyH_done (by kernel_rfl) ?_ _
    go_wp2
    go_ret
    exact ⟨rfl, HB2.out⟩
end Go.Proofs.Ytmnhcmkcdchmkaa.CTensor
