/- Layer 15 (wheel): the contract of the code's sums of many rows. -/
import Derived.Test.YtceejjliboiciaaWheelSlide
namespace Go.Proofs.Ytceejjliboiciaa.CWheel
open Go Go.ChangeShapes Go.WideShapes Go.ChangeAt Go.RowKit
open FloatNum CFour
set_option linter.unusedVariables false

/-- how many numbers rows make together. -/
def manyN (rows : List (List Int)) (nW : Nat) : Nat := if fitB rows nW = true then (rows.getD 0 []).length - 2 else 0
theorem many_to (A : Option Addr) (rows : List (List Int)) (n cA : Nat) (AW : Option Addr) (nW cW : Nat) (W : Nat → Nat → Int) (m : Nat) (hn : rows.length = n) (hc : cA ≤ maxLen) (hnc : n ≤ cA) (hnW : nW ≤ 1000000) (hL6 : ∀ row ∈ rows, row.length ≤ 1000000) (hm : m = manyN rows nW)
    (hX : ∀ k i, In16 (XR rows k i)) (hW : ∀ k i, InW (W k i)) (F : Nat → Int) (hF : F = mnAt (XR rows) W n) (w : World) (hr : Kit.RowsAt w w.heap.size .i16 A rows) (hw : Wts w w.heap.size AW nW W) :
    Calls Try.prog 20 #[.slice A n cA, .slice AW nW cW] w (Own64 w m (nums F m)) := by
  have HR := Lib.hid hr
  have HWT := Lib.hid hw
  have HX := Lib.hid hX
  have HW := Lib.hid hW
  have HF := Lib.hid hF
  have HL6 := Lib.hid hL6
  have HN := Lib.hid hn
  cases hb : fitB rows nW
  · obtain rfl : m = 0 := by rw [hm]; unfold manyN; rw [hb]; rfl
    have HB := Lib.hid hb
    clear hr hw hX hW hF hL6 hn hb hm
    go_enter Try.func20, Try.ntmps20
    go_wp2_with (go_at_call 36; refine (matched_to A rows n cA AW nW cW HN.out hc hnc hnW false HB.out _ HR.out).mono ?_; rintro e w2 ⟨rfl, rfl⟩)
    go_ret
    exact ⟨_, rfl, own_nil _ _ _ _, Below.refl _ _⟩
  · obtain ⟨g1, g2, g3, g4⟩ := fit_yes hb
    have hm2 : m = (rows.getD 0 []).length - 2 := by rw [hm]; unfold manyN; rw [if_pos hb]
    obtain rfl : nW = n := by omega
    have h1 : 1 ≤ nW := by omega
    have hN : nW ≤ 1024 := by omega
    have hL : (rows.getD 0 []).length ≤ 1000000 := by rw [row0 (by omega)]; exact hL6 _ (List.getElem_mem _)
    have HB := Lib.hid hb
    have HG := Lib.hid g4
    have HM := Lib.hid hm2
    have HLL := Lib.hid hL
    clear hr hw hX hW hF hL6 hn hb hm g1 g2 g3 g4 hm2 hL
    go_enter Try.func20, Try.ntmps20
    go_wp2_with (first
      | (go_at_call 36; refine (matched_to A rows nW cA AW nW cW HN.out hc hnc hnW true HB.out _ HR.out).mono ?_; rintro e w2 ⟨rfl, rfl⟩)
      | (go_at_call 37; refine (added_to A rows nW cA AW cW W _ m HN.out h1 hN HG.out HM.out HLL.out HX.out HW.out F HF.out _ HR.out HWT.out).mono ?_; rintro e w3' ⟨v, rfl, hown, hbb⟩; have HO := Lib.hid hown; have HBB := Lib.hid hbb; clear hown hbb))
    go_ret
    exact ⟨v, rfl, HO.out, HBB.out⟩
end Go.Proofs.Ytceejjliboiciaa.CWheel
