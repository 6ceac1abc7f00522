/- Contracts of package tensor (layer 5): places. -/
import Derived.Test.YtgoonenkcikkaaaTensorOf
namespace Go.Proofs.Ytgoonenkcikkaaa.CTensor
open Go Go.ChangeShapes Go.WideShapes Go.ChangeAt Go.RowKit
open Plain CSat CShape
set_option linter.unusedVariables false

/-- is there such a number? -/
def placeB (H W C : Int) (n : Nat) (h v c : Int) : Bool := tensB H W C n && inB H W C h v c
theorem pos_yes (H W C : Int) (A : Option Addr) (n k : Nat) (h v c : Int) (p : Nat) (hb : placeB H W C n h v c = true) (hp : (h * W + v) * C + c = p) (w : World) :
    Calls Try.prog 29 #[.agg #[.int .i64 H, .int .i64 W, .int .i64 C, .slice A n k], .int .i64 h, .int .i64 v, .int .i64 c] w fun e w' => e = .returned (.tuple #[.int .i64 p, .bool true]) ∧ Below w.heap.size w w' := by
  simp only [placeB, Bool.and_eq_true] at hb
  obtain ⟨ht, hi⟩ := hb
  simp only [inB, Bool.and_eq_true, decide_eq_true_eq] at hi
  obtain ⟨hs, h1, h2, h3, h4, h5, h6⟩ := hi
  have HT := Lib.hid ht
  have HS := Lib.hid hs
  have HP := Lib.hid hp
  clear ht hs hp
  go_enter Try.func29, Try.ntmps29
  go_wp2_with (first
    | (go_at_call 20; ((with_reducible refine (right_to H W C A n k true HT.out _).mono ?_); (rintro e w1 ⟨rfl, hb⟩; obtain ⟨hc, hf⟩ := Kit.bcell hb; have hz : w.heap.size < w1.heap.size := (by have := hb.size; simp at this; omega); have hw1 : Below w.heap.size w w1 := Below.trans (by go_grown) (hb.mono (by simp)))))
    | (go_at_call 33; ((with_reducible refine (index_yes H W C h v c _ HS.out h1 h2 h3 h4 h5 h6 HP.out _).mono ?_); (rintro e w2 ⟨rfl, hb2⟩; have HB := Lib.hid (hw1.trans (hb2.mono (Nat.le_of_lt hz))); clear hb2))))
  go_ret2
  exact ⟨rfl, HB.out⟩
theorem pos_no (H W C : Int) (A : Option Addr) (n k : Nat) (h v c : Int) (hb : placeB H W C n h v c = false) (w : World) :
    Calls Try.prog 29 #[.agg #[.int .i64 H, .int .i64 W, .int .i64 C, .slice A n k], .int .i64 h, .int .i64 v, .int .i64 c] w fun e w' => e = .returned (.tuple #[.int .i64 0, .bool false]) ∧ Below w.heap.size w w' := by
  cases ht : tensB H W C n
  · have HT := Lib.hid ht
    clear ht hb
    go_enter Try.func29, Try.ntmps29
    go_wp2_with (go_at_call 20; ((with_reducible refine (right_to H W C A n k false HT.out _).mono ?_); (rintro e w1 ⟨rfl, hb⟩; have HB := Lib.hid (show Below w.heap.size w w1 from Below.trans (by go_grown) (hb.mono (by simp))); clear hb)))
    go_ret2
    exact ⟨rfl, HB.out⟩
  · have hi : inB H W C h v c = false := by simpa [placeB, ht] using hb
    have HT := Lib.hid ht
    have HI := Lib.hid hi
    clear ht hb hi
    go_enter Try.func29, Try.ntmps29
    go_wp2_with (first
      | (go_at_call 20; ((with_reducible refine (right_to H W C A n k true HT.out _).mono ?_); (rintro e w1 ⟨rfl, hb⟩; obtain ⟨hc, hf⟩ := Kit.bcell hb; have hz : w.heap.size < w1.heap.size := (by have := hb.size; simp at this; omega); have hw1 : Below w.heap.size w w1 := Below.trans (by go_grown) (hb.mono (by simp)))))
      | (go_at_call 33; ((with_reducible refine (index_no H W C h v c HI.out _).mono ?_); (rintro e w2 ⟨rfl, hb2⟩; have HB := Lib.hid (hw1.trans (hb2.mono (Nat.le_of_lt hz))); clear hb2))))
    go_ret2
    exact ⟨rfl, HB.out⟩

theorem at_no (H W C : Int) (A : Option Addr) (n k : Nat) (h v c : Int) (hb : placeB H W C n h v c = false) (w : World) :
    Calls Try.prog 24 #[.agg #[.int .i64 H, .int .i64 W, .int .i64 C, .slice A n k], .int .i64 h, .int .i64 v, .int .i64 c] w fun e w' => e = .returned (.tuple #[.int .i8 0, .bool false]) ∧ Below w.heap.size w w' := by
  have HB0 := Lib.hid hb
  clear hb
  go_enter Try.func24, Try.ntmps24
  go_wp2_with (go_at_call 29; ((with_reducible refine (pos_no H W C A n k h v c HB0.out _).mono ?_); (rintro e w1 ⟨rfl, hb⟩; have HB := Lib.hid (show Below w.heap.size w w1 from Below.trans (by go_grown) (hb.mono (by simp))); clear hb)))
  go_ret2
  exact ⟨rfl, HB.out⟩
theorem at_yes (H W C : Int) (A : Option Addr) (zs : List Int) (n k : Nat) (hn : zs.length = n) (hk : n ≤ k) (hk9 : n ≤ 1000000) (h v c : Int) (p : Nat) (hb : placeB H W C n h v c = true) (hp : (h * W + v) * C + c = p) (x : Int) (hx : zs[p]? = some x) {B : Nat} (w : World) (hB : B ≤ w.heap.size) (hr : Kit.Rd w B A (zs.map (.int .i8))) :
    Calls Try.prog 24 #[.agg #[.int .i64 H, .int .i64 W, .int .i64 C, .slice A n k], .int .i64 h, .int .i64 v, .int .i64 c] w fun e w' => e = .returned (.tuple #[.int .i8 x, .bool true]) ∧ Below w.heap.size w w' := by
  have hpl : p < zs.length := by
    rcases Nat.lt_or_ge p zs.length with h | h
    · exact h
    · rw [List.getElem?_eq_none h] at hx; cases hx
  obtain ⟨b, off, rfl, hbB, hcell⟩ := hr.ints hpl
  rw [List.getElem?_eq_getElem hpl] at hx
  cases hx
  generalize zs[p] = x at hcell ⊢
  have hbw : b < w.heap.size := by omega
  have hpn : p < n := by omega
  have HB0 := Lib.hid hb
  have HP := Lib.hid hp
  clear hb hp hr hn
  go_enter Try.func24, Try.ntmps24
  go_wp2_with (go_at_call 29; ((with_reducible refine (pos_yes H W C _ n k h v c p HB0.out HP.out _).mono ?_); (rintro e w1 ⟨rfl, hb⟩; obtain ⟨hc, hf⟩ := Kit.bcell hb; have hz : w.heap.size < w1.heap.size := (by have := hb.size; simp at this; omega); have hcl : w1.cell? ⟨b, off + p, none⟩ = some (.int .i8 x) := ((hb.cell (p := ⟨b, off + p, none⟩) (by simp; omega)).trans ((World.cell?_alloc_lt _ _ _ hbw).trans hcell)); have HB := Lib.hid (show Below w.heap.size w w1 from Below.trans (by go_grown) (hb.mono (by simp))); clear hb)))
  go_ret2
  exact ⟨rfl, HB.out⟩
end Go.Proofs.Ytgoonenkcikkaaa.CTensor
