/- Contracts of layer 5: channels and likeness, each in one. -/
import Derived.Test.YtkmcmaickopobaaTensorChanTwo
import Derived.Test.YtkmcmaickopobaaTensorSameTwo
namespace Go.Proofs.Ytkmcmaickopobaa.CTensor
open Go Go.ChangeShapes Go.WideShapes Go.ChangeAt Go.RowKit
open Plain CSat CShape CSeq
set_option linter.unusedVariables false

/-- two lists of numbers of 8 bits that are one list. -/
theorem fsame_yes (A B : Option Addr) (zs : List Int) (n c d : Nat) (hn : n = zs.length) (hl : n ≤ 1000000) (w : World) {B1 B2 : Nat} (ha : Kit.Rd w B1 A (zs.map (.int .i8))) (hb : Kit.Rd w B2 B (zs.map (.int .i8))) :
    Calls Try.prog 22 #[.slice A n c, .slice B n d] w fun e w' => e = .returned (.bool true) ∧ ∃ m, w' = w.drewN m := by
  subst hn
  have HA := Lib.hid ha
  have HB := Lib.hid hb
  clear ha hb
  go_enter Try.func22, Try.ntmps22
  go_wp2_with fail
  go_loopw [5] (fun i wr => ∃ k nq : Nat, k ≤ zs.length ∧ i = .int .i64 k ∧ Hid (wr = w.drewN nq)) (fun i _ => zs.length - (intOf i).toNat)
  case atStart => exact ⟨0, 0, Nat.zero_le _, rfl, Lib.hid rfl⟩
  case round =>
    obtain ⟨k, nq, hk, rfl, hw⟩ := hrel
    obtain rfl := hw.out
    clear hw
    by_cases hlt : k < zs.length
    · obtain ⟨b, off, rfl, _, hx⟩ := HA.out.ints hlt
      obtain ⟨b2, off2, rfl, _, hy⟩ := HB.out.ints hlt
      generalize zs[k] = x at hx hy
      have h0 : (0 : Int) ≤ (k : Int) := by omega
      have h1 : (k : Int) < (zs.length : Int) := by omega
      go_wp2_with fail
      go_quiet (fail)
      go_wp2
      go_roundw
      case rel => exact ⟨k + 1, _, by omega, by go_num, Lib.hid rfl⟩
      case measure => simp [intOf]; omega
    · go_wp2_with fail
      go_ret
      exact ⟨rfl, nq, rfl⟩

/-- a list handed back. -/
def GivesL (w : World) (xs : List Int) (L : Nat) (e : Ending) (w' : World) : Prop :=
  ∃ (A : Option Addr) (c : Nat), e = .returned (.slice A L c) ∧ Kit.Rd w' w'.heap.size A (I8s xs) ∧ Below w.heap.size w w'
theorem gives_owned {w : World} {xs : List Int} {L : Nat} {e : Ending} {w' : World} (hL : xs.length = L) (h : Owned w xs.length (I8s xs) e w') : GivesL w xs L e w' := by
  obtain ⟨v, rfl, ho, hb⟩ := h
  obtain ⟨A, c, rfl, -, -, hr⟩ := Kit.own_rd ho
  rw [hL]
  exact ⟨A, c, rfl, hr, hb⟩
theorem gives_nil {w : World} {xs : List Int} {L : Nat} {e : Ending} {w' : World} (hx : xs = []) (hL : xs.length = L) (h : e = .returned (.slice none 0 0) ∧ Below w.heap.size w w') : GivesL w xs L e w' := by
  subst hx
  obtain rfl : L = 0 := by simpa using hL.symm
  exact ⟨none, 0, h.1, Kit.Rd.nil, h.2⟩
theorem chan_to (H W C c : Int) (A : Option Addr) (zs : List Int) (n cap : Nat) (hn : zs.length = n) (hl : n ≤ 1000000) (xs : List Int) (hx : chanOf H W C n c zs = xs) (L : Nat) (hL : xs.length = L) (w : World) {B : Nat} (hB : B ≤ w.heap.size) (hr : Kit.Rd w B A (zs.map (.int .i8))) :
    Calls Try.prog 23 #[.agg #[.int .i64 H, .int .i64 W, .int .i64 C, .slice A n cap], .int .i64 c] w (GivesL w xs L) := by
  subst hn
  unfold chanOf at hx
  cases ht : tensB H W C zs.length
  · rw [ht] at hx
    exact (chan_out H W C c A zs.length cap ht w).mono fun e w' h => gives_nil hx.symm hL h
  · rw [ht, if_pos rfl] at hx
    subst hx
    exact (chan_in H W C c A zs cap hl ht w (hr.more hB)).mono fun e w' h => gives_owned hL h
theorem tens_pos {H W C : Int} {n : Nat} (h : tensB H W C n = true) : 1 ≤ n ∧ 1 ≤ C := by
  simp only [tensB, Bool.and_eq_true, decide_eq_true_eq] at h
  obtain ⟨hs, h2⟩ := h
  simp only [shapeB, decide_eq_true_eq] at hs
  obtain ⟨g1, g2, g3, g4, g5, g6, g7⟩ := hs
  have := prod_bd g1 g2 g3 g4 g5 g6
  omega
theorem refChan_to (H W C c : Int) (A : Option Addr) (zs : List Int) (n cap : Nat) (hn : zs.length = n) (hl : n ≤ 1000000) (xs : List Int) (hx : chanOf H W C n c zs = xs) (L : Nat) (hL : xs.length = L) (w : World) {B : Nat} (hB : B ≤ w.heap.size) (hr : Kit.Rd w B A (zs.map (.int .i8))) :
    Calls Try.prog 24 #[.agg #[.int .i64 H, .int .i64 W, .int .i64 C, .slice A n cap], .int .i64 c] w (GivesL w xs L) := by
  unfold chanOf at hx
  cases ht : tensB H W C n
  · rw [ht] at hx
    exact (refChan_out H W C c A n cap (.inr (.inl ht)) w).mono fun e w' h => gives_nil hx.symm hL h
  · rw [ht, if_pos rfl] at hx
    obtain ⟨hn1, hC⟩ := tens_pos ht
    by_cases hc : c < 0 ∨ C ≤ c
    · exact (refChan_out H W C c A n cap (.inr (.inr hc)) w).mono fun e w' h => gives_nil (by rw [← hx]; exact chan_none hC hc _) hL h
    · subst hx
      exact (refChan_in H W C c A zs n cap hn hl ht (by omega) (by omega) w hB hr).mono fun e w' h => gives_owned hL h
/-- are two tensors one? -/
def likeB (H W C H' W' C' : Int) (xs ys : List Int) : Bool := (H == H' && (W == W' && C == C')) && decide (xs = ys)
theorem same_any (H W C H' W' C' : Int) (A B : Option Addr) (xs ys : List Int) (n m c d : Nat) (hx : xs.length = n) (hy : ys.length = m) (hl : n ≤ 1000000) (b : Bool) (hb : likeB H W C H' W' C' xs ys = b) (w : World) {B1 B2 : Nat} (h1 : B1 ≤ w.heap.size) (h2 : B2 ≤ w.heap.size) (ha : Kit.Rd w B1 A (xs.map (.int .i8))) (hbb : Kit.Rd w B2 B (ys.map (.int .i8))) :
    Calls Try.prog 18 #[.agg #[.int .i64 H, .int .i64 W, .int .i64 C, .slice A n c], .agg #[.int .i64 H', .int .i64 W', .int .i64 C', .slice B m d]] w fun e w' => e = .returned (.bool b) ∧ Below w.heap.size w w' := by
  unfold likeB at hb
  cases hs : (H == H' && (W == W' && C == C'))
  · rw [hs] at hb; subst hb
    exact same_shape H W C H' W' C' A B n m c d hs w
  · rw [hs, Bool.true_and] at hb
    simp only [Bool.and_eq_true, beq_iff_eq] at hs
    obtain ⟨rfl, rfl, rfl⟩ := hs
    by_cases hnm : n = m
    · subst hnm
      exact same_to H W C A B xs ys n c d hx hy hl b hb w h1 h2 ha hbb
    · have : b = false := by
        rw [← hb, decide_eq_false_iff_not]; intro e; subst e; omega
      subst this
      exact same_len H W C A B n m c d hnm w
theorem refSame_any (H W C H' W' C' : Int) (A B : Option Addr) (xs ys : List Int) (n m c d : Nat) (hx : xs.length = n) (hy : ys.length = m) (hl : n ≤ 1000000) (b : Bool) (hb : likeB H W C H' W' C' xs ys = b) (w : World) {B1 B2 : Nat} (h1 : B1 ≤ w.heap.size) (h2 : B2 ≤ w.heap.size) (ha : Kit.Rd w B1 A (xs.map (.int .i8))) (hbb : Kit.Rd w B2 B (ys.map (.int .i8))) :
    Calls Try.prog 13 #[.agg #[.int .i64 H, .int .i64 W, .int .i64 C, .slice A n c], .agg #[.int .i64 H', .int .i64 W', .int .i64 C', .slice B m d]] w fun e w' => e = .returned (.bool b) ∧ Below w.heap.size w w' := by
  unfold likeB at hb
  cases hs : (H == H' && (W == W' && C == C'))
  · rw [hs] at hb; subst hb
    exact refSame_shape H W C H' W' C' A B n m c d hs w
  · rw [hs, Bool.true_and] at hb
    simp only [Bool.and_eq_true, beq_iff_eq] at hs
    obtain ⟨rfl, rfl, rfl⟩ := hs
    by_cases hnm : n = m
    · subst hnm
      exact refSame_to H W C A B xs ys n c d hx hy hl b hb w h1 h2 ha hbb
    · have : b = false := by
        rw [← hb, decide_eq_false_iff_not]; intro e; subst e; omega
      subst this
      exact refSame_len H W C A B n m c d hnm w
end Go.Proofs.Ytkmcmaickopobaa.CTensor
