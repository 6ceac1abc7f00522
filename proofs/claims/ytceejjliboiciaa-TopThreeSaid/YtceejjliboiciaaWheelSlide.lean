/- Layer 15 (wheel): the contracts of the code's calls on one row and on many. -/
import Derived.Test.YtceejjliboiciaaWheelTwo
namespace Go.Proofs.Ytceejjliboiciaa.CWheel
open Go Go.ChangeShapes Go.WideShapes Go.ChangeAt Go.RowKit
open FloatNum CFour
set_option linter.unusedVariables false

def wf (x y z : Int) : Nat → Int
  | 0 => x
  | 1 => y
  | _ => z
theorem wf_in {x y z : Int} (hx : InW x) (hy : InW y) (hz : InW z) (i : Nat) : InW (wf x y z i) := by
  unfold wf; split <;> assumption
theorem rows_one {w : World} {A : Option Addr} {xs : List Int} {n c B : Nat} (hn : xs.length = n) (hc : n ≤ c) (hm : c ≤ maxLen) (hr : Kit.Rd w B A (xs.map (.int .i16))) (hB : B ≤ w.heap.size) (T : TypeId) :
    Kit.RowsAt (w.alloc (.cells #[.slice A n c] T)) (w.heap.size + 1) .i16 (some ⟨w.heap.size, 0, none⟩) [xs] := by
  refine ⟨[.slice A n c], rfl, Kit.Rd.new w [.slice A n c] T (Nat.lt_succ_self _), fun i row h => ?_⟩
  match i, h with
  | 0, h =>
    obtain rfl : xs = row := by simpa using h
    exact ⟨A, n, c, hn, rfl, hc, hm, (hr.alloc hB _).more (by omega)⟩
theorem wts_one (w : World) (x y z : Int) (T : TypeId) : Wts (w.alloc (.cells #[.int .i8 x, .int .i8 y, .int .i8 z] T)) (w.heap.size + 1) (some ⟨w.heap.size, 0, none⟩) 1 (fun _ => wf x y z) := fun k hk => by
  obtain rfl : k = 0 := by omega
  exact ⟨w.heap.size, 0, rfl, Nat.lt_succ_self _, Kit.range_3 (x := .int .i8 x) (y := .int .i8 y) (z := .int .i8 z) (by go_cell) (by go_cell) (by go_cell)⟩
theorem in_one {xs : List Int} (h : ∀ n ∈ xs, (Lit.int .i16 n).wf = true) : ∀ row ∈ [xs], ∀ n ∈ row, (Lit.int .i16 n).wf = true := by
  intro row hr n hn
  obtain rfl : row = xs := by simpa using hr
  exact h n hn
theorem all_len {xs : List Int} {n : Nat} (h : xs.length = n) : ∀ row ∈ [xs], row.length = n := by
  intro row hr
  obtain rfl : row = xs := by simpa using hr
  exact h
/-- the numbers that a row makes. -/
def slideF (xs : List Int) (x y z : Int) (i : Nat) : Int := slAt (fun i => xs.getD i 0) (wf x y z) i
theorem slide_many (xs : List Int) (x y z : Int) : slideF xs x y z = mnAt (XR [xs]) (fun _ => wf x y z) 1 := by
  funext i
  show _ = sumN _ 1
  unfold sumN sumN
  rw [Int.zero_add]; rfl

theorem added_to (A : Option Addr) (rows : List (List Int)) (n cA : Nat) (AW : Option Addr) (cW : Nat) (W : Nat → Nat → Int) (L m : Nat) (hn : rows.length = n) (h1 : 1 ≤ n) (hN : n ≤ 1024) (hL : ∀ row ∈ rows, row.length = L) (hm : m = L - 2) (hL6 : L ≤ 1000000)
    (hX : ∀ k i, In16 (XR rows k i)) (hW : ∀ k i, InW (W k i)) (F : Nat → Int) (hF : F = mnAt (XR rows) W n) (w : World) (hr : Kit.RowsAt w w.heap.size .i16 A rows) (hw : Wts w w.heap.size AW n W) :
    Calls Try.prog 37 #[.slice A n cA, .slice AW n cW] w (Own64 w m (nums F m)) := by
  rcases Nat.lt_or_ge L 3 with h | h
  · obtain rfl : m = 0 := by omega
    refine (added_short A rows n cA _ L hn h1 hL h w hr).mono ?_
    rintro e w' ⟨rfl, rfl⟩
    exact ⟨_, rfl, own_nil _ _ _ _, Below.refl _ _⟩
  · exact added_yes A rows n cA AW cW W L m hn h1 hN hL (by omega) (by omega) hL6 hX hW F hF w hr hw
/-! ### many rows -/
/-- are there rows, not too many and equally long, with weights for each? -/
def fitB (rows : List (List Int)) (nW : Nat) : Bool := decide (rows.length = nW ∧ 1 ≤ rows.length ∧ rows.length ≤ 1024) && rows.all (fun row => row.length == (rows.getD 0 []).length)
theorem fit_yes {rows : List (List Int)} {nW : Nat} (h : fitB rows nW = true) : rows.length = nW ∧ 1 ≤ rows.length ∧ rows.length ≤ 1024 ∧ ∀ row ∈ rows, row.length = (rows.getD 0 []).length := by
  simp only [fitB, Bool.and_eq_true, decide_eq_true_eq, List.all_eq_true, beq_iff_eq] at h
  exact ⟨h.1.1, h.1.2.1, h.1.2.2, h.2⟩
theorem fit_of {rows : List (List Int)} {nW : Nat} (h1 : rows.length = nW) (h2 : 1 ≤ rows.length) (h3 : rows.length ≤ 1024) (h4 : ∀ k (hk : k < rows.length), rows[k].length = (rows.getD 0 []).length) : fitB rows nW = true := by
  simp only [fitB, Bool.and_eq_true, decide_eq_true_eq, List.all_eq_true, beq_iff_eq]
  refine ⟨⟨h1, h2, h3⟩, fun row hr => ?_⟩
  obtain ⟨k, hk, rfl⟩ := List.mem_iff_getElem.1 hr
  exact h4 k hk
theorem fit_no {rows : List (List Int)} {nW k : Nat} (hk : k < rows.length) (h : ¬ rows[k].length = (rows.getD 0 []).length) : fitB rows nW = false := by
  cases hb : fitB rows nW
  · rfl
  · exact absurd ((fit_yes hb).2.2.2 _ (List.getElem_mem hk)) h
theorem fit_not {rows : List (List Int)} {nW : Nat} (h : ¬ (rows.length = nW ∧ 1 ≤ rows.length ∧ rows.length ≤ 1024)) : fitB rows nW = false := by
  cases hb : fitB rows nW
  · rfl
  · have := fit_yes hb
    exact absurd ⟨this.1, this.2.1, this.2.2.1⟩ h
theorem row0 {rows : List (List Int)} (h : 0 < rows.length) : rows.getD 0 [] = rows[0] := by
  rw [List.getD_eq_getElem?_getD, List.getElem?_eq_getElem h]; rfl

set_option maxHeartbeats 4000000 in
theorem matched_to (A : Option Addr) (rows : List (List Int)) (n cA : Nat) (AW : Option Addr) (nW cW : Nat) (hn : rows.length = n) (hc : cA ≤ maxLen) (hnc : n ≤ cA) (hm : nW ≤ 1000000) (b : Bool) (hb : fitB rows nW = b) (w : World) (hr : Kit.RowsAt w w.heap.size .i16 A rows) :
    Calls Try.prog 36 #[.slice A n cA, .slice AW nW cW] w fun e' w' => e' = .returned (.bool b) ∧ w = w' := by
  by_cases h1 : n = nW
  · by_cases h2 : 1 ≤ n
    · by_cases h3 : n ≤ 1024
      · subst h1
        obtain ⟨b0, o0, A0, L0, c0, rfl, hb0, hc0, e0, e1, e2, -⟩ := hr.row (i := 0) (by omega)
        rw [Nat.add_zero] at hc0
        have k1 : (0 : Int) < (n : Int) := by omega
        have k2 : ¬ (n : Int) < 1 := by omega
        have k3 : ¬ (n : Int) > 1024 := by omega
        have HR := Lib.hid hr
        have HN := Lib.hid hn
        have HC := Lib.hid hc0
        have hz0 : (rows.getD 0 []).length = L0 := by rw [row0 (by omega)]; exact e0
        have HZ := Lib.hid hz0
        have HBB := Lib.hid hb
        clear hr hn e0 e1 e2 hz0 hb
        go_enter Try.func36, Try.ntmps36
        go_wp2_with fail
        go_loopw [24] (fun u wr => ∃ k : Nat, k ≤ n ∧ u = .int .i64 k ∧ Hid (∀ j (hj : j < rows.length), j < k → rows[j].length = L0) ∧ wr = w) (fun u _ => n - (intOf u).toNat)
        case atStart => exact ⟨0, Nat.zero_le _, rfl, Lib.hid (fun j _ hj => by omega), rfl⟩
        case round =>
          obtain ⟨k, hk, rfl, HA, rfl⟩ := hrel
          by_cases hlt : k < n
          · have hkI : (k : Int) < (n : Int) := by omega
            have hk0 : (0 : Int) ≤ (k : Int) := by omega
            obtain ⟨bk, ok, Ak, Lk, ck, hA, hbk, hck, ek, -⟩ := HR.out.row (i := k) (by have := HN.out; omega)
            obtain ⟨rfl, rfl⟩ : b0 = bk ∧ o0 = ok := by simpa using hA
            have EK := Lib.hid ek
            have hc00 := HC.out
            clear ek hA
            by_cases h4 : Lk = L0
            · subst h4
              have HA2 : Hid (∀ j (hj : j < rows.length), j < k + 1 → rows[j].length = Lk) := Lib.hid (fun j hj h => by
                rcases Nat.lt_or_ge j k with h5 | h5
                · exact HA.out j hj h5
                · obtain rfl : j = k := by omega
                  exact EK.out)
              go_wp2_with fail
              go_roundw
              case rel => exact ⟨k + 1, by omega, by go_num, HA2, by first | rfl | trivial⟩
              case measure => simp [intOf]; omega
            · have h5 : ¬ (Lk : Int) = (L0 : Int) := by omega
              have hf : fitB rows n = false := fit_no (k := k) (by have := HN.out; omega) (by rw [EK.out, HZ.out]; exact h4)
              rw [HBB.out] at hf
              subst hf
              clear h4 HBB
              go_wp2_with fail
              go_ret
              exact ⟨rfl, rfl⟩
          · obtain rfl : k = n := by omega
            have hf : fitB rows k = true := fit_of HN.out (by have := HN.out; omega) (by have := HN.out; omega) (fun j hj => by rw [HZ.out]; exact HA.out j hj (by have := HN.out; omega))
            rw [HBB.out] at hf
            subst hf
            clear HBB
            go_wp2_with fail
            go_ret
            exact ⟨rfl, rfl⟩
      · obtain rfl : b = false := by rw [← hb]; exact fit_not (by omega)
        subst h1
        have k2 : ¬ (n : Int) < 1 := by omega
        have k3 : (n : Int) > 1024 := by omega
        clear hr hn hb
        go_enter Try.func36, Try.ntmps36
        go_wp2_with fail
        go_ret
        exact ⟨rfl, rfl⟩
    · obtain rfl : b = false := by rw [← hb]; exact fit_not (by omega)
      subst h1
      have k2 : (n : Int) < 1 := by omega
      clear hr hn hb
      go_enter Try.func36, Try.ntmps36
      go_wp2_with fail
      go_ret
      exact ⟨rfl, rfl⟩
  · obtain rfl : b = false := by rw [← hb]; exact fit_not (by omega)
    have k2 : ¬ (n : Int) = (nW : Int) := by omega
    clear hr hn h1 hb
    go_enter Try.func36, Try.ntmps36
    go_wp2_with fail
    go_ret
    exact ⟨rfl, rfl⟩
end Go.Proofs.Ytceejjliboiciaa.CWheel
