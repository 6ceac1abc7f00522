/- Texts of this seat, one behind the other: WheelSlide, WheelMany, GemmNum, JoinSeq, RoundTwo. -/
import Derived.RangeFuncBox
import Derived.RangeFuncLeaves
import Derived.RangeFuncCalls
import Derived.RangeFuncNested
import Derived.Shelf.Abstract
import Derived.WalkKit
import Derived.OwnWalkIn
import Derived.TacticsInMore
import Derived.LoopNIn
import Derived.LoopIn
import Derived.Test.YtoghpoopgkahiaaGreatDoorRows
import Derived.OrdersHeld
import Derived.Test.YtoghpoopgkahiaaGreatDoorGA1
import Derived.Test.YtoghpoopgkahiaaGreatDoorGA3
import Derived.Test.YtoghpoopgkahiaaGreatDoorGA6
import Derived.Test.YtoghpoopgkahiaaGreatDoorGA7
import Derived.Test.YtoghpoopgkahiaaGreatDoorGA12
section
namespace Go.Proofs.YtoghpoopgkahiaaGreatDoor.CWheel
open Go Go.ChangeShapes Go.WideShapes Go.ChangeAt Go.RowKit
open FloatNum CFour
set_option linter.unusedVariables false
theorem added_to (A : Option Addr) (rows : List (List Int)) (n cA : Nat) (AW : Option Addr) (cW : Nat) (W : Nat → Nat → Int) (L m : Nat) (hn : rows.length = n) (h1 : 1 ≤ n) (hN : n ≤ 1024) (hL : ∀ row ∈ rows, row.length = L) (hm : m = L - 2) (hL6 : L ≤ 1000000)
    (hX : ∀ k i, In16 (XR rows k i)) (hW : ∀ k i, InW (W k i)) (F : Nat → Int) (hF : F = mnAt (XR rows) W n) (w : World) (hr : Kit.RowsAt w w.heap.size .i16 A rows) (hw : Wts w w.heap.size AW n W) :
    Calls Tryz.prog 122 #[.slice A n cA, .slice AW n cW] w (Own64 w m (nums F m)) := by
  rcases Nat.lt_or_ge L 3 with h | h
  · obtain rfl : m = 0 := by omega
    refine (added_short A rows n cA _ L hn h1 hL h w hr).mono ?_
    rintro e w' ⟨rfl, rfl⟩
    exact ⟨_, rfl, own_nil _ _ _ _, Below.refl _ _⟩
  · exact added_yes A rows n cA AW cW W L m hn h1 hN hL (by omega) (by omega) hL6 hX hW F hF w hr hw
/-! ### many rows -/
/-- are there rows, not too many and equally long, with weights for each? -/
def fitB (rows : List (List Int)) (nW : Nat) : Bool := decide (rows.length = nW ∧ 1 ≤ rows.length ∧ rows.length ≤ 1024) && rows.all (fun row => row.length == (rows.getD 0 []).length)
theorem fit_yes {rows : List (List Int)} {nW : Nat} (h : fitB rows nW = true) : rows.length = nW ∧ 1 ≤ rows.length ∧ rows.length ≤ 1024 ∧ ∀ row ∈ rows, row.length = (rows.getD 0 []).length := by
  simp only [fitB, Bool.and_eq_true, decide_eq_true_eq, List.all_eq_true, beq_iff_eq] at h
  exact ⟨h.1.1, h.1.2.1, h.1.2.2, h.2⟩
theorem fit_of {rows : List (List Int)} {nW : Nat} (h1 : rows.length = nW) (h2 : 1 ≤ rows.length) (h3 : rows.length ≤ 1024) (h4 : ∀ k (hk : k < rows.length), rows[k].length = (rows.getD 0 []).length) : fitB rows nW = true := by
  simp only [fitB, Bool.and_eq_true, decide_eq_true_eq, List.all_eq_true, beq_iff_eq]
  refine ⟨⟨h1, h2, h3⟩, fun row hr => ?_⟩
  obtain ⟨k, hk, rfl⟩ := List.mem_iff_getElem.1 hr
  exact h4 k hk
theorem fit_no {rows : List (List Int)} {nW k : Nat} (hk : k < rows.length) (h : ¬ rows[k].length = (rows.getD 0 []).length) : fitB rows nW = false := by
  cases hb : fitB rows nW
  · rfl
  · exact absurd ((fit_yes hb).2.2.2 _ (List.getElem_mem hk)) h
theorem fit_not {rows : List (List Int)} {nW : Nat} (h : ¬ (rows.length = nW ∧ 1 ≤ rows.length ∧ rows.length ≤ 1024)) : fitB rows nW = false := by
  cases hb : fitB rows nW
  · rfl
  · have := fit_yes hb
    exact absurd ⟨this.1, this.2.1, this.2.2.1⟩ h
theorem row0 {rows : List (List Int)} (h : 0 < rows.length) : rows.getD 0 [] = rows[0] := by
  rw [List.getD_eq_getElem?_getD, List.getElem?_eq_getElem h]; rfl
set_option maxHeartbeats 4000000 in
theorem matched_to (A : Option Addr) (rows : List (List Int)) (n cA : Nat) (AW : Option Addr) (nW cW : Nat) (hn : rows.length = n) (hc : cA ≤ maxLen) (hnc : n ≤ cA) (hm : nW ≤ 1000000) (b : Bool) (hb : fitB rows nW = b) (w : World) (hr : Kit.RowsAt w w.heap.size .i16 A rows) :
    Calls Tryz.prog 121 #[.slice A n cA, .slice AW nW cW] w fun e' w' => e' = .returned (.bool b) ∧ w = w' := by
  by_cases h1 : n = nW
  · by_cases h2 : 1 ≤ n
    · by_cases h3 : n ≤ 1024
      · subst h1
        obtain ⟨b0, o0, A0, L0, c0, rfl, hb0, hc0, e0, e1, e2, -⟩ := hr.row (i := 0) (by omega)
        rw [Nat.add_zero] at hc0
        have k1 : (0 : Int) < (n : Int) := by omega
        have k2 : ¬ (n : Int) < 1 := by omega
        have k3 : ¬ (n : Int) > 1024 := by omega
        have HR := Lib.hid hr
        have HN := Lib.hid hn
        have HC := Lib.hid hc0
        have hz0 : (rows.getD 0 []).length = L0 := by rw [row0 (by omega)]; exact e0
        have HZ := Lib.hid hz0
        have HBB := Lib.hid hb
        clear hr hn e0 e1 e2 hz0 hb
        go_enter Tryz.func121, Tryz.ntmps121
        go_wp2_with fail
        go_loopw [24] (fun u wr => ∃ k : Nat, k ≤ n ∧ u = .int .i64 k ∧ Hid (∀ j (hj : j < rows.length), j < k → rows[j].length = L0) ∧ wr = w) (fun u _ => n - (intOf u).toNat)
        case atStart => exact ⟨0, Nat.zero_le _, rfl, Lib.hid (fun j _ hj => by omega), rfl⟩
        case round =>
          obtain ⟨k, hk, rfl, HA, rfl⟩ := hrel
          by_cases hlt : k < n
          · have hkI : (k : Int) < (n : Int) := by omega
            have hk0 : (0 : Int) ≤ (k : Int) := by omega
            obtain ⟨bk, ok, Ak, Lk, ck, hA, hbk, hck, ek, -⟩ := HR.out.row (i := k) (by have := HN.out; omega)
            obtain ⟨rfl, rfl⟩ : b0 = bk ∧ o0 = ok := by simpa using hA
            have EK := Lib.hid ek
            have hc00 := HC.out
            clear ek hA
            by_cases h4 : Lk = L0
            · subst h4
              have HA2 : Hid (∀ j (hj : j < rows.length), j < k + 1 → rows[j].length = Lk) := Lib.hid (fun j hj h => by
                rcases Nat.lt_or_ge j k with h5 | h5
                · exact HA.out j hj h5
                · obtain rfl : j = k := by omega
                  exact EK.out)
              go_wp2_with fail
              go_roundw
              case rel => exact ⟨k + 1, by omega, by go_num, HA2, by first | rfl | trivial⟩
              case measure => simp [intOf]; omega
            · have h5 : ¬ (Lk : Int) = (L0 : Int) := by omega
              have hf : fitB rows n = false := fit_no (k := k) (by have := HN.out; omega) (by rw [EK.out, HZ.out]; exact h4)
              rw [HBB.out] at hf
              subst hf
              clear h4 HBB
              go_wp2_with fail
              go_ret
              exact ⟨rfl, rfl⟩
          · obtain rfl : k = n := by omega
            have hf : fitB rows k = true := fit_of HN.out (by have := HN.out; omega) (by have := HN.out; omega) (fun j hj => by rw [HZ.out]; exact HA.out j hj (by have := HN.out; omega))
            rw [HBB.out] at hf
            subst hf
            clear HBB
            go_wp2_with fail
            go_ret
            exact ⟨rfl, rfl⟩
      · obtain rfl : b = false := by rw [← hb]; exact fit_not (by omega)
        subst h1
        have k2 : ¬ (n : Int) < 1 := by omega
        have k3 : (n : Int) > 1024 := by omega
        clear hr hn hb
        go_enter Tryz.func121, Tryz.ntmps121
        go_wp2_with fail
        go_ret
        exact ⟨rfl, rfl⟩
    · obtain rfl : b = false := by rw [← hb]; exact fit_not (by omega)
      subst h1
      have k2 : (n : Int) < 1 := by omega
      clear hr hn hb
      go_enter Tryz.func121, Tryz.ntmps121
      go_wp2_with fail
      go_ret
      exact ⟨rfl, rfl⟩
  · obtain rfl : b = false := by rw [← hb]; exact fit_not (by omega)
    have k2 : ¬ (n : Int) = (nW : Int) := by omega
    clear hr hn h1 hb
    go_enter Tryz.func121, Tryz.ntmps121
    go_wp2_with fail
    go_ret
    exact ⟨rfl, rfl⟩
end Go.Proofs.YtoghpoopgkahiaaGreatDoor.CWheel
end
section
namespace Go.Proofs.YtoghpoopgkahiaaGreatDoor.CWheel
open Go Go.ChangeShapes Go.WideShapes Go.ChangeAt Go.RowKit
open FloatNum CFour
set_option linter.unusedVariables false
/-- how many numbers rows make together. -/
def manyN (rows : List (List Int)) (nW : Nat) : Nat := if fitB rows nW = true then (rows.getD 0 []).length - 2 else 0
theorem many_to (A : Option Addr) (rows : List (List Int)) (n cA : Nat) (AW : Option Addr) (nW cW : Nat) (W : Nat → Nat → Int) (m : Nat) (hn : rows.length = n) (hc : cA ≤ maxLen) (hnc : n ≤ cA) (hnW : nW ≤ 1000000) (hL6 : ∀ row ∈ rows, row.length ≤ 1000000) (hm : m = manyN rows nW)
    (hX : ∀ k i, In16 (XR rows k i)) (hW : ∀ k i, InW (W k i)) (F : Nat → Int) (hF : F = mnAt (XR rows) W n) (w : World) (hr : Kit.RowsAt w w.heap.size .i16 A rows) (hw : Wts w w.heap.size AW nW W) :
    Calls Tryz.prog 82 #[.slice A n cA, .slice AW nW cW] w (Own64 w m (nums F m)) := by
  have HR := Lib.hid hr
  have HWT := Lib.hid hw
  have HX := Lib.hid hX
  have HW := Lib.hid hW
  have HF := Lib.hid hF
  have HL6 := Lib.hid hL6
  have HN := Lib.hid hn
  cases hb : fitB rows nW
  · obtain rfl : m = 0 := by rw [hm]; unfold manyN; rw [hb]; rfl
    have HB := Lib.hid hb
    clear hr hw hX hW hF hL6 hn hb hm
    go_enter Tryz.func82, Tryz.ntmps82
    go_wp2_with (go_at_call 121; refine (matched_to A rows n cA AW nW cW HN.out hc hnc hnW false HB.out _ HR.out).mono ?_; rintro e w2 ⟨rfl, rfl⟩)
    go_ret
    exact ⟨_, rfl, own_nil _ _ _ _, Below.refl _ _⟩
  · obtain ⟨g1, g2, g3, g4⟩ := fit_yes hb
    have hm2 : m = (rows.getD 0 []).length - 2 := by rw [hm]; unfold manyN; rw [if_pos hb]
    obtain rfl : nW = n := by omega
    have h1 : 1 ≤ nW := by omega
    have hN : nW ≤ 1024 := by omega
    have hL : (rows.getD 0 []).length ≤ 1000000 := by rw [row0 (by omega)]; exact hL6 _ (List.getElem_mem _)
    have HB := Lib.hid hb
    have HG := Lib.hid g4
    have HM := Lib.hid hm2
    have HLL := Lib.hid hL
    clear hr hw hX hW hF hL6 hn hb hm g1 g2 g3 g4 hm2 hL
    go_enter Tryz.func82, Tryz.ntmps82
    go_wp2_with (first
      | (go_at_call 121; refine (matched_to A rows nW cA AW nW cW HN.out hc hnc hnW true HB.out _ HR.out).mono ?_; rintro e w2 ⟨rfl, rfl⟩)
      | (go_at_call 122; refine (added_to A rows nW cA AW cW W _ m HN.out h1 hN HG.out HM.out HLL.out HX.out HW.out F HF.out _ HR.out HWT.out).mono ?_; rintro e w3' ⟨v, rfl, hown, hbb⟩; have HO := Lib.hid hown; have HBB := Lib.hid hbb; clear hown hbb))
    go_ret
    exact ⟨v, rfl, HO.out, HBB.out⟩
end Go.Proofs.YtoghpoopgkahiaaGreatDoor.CWheel
end
section
namespace Go.Proofs.YtoghpoopgkahiaaGreatDoor.CGemm
open Go Go.ChangeShapes Go.WideShapes Go.ChangeAt Go.RowKit
open Plain
set_option linter.unusedVariables false
def I32v (zs : List Int) : List Value := zs.map (.int .i32)
/-- the first n numbers of a rule. -/
def rowL (F : Nat → Int) (n : Nat) : List Int := (List.range n).map F
theorem rowL_len (F : Nat → Int) (n : Nat) : (rowL F n).length = n := by simp [rowL]
theorem rowL_at (F : Nat → Int) {n i : Nat} (h : i < n) : (rowL F n)[i]? = some (F i) := by simp [rowL, h]
theorem rowL_congr {F G : Nat → Int} {n : Nat} (h : ∀ i, i < n → F i = G i) : rowL F n = rowL G n := by
  apply List.ext_getElem?
  intro i
  by_cases hi : i < n
  · rw [rowL_at F hi, rowL_at G hi, h i hi]
  · rw [List.getElem?_eq_none (by rw [rowL_len]; omega), List.getElem?_eq_none (by rw [rowL_len]; omega)]
theorem eq_rowL {P : List Int} {F : Nat → Int} {n : Nat} (hl : P.length = n) (h : ∀ i, i < n → P[i]? = some (F i)) : P = rowL F n := by
  apply List.ext_getElem?
  intro i
  by_cases hi : i < n
  · rw [rowL_at F hi, h i hi]
  · rw [List.getElem?_eq_none (by omega), List.getElem?_eq_none (by rw [rowL_len]; omega)]
/-- n numbers, of which those of D stand already. -/
def Filled (n : Nat) (D : Nat → Prop) (F : Nat → Int) (P : List Int) : Prop := P.length = n ∧ ∀ i, i < n → D i → P[i]? = some (F i)
theorem Filled.mono {n : Nat} {D D' : Nat → Prop} {F : Nat → Int} {P : List Int} (h : Filled n D F P) (hd : ∀ i, i < n → D' i → D i) : Filled n D' F P := ⟨h.1, fun i hi hD => h.2 i hi (hd i hi hD)⟩
theorem Filled.set {n : Nat} {D D' : Nat → Prop} {F : Nat → Int} {P : List Int} (h : Filled n D F P) {j : Nat} {v : Int} (hv : F j = v) (hd : ∀ i, i < n → D' i → D i ∨ i = j) : Filled n D' F (P.set j v) := by
  refine ⟨by simpa using h.1, fun i hi hD => ?_⟩
  rw [List.getElem?_set]
  by_cases e : j = i
  · subst e
    rw [if_pos rfl, if_pos (by rw [h.1]; exact hi), hv]
  · rw [if_neg e]
    rcases hd i hi hD with h1 | h1
    · exact h.2 i hi h1
    · exact absurd h1.symm e
theorem Filled.all {n : Nat} {D : Nat → Prop} {F : Nat → Int} {P : List Int} (h : Filled n D F P) (hd : ∀ i, i < n → D i) : P = rowL F n := eq_rowL h.1 fun i hi => h.2 i hi (hd i hi)
theorem Filled.none {n : Nat} {D : Nat → Prop} {F : Nat → Int} (hd : ∀ i, i < n → ¬ D i) : Filled n D F (List.replicate n 0) := ⟨by simp, fun i hi hD => absurd hD (hd i hi)⟩
theorem I32v_set (ys : List Int) (i : Nat) (x : Int) : (I32v ys).set i (.int .i32 x) = I32v (ys.set i x) := by simp [I32v, List.map_set]
theorem I32v_len (ys : List Int) : (I32v ys).length = ys.length := by simp [I32v]
/-! ### tiles -/
/-- the tile of the number at i. -/
def tileOf (cols : Nat) (i : Nat) : Nat := i / cols / 32 * ((cols + 31) / 32) + i % cols / 32
theorem tile_parts {cols i k : Nat} (hc : 0 < cols) (h : tileOf cols i = k) : i / cols / 32 = k / ((cols + 31) / 32) ∧ i % cols / 32 = k % ((cols + 31) / 32) := by
  have hm : i % cols < cols := Nat.mod_lt _ hc
  unfold tileOf at h
  have ha : 0 < (cols + 31) / 32 := by omega
  have hb : i % cols / 32 < (cols + 31) / 32 := by omega
  generalize (cols + 31) / 32 = a at *
  subst h
  constructor
  · rw [Nat.add_comm, Nat.add_mul_div_right _ _ ha, Nat.div_eq_of_lt hb, Nat.zero_add]
  · rw [Nat.add_comm, Nat.add_mul_mod_self_right, Nat.mod_eq_of_lt hb]
theorem tile_last {rows cols i : Nat} (hc : 0 < cols) (h : i < rows * cols) : tileOf cols i < (rows + 31) / 32 * ((cols + 31) / 32) := by
  have hm : i % cols < cols := Nat.mod_lt _ hc
  have hr : i / cols < rows := Nat.div_lt_of_lt_mul (by rw [Nat.mul_comm]; exact h)
  unfold tileOf
  have hb : i % cols / 32 < (cols + 31) / 32 := by omega
  have hq : i / cols / 32 + 1 ≤ (rows + 31) / 32 := by omega
  have := Nat.mul_le_mul_right ((cols + 31) / 32) hq
  rw [Nat.add_mul, Nat.one_mul] at this
  omega
theorem place_of {cols r c : Nat} (hc : c < cols) : (r * cols + c) / cols = r ∧ (r * cols + c) % cols = c := by
  have h0 : 0 < cols := by omega
  constructor
  · rw [Nat.add_comm, Nat.add_mul_div_right _ _ h0, Nat.div_eq_of_lt hc, Nat.zero_add]
  · rw [Nat.add_comm, Nat.add_mul_mod_self_right, Nat.mod_eq_of_lt hc]
theorem place_back {cols i : Nat} : i / cols * cols + i % cols = i := by rw [Nat.mul_comm]; exact Nat.div_add_mod i cols
theorem place_lt {rows cols r c : Nat} (hr : r < rows) (hc : c < cols) : r * cols + c < rows * cols := by
  have := Nat.mul_le_mul_right cols (show r + 1 ≤ rows by omega)
  rw [Nat.add_mul, Nat.one_mul] at this
  omega
/-- what stands when tile k is at row r, column c. -/
def Done3 (cols k r c i : Nat) : Prop := tileOf cols i < k ∨ (tileOf cols i = k ∧ (i / cols < r ∨ (i / cols = r ∧ i % cols < c)))
def Done2 (cols k r i : Nat) : Prop := tileOf cols i < k ∨ (tileOf cols i = k ∧ i / cols < r)
def Done1 (cols k i : Nat) : Prop := tileOf cols i < k
theorem done21 {cols k : Nat} (hc : 0 < cols) {i : Nat} (h : Done2 cols k (k / ((cols + 31) / 32) * 32) i) : Done1 cols k i := by
  rcases h with h | ⟨h1, h2⟩
  · exact h
  · have := (tile_parts hc h1).1; omega
theorem done12 {cols k rows r i : Nat} (hc : 0 < cols) (hi : i < rows * cols) (hr : r = rows ∨ (k / ((cols + 31) / 32) + 1) * 32 ≤ r) (h : Done1 cols (k + 1) i) : Done2 cols k r i := by
  have hq : i / cols < rows := Nat.div_lt_of_lt_mul (by rw [Nat.mul_comm]; exact hi)
  unfold Done1 at h
  rcases Nat.lt_or_ge (tileOf cols i) k with h1 | h1
  · exact .inl h1
  · have h2 : tileOf cols i = k := by omega
    have := (tile_parts hc h2).1
    exact .inr ⟨h2, by omega⟩
theorem done32 {cols k r : Nat} (hc : 0 < cols) {i : Nat} (h : Done3 cols k r (k % ((cols + 31) / 32) * 32) i) : Done2 cols k r i := by
  rcases h with h | ⟨h1, h2⟩
  · exact .inl h
  · have := (tile_parts hc h1).2
    exact .inr ⟨h1, by omega⟩
theorem done23 {cols k r c i : Nat} (hc : 0 < cols) (hr : c = cols ∨ (k % ((cols + 31) / 32) + 1) * 32 ≤ c) (h : Done2 cols k (r + 1) i) : Done3 cols k r c i := by
  have hm : i % cols < cols := Nat.mod_lt _ hc
  rcases h with h1 | ⟨h1, h2⟩
  · exact .inl h1
  · have := (tile_parts hc h1).2
    exact .inr ⟨h1, by omega⟩
theorem done33 {cols k r c i : Nat} (h : Done3 cols k r (c + 1) i) : Done3 cols k r c i ∨ i = r * cols + c := by
  rcases h with h1 | ⟨h1, h2⟩
  · exact .inl (.inl h1)
  · by_cases h3 : i / cols = r ∧ i % cols = c
    · right; rw [← h3.1, ← h3.2]; exact place_back.symm
    · exact .inl (.inr ⟨h1, by omega⟩)
section
variable {cols k a p q e0 e1 e2 e3 : Nat} (hc : 0 < cols) (ha : (cols + 31) / 32 = a) (hp : k / a = p) (hq : k % a = q)
include hc ha
theorem to21 (hp : k / a = p) (h0 : p * 32 = e0) {i : Nat} (h : Done2 cols k e0 i) : Done1 cols k i := by
  subst ha hp h0; exact done21 hc h
theorem to12 (hp : k / a = p) (h1 : (p + 1) * 32 = e1) {rows r i : Nat} (hi : i < rows * cols) (hr : r = rows ∨ e1 ≤ r) (h : Done1 cols (k + 1) i) : Done2 cols k r i := by
  subst ha hp h1; exact done12 hc hi hr h
theorem to32 (hq : k % a = q) (h2 : q * 32 = e2) {r i : Nat} (h : Done3 cols k r e2 i) : Done2 cols k r i := by
  subst ha hq h2; exact done32 hc h
theorem to23 (hq : k % a = q) (h3 : (q + 1) * 32 = e3) {r c i : Nat} (hr : c = cols ∨ e3 ≤ c) (h : Done2 cols k (r + 1) i) : Done3 cols k r c i := by
  subst ha hq h3; exact done23 hc hr h
end
/-- a number of the product. -/
def mulF (xs ys : List Int) (mid cols : Nat) (i : Nat) : Int := IntKind.i32.wrap (psum (fun k => xs.getD (i / cols * mid + k) 0 * ys.getD (i % cols * mid + k) 0) mid)
theorem cut_getD (xs : List Int) {p m k : Nat} (h : k < m) : ((xs.drop p).take m).getD k 0 = xs.getD (p + k) 0 := by
  rw [List.getD_eq_getElem?_getD, List.getElem?_take, if_pos h, List.getElem?_drop, ← List.getD_eq_getElem?_getD]
theorem cut_sum (xs ys : List Int) (p q m : Nat) : psum (dotF ((xs.drop p).take m) ((ys.drop q).take m)) m = psum (fun k => xs.getD (p + k) 0 * ys.getD (q + k) 0) m :=
  psum_congr fun k hk => by unfold dotF; rw [cut_getD _ hk, cut_getD _ hk]
theorem getD_none (xs : List Int) {k : Nat} (h : xs.length ≤ k) : xs.getD k 0 = 0 := by rw [List.getD_eq_getElem?_getD, List.getElem?_eq_none h]; rfl
theorem cut_I16 {xs : List Int} (h : I16b xs) (p m : Nat) : I16b ((xs.drop p).take m) := fun q => by
  by_cases hq : q < m
  · rw [cut_getD _ hq]; exact h _
  · rw [getD_none _ (by simp; omega)]; omega
theorem cut_I8 {xs : List Int} (h : I8b xs) (p m : Nat) : I8b ((xs.drop p).take m) := fun q => by
  by_cases hq : q < m
  · rw [cut_getD _ hq]; exact h _
  · rw [getD_none _ (by simp; omega)]; omega
/-- a piece of a slice reads. -/
theorem cut_rd {w : World} {B : Nat} {b o : Nat} {k : IntKind} {zs : List Int} (h : Kit.Rd w B (some ⟨b, o, none⟩) (zs.map (.int k))) (p m : Nat) : Kit.Rd w B (some ⟨b, o + p, none⟩) (((zs.drop p).take m).map (.int k)) := by
  have h9 := (h.drop p).take m
  rw [Option.map_some, Go.WideShapes.add_plain] at h9
  rw [List.map_take, List.map_drop]; exact h9
theorem cut_len {zs : List Int} {n p m : Nat} (hl : zs.length = n) (h : p + m ≤ n) : ((zs.drop p).take m).length = m := by simp; omega
theorem mul_at (xs ys : List Int) {m c i j I1 I2 A1 B1 : Nat} (h1 : i * c = I1) (h2 : I1 + j = I2) (hj : j < c) (h3 : i * m = A1) (h4 : j * m = B1) {F : Nat → Int} (hF : F = mulF xs ys m c) :
    IntKind.i32.wrap (psum (dotF ((xs.drop A1).take m) ((ys.drop B1).take m)) m) = F I2 := by
  subst h1 h2 h3 h4 hF
  obtain ⟨e1, e2⟩ := place_of (r := i) hj
  rw [cut_sum]
  unfold mulF
  rw [e1, e2]
end Go.Proofs.YtoghpoopgkahiaaGreatDoor.CGemm
end
section
namespace Go.Proofs.YtoghpoopgkahiaaGreatDoor.CJoin
open Go Go.ChangeShapes Go.WideShapes Go.ChangeAt Go.RowKit Go.Shelf
set_option linter.unusedVariables false
attribute [local go_sem] Oper.semAt_some
theorem pairs_to (A B : Option Addr) (n c m d : Nat) (w : World) :
    Calls Tryz.prog 58 #[.slice A n c, .slice B m d] w fun e w' => e = .returned (.func (.func 104) #[] #[.pointer (some ⟨w.heap.size, 0, none⟩), .pointer (some ⟨w.heap.size + 1, 0, none⟩)]) ∧ w' = (w.alloc (.cells #[.slice A n c] 23)).alloc (.cells #[.slice B m d] 23) := by
  go_enter Tryz.func58, Tryz.ntmps58
  go_wp2_with fail
  go_ret
  exact ⟨rfl, rfl⟩
/-- what lay below stays, and so does one box. -/
def KeepJ (n₀ P2 : Nat) (A B : World) : Prop := Below n₀ A B ∧ B.cell? ⟨P2, 0, none⟩ = A.cell? ⟨P2, 0, none⟩
theorem KeepJ.trans {n₀ P2 : Nat} {A B C : World} (h : KeepJ n₀ P2 A B) (k : KeepJ n₀ P2 B C) : KeepJ n₀ P2 A C := ⟨h.1.trans k.1, k.2.trans h.2⟩
set_option maxRecDepth 100000 in
set_option maxHeartbeats 4000000 in
theorem pairs_in (F : Fence) (n : Nat) (h8 : F.fn 104) (hro : F.round = none) (hn : 1 ≤ n) (l P1 P2 n₀ b off b2 off2 len cap cap2 : Nat) (zs ys : List Int) (hreach : len ≤ 1000000) (hb : b < n₀) (hb2 : b2 < n₀) (J Jx : List Nat → World → Prop)
    (hY : ∀ pre x W, J pre W → pre.length < len → YieldAt F (n - 1) Tryz.prog l #[.int .i8 (zs.getD x 0), .int .i8 (ys.getD x 0)] W fun e W' =>
      (e = .returned (.bool true) ∧ J (pre ++ [x]) W' ∧ KeepJ n₀ P2 W W') ∨ (e = .returned (.bool false) ∧ Jx (pre ++ [x]) W'))
    (W : World) (hP1 : W.cell? ⟨P1, 0, none⟩ = some (.slice (some ⟨b, off, none⟩) len cap)) (hP2 : W.cell? ⟨P2, 0, none⟩ = some (.slice (some ⟨b2, off2, none⟩) len cap2))
    (hc : ∀ j, j < len → W.cell? ⟨b, off + j, none⟩ = some (.int .i8 (zs.getD j 0))) (hc2 : ∀ j, j < len → W.cell? ⟨b2, off2 + j, none⟩ = some (.int .i8 (ys.getD j 0))) (h0 : J [] W) :
    CallsIn F n Tryz.prog 104 #[.func (.yield l) #[] #[], .pointer (some ⟨P1, 0, none⟩), .pointer (some ⟨P2, 0, none⟩)] W fun e W' => (∃ v, e = .returned v) ∧
      ((∃ ls, ls = List.range len ∧ J ls W') ∨ (∃ pre, Jx pre W')) := by
  refine callsIn_of_wp Tryz.func104 rfl h8 ?_ hro
  simp only [Tryz.ntmps104, List.size_toArray, List.length_cons, List.length_nil, Nat.reduceAdd, Nat.reduceSub, Array.replicate_succ, Array.replicate_zero, List.push_toArray, List.append_toArray, List.nil_append, List.cons_append]
  have HY := Lib.hid hY
  have HC := Lib.hid hc
  have HC2 := Lib.hid hc2
  have HP2 := Lib.hid hP2
  clear hY hc hc2 hP2
  gi_wp2
  gi_loopw [8] (fun i wr => ∃ k : Nat, k ≤ len ∧ i = .int .i64 k ∧ Hid (J (List.range k) wr) ∧ Hid (KeepJ n₀ P2 W wr))
    (fun i _ => len - (intOf i).toNat)
  case atStart => exact ⟨0, Nat.zero_le _, rfl, Lib.hid h0, Lib.hid ⟨Below.refl _ _, rfl⟩⟩
  case round =>
    obtain ⟨k, hk, rfl, hJs, hnx⟩ := hrel
    clear hP1
    by_cases hlt : k < len
    · have hcx := (hnx.out.1.cell (p := ⟨b, off + k, none⟩) hb).trans (HC.out k hlt)
      have hcy := (hnx.out.1.cell (p := ⟨b2, off2 + k, none⟩) hb2).trans (HC2.out k hlt)
      have hp2 := hnx.out.2.trans HP2.out
      obtain ⟨fn, tmps, assign, body, hy, hR⟩ := HY.out _ k wr hJs.out (by rw [List.length_range]; exact hlt)
      generalize zs.getD k 0 = x at hcx hR hy
      generalize ys.getD k 0 = y at hcy hR hy
      have hkI : (k : Int) < (len : Int) := by omega
      have hk0 : (0 : Int) ≤ (k : Int) := by omega
      gi_wp2
      refine hR.mono ?_
      rintro e W3 (⟨rfl, hJ3, hk3⟩ | ⟨rfl, hJx3⟩)
      · -- the round goes on
        have HJ3 : Hid (J (List.range (k + 1)) W3) := Lib.hid (by rw [List.range_succ]; exact hJ3)
        have HK3 := Lib.hid (hnx.out.trans hk3)
        clear hJ3 hk3 hcx hcy hp2 hy hR
        gi_wp2
        go_roundw
        case rel => exact ⟨k + 1, by omega, by simp, HJ3, HK3⟩
        case measure => simp [intOf]; omega
      · gi_wp2
        refine bodyPost_ret (results_none rfl _ _ _) rfl ?_
        exact ⟨⟨_, rfl⟩, .inr ⟨_, hJx3⟩⟩
    · obtain rfl : k = len := by omega
      gi_wp2
      go_end0
      exact ⟨⟨_, rfl⟩, .inl ⟨_, rfl, hJs.out⟩⟩
theorem seq_pairs (F : Fence) (n : Nat) (h8 : F.fn 104) (hro : F.round = none) (hn : 1 ≤ n) (P1 P2 n₀ : Nat) (A B : Option Addr) (c d N : Nat) (zs ys : List Int) (hz : zs.length = N) (hy : ys.length = N) (hN : 1 ≤ N) (hreach : N ≤ 1000000) (w : World) (l1 : P1 < w.heap.size) (l2 : P2 < w.heap.size) (hn₀ : n₀ ≤ w.heap.size)
    (hP1 : w.cell? ⟨P1, 0, none⟩ = some (.slice A N c)) (hP2 : w.cell? ⟨P2, 0, none⟩ = some (.slice B N d)) (hA : Kit.Rd w n₀ A (zs.map (.int .i8))) (hB : Kit.Rd w n₀ B (ys.map (.int .i8))) :
    SeqStopsK F n Tryz.prog 104 #[.pointer (some ⟨P1, 0, none⟩), .pointer (some ⟨P2, 0, none⟩)] (fun x : Nat => #[Value.int .i8 (zs.getD x 0), Value.int .i8 (ys.getD x 0)]) (KeepJ n₀ P2) (fun ls => ls = List.range N)
      (fun _ => True) N w := by
  intro l J Jx W hW _ _ hY h0
  have c1 := (hW.cell (p := ⟨P1, 0, none⟩) l1).trans hP1
  have c2 := (hW.cell (p := ⟨P2, 0, none⟩) l2).trans hP2
  have hA' := hA.below (hW.mono hn₀)
  have hB' := hB.below (hW.mono hn₀)
  obtain ⟨b, off, rfl, hb, hx⟩ := hA'.plain (by rw [List.length_map]; omega)
  obtain ⟨b2, off2, rfl, hb2, hx2⟩ := hB'.plain (by rw [List.length_map]; omega)
  have hcx : ∀ j, j < N → W.cell? ⟨b, off + j, none⟩ = some (.int .i8 (zs.getD j 0)) := fun j hj => hx j _ (by rw [List.getElem?_map, List.getD_eq_getElem?_getD, List.getElem?_eq_getElem (by omega)]; rfl)
  have hcy : ∀ j, j < N → W.cell? ⟨b2, off2 + j, none⟩ = some (.int .i8 (ys.getD j 0)) := fun j hj => hx2 j _ (by rw [List.getElem?_map, List.getD_eq_getElem?_getD, List.getElem?_eq_getElem (by omega)]; rfl)
  refine (pairs_in F n h8 hro hn l P1 P2 n₀ b off b2 off2 N c d zs ys hreach hb hb2 J Jx hY W c1 c2 hcx hcy h0).mono ?_
  rintro e W' ⟨he, (⟨ls, rfl, hj⟩ | ⟨pre, hj⟩)⟩
  · exact ⟨he, .inl ⟨_, rfl, hj⟩⟩
  · exact ⟨he, .inr ⟨_, trivial, hj⟩⟩
end Go.Proofs.YtoghpoopgkahiaaGreatDoor.CJoin
end
section
namespace Go.Proofs.YtoghpoopgkahiaaGreatDoor.Round
open Go
set_option linter.unusedVariables false
section
variable {l n : Nat} {P : Program} {ops : Array Oper} {Q : Exit → Act → World → Prop} {md : Region.Mode}
theorem rows_wide {row : String} {args : Array Value} {w : World} {R : Value → World → Prop} (h : Rows P row args w R) : RowsIn (Fence.wide.inRound l) n P row args w R := fun c cs _ => by
  obtain ⟨v, w', r, s⟩ := h c cs
  exact ⟨v, w', r, stepsIn_wide.2 s⟩
theorem oper_wide {o : Oper} {a : Act} {w : World} {K K' : Act → World → Prop} (hd : ∀ c, o.op ≠ .defer c) (hK : ∀ a w, K a w → K' a w) (h : o.wp P a w K (Norm Q)) : o.wpIn (Fence.wide.inRound l) n P a w K' Q := by
  refine ⟨fun f _ => trivial, ?_⟩
  rw [Oper.semAt_eq _ _ _ hd]
  unfold Oper.wp at h
  generalize (execOp a.eval o).run P w = r at h
  cases r with
  | ok x w' =>
    cases x with
    | value v => exact hK _ _ h
    | skip => exact hK _ _ h
    | defer d => exact hK _ _ h
    | enter f args =>
      refine ⟨fun h => by simp [Fence.wide] at h, ?_⟩
      refine (CallsIn.inRound l (callsIn_wide.2 h)).mono ?_
      intro e w'' he
      cases e with
      | returned v => exact hK _ _ he
      | panicked c => exact he.elim
      | outgrown => obtain ⟨a, w, h⟩ := he; exact h.elim
    | row row args =>
      refine ⟨fun h => by simp [Fence.wide] at h, ?_⟩
      refine RowsIn.mono (rows_wide h) ?_
      intro v w'' he
      exact hK _ _ he
    | _ => exact (h : False).elim
  | halt x w' =>
    cases x <;> first | exact h.elim | exact (h : False).elim
theorem wpAnyIn_of_wide (hst : ∀ (i : Nat) (o : Oper), ops[i]? = some o → ∀ c, o.op ≠ .defer c) : ∀ (fuel : Nat) (listed : Array Bool) (a : Act) (w : World),
    wpAny P md ops (Norm Q) fuel listed a w → wpAnyIn (Fence.wide.inRound l) n P md ops Q fuel listed a w
  | 0, _, _, _, h => h
  | fuel + 1, listed, a, w, h => by
    refine ⟨h.1, fun i hi => ?_⟩
    have hop := h.2 i hi
    unfold wpOp at hop
    unfold wpOpIn
    cases ho : ops[i]? with
    | none =>
      simp only [ho] at hop
      exact wpAnyIn_of_wide hst fuel _ _ _ hop
    | some o =>
      simp only [ho] at hop
      have h1 := hst i o ho
      by_cases hw : Region.wanted o (yielded ops a.tmps) = true
      · simp only [hw, if_true] at hop ⊢
        rcases hop with hop | ⟨_, _, _, hF⟩
        · exact oper_wide h1 (fun a' w' h' => wpAnyIn_of_wide hst fuel _ _ _ h') hop
        · exact hF.elim
      · simp only [hw, if_false, Bool.false_eq_true] at hop ⊢
        exact ⟨fun f _ => trivial, wpAnyIn_of_wide hst fuel _ _ _ hop⟩
theorem no_defer {lo : List Oper} (h : lo.all (fun o => match o.op with | .defer _ => false | _ => true) = true) : ∀ (i : Nat) (o : Oper), lo.toArray[i]? = some o → ∀ c, o.op ≠ .defer c := fun i o ho c e => by
  have := List.all_eq_true.1 h o (List.mem_of_getElem? (by simpa using ho))
  rw [e] at this
  cases this
/-- the beginning of such a region, with what all its worlds hold. -/
theorem region_held {S : World → Prop} {id : Nat} {lo : List Oper} {a : Act} {w : World} (hm : P.follows .mixedOrders = true) (hst : lo.all (fun o => match o.op with | .defer _ => false | _ => true) = true) (hS : S w.drew)
    (h : S w.drew → wpAnyH P .any lo.toArray (Norm Q) S lo.toArray.size (Array.replicate lo.toArray.size false) a w.drew) : (Code.region id lo.toArray true).wpIn (Fence.wide.inRound l) n P Q a w :=
  wpIn_region_any hm (wpAnyIn_of_wide (no_defer hst) _ _ _ _ (wpAny_of_held _ _ _ _ (h hS)))
end
end Go.Proofs.YtoghpoopgkahiaaGreatDoor.Round
end
