/- GemmAll: Gemm, GemmHold, GemmNum, GemmMulC, one behind the other. -/
import Derived.Test.YtceejjliboiciaaRows
import Derived.Test.YtceejjliboiciaaPlain
import Derived.Test.YtceejjliboiciaaNum
import Derived.Test.YtceejjliboiciaaKit
import Derived.IntWalk
import Derived.BigQuiet
import Derived.OrdersHeld
import Derived.Lib.SliceRun
import Derived.Deep.CutRange
import Derived.Deep.RegionHeld3
namespace Go.Proofs.Ytceejjliboiciaa.CGemm
open Go Go.ChangeShapes Go.WideShapes Go.ChangeAt Go.RowKit
open Plain
set_option linter.unusedVariables false

/-- the sum of the first n. -/
def psum (G : Nat → Int) : Nat → Int
  | 0 => 0
  | n + 1 => psum G n + G n
theorem psum_bd {G : Nat → Int} {b : Int} {n : Nat} (h : ∀ k, k < n → -b ≤ G k ∧ G k ≤ b) : -(b * n) ≤ psum G n ∧ psum G n ≤ b * n := by
  induction n with
  | zero => simp [psum]
  | succ n ih =>
    have h1 := ih (fun k hk => h k (by omega))
    have h2 := h n (by omega)
    have e : b * ((n + 1 : Nat) : Int) = b * (n : Int) + b := by rw [show ((n + 1 : Nat) : Int) = (n : Int) + 1 by omega, Int.mul_add, Int.mul_one]
    rw [e]
    simp only [psum]
    omega
theorem psum_congr {G G' : Nat → Int} {n : Nat} (h : ∀ k, k < n → G k = G' k) : psum G n = psum G' n := by
  induction n with
  | zero => rfl
  | succ n ih => simp only [psum]; rw [ih (fun k hk => h k (by omega)), h n (by omega)]
theorem psum_split (G : Nat → Int) (p q : Nat) : psum G (p + q) = psum G p + psum (fun k => G (p + k)) q := by
  induction q with
  | zero => simp [psum]
  | succ q ih => rw [← Nat.add_assoc]; simp only [psum]; rw [ih]; omega
theorem wrap32_add (a b : Int) : IntKind.i32.wrap (IntKind.i32.wrap a + b) = IntKind.i32.wrap (a + b) := by rw [IntKind.wrap_i32, IntKind.wrap_i32, IntKind.wrap_i32]; omega
theorem wrap32_add' (a b : Int) : IntKind.i32.wrap (a + IntKind.i32.wrap b) = IntKind.i32.wrap (a + b) := by rw [IntKind.wrap_i32, IntKind.wrap_i32, IntKind.wrap_i32]; omega
def I16b (zs : List Int) : Prop := ∀ q, -32768 ≤ zs.getD q 0 ∧ zs.getD q 0 ≤ 32767
def I8b (zs : List Int) : Prop := ∀ q, -128 ≤ zs.getD q 0 ∧ zs.getD q 0 ≤ 127
theorem mul_bd {x y : Int} (x1 : -32768 ≤ x) (x2 : x ≤ 32767) (y1 : -128 ≤ y) (y2 : y ≤ 127) : -4194304 ≤ x * y ∧ x * y ≤ 4194304 := by
  have a1 : 0 ≤ (32768 + x) * (127 - y) := Int.mul_nonneg (by omega) (by omega)
  have a2 : 0 ≤ (32768 + x) * (128 + y) := Int.mul_nonneg (by omega) (by omega)
  have a3 : 0 ≤ (32767 - x) * (127 - y) := Int.mul_nonneg (by omega) (by omega)
  have a4 : 0 ≤ (32767 - x) * (128 + y) := Int.mul_nonneg (by omega) (by omega)
  simp only [Int.add_mul, Int.sub_mul, Int.mul_sub, Int.mul_add] at a1 a2 a3 a4
  omega
/-- the products at one place. -/
def dotF (xs ys : List Int) (k : Nat) : Int := xs.getD k 0 * ys.getD k 0
theorem dotF_bd {xs ys : List Int} (hx : I16b xs) (hy : I8b ys) (k : Nat) : -4194304 ≤ dotF xs ys k ∧ dotF xs ys k ≤ 4194304 := mul_bd (hx k).1 (hx k).2 (hy k).1 (hy k).2
theorem ints_getD {w : World} {B : Nat} {A : Option Addr} {k : IntKind} {zs : List Int} (h : Kit.Rd w B A (zs.map (.int k))) {j : Nat} (hj : j < zs.length) :
    ∃ b off, A = some ⟨b, off, none⟩ ∧ b < B ∧ ∀ i, i < zs.length → w.cell? ⟨b, off + i, none⟩ = some (.int k (zs.getD i 0)) := by
  obtain ⟨b, off, e, hb, hc⟩ := h.plain (by simp; omega)
  exact ⟨b, off, e, hb, fun i hi => hc i _ (by simp [List.getD_eq_getElem?_getD, List.getElem?_eq_getElem hi])⟩

set_option maxHeartbeats 1000000 in
theorem dot_to (A B : Option Addr) (xs ys : List Int) (n m c d b : Nat) (hx : xs.length = n) (hy : ys.length = m) (hb : min n m = b) (hnc : n ≤ c) (hmd : m ≤ d) (hb1 : b ≤ 1000000) (hc : c ≤ maxLen) (hd : d ≤ maxLen) (hxb : I16b xs) (hyb : I8b ys)
    (w : World) {B1 B2 : Nat} (hr : Kit.Rd w B1 A (xs.map (.int .i16))) (hs : Kit.Rd w B2 B (ys.map (.int .i8))) (R : Int) (hR : IntKind.i32.wrap (psum (dotF xs ys) b) = R) :
    Calls Try.prog 48 #[.slice A n c, .slice B m d] w fun e w' => e = .returned (.int .i32 R) ∧ ∃ q, w' = w.drewN q := by
  have HRR := Lib.hid hR
  have HXB := Lib.hid hxb
  have HYB := Lib.hid hyb
  have HR := Lib.hid hr
  have HS := Lib.hid hs
  have hbn : b ≤ n := by omega
  have hbm : b ≤ m := by omega
  have hbc : b ≤ c := by omega
  have hbd : b ≤ d := by omega
  have hcm : c ≤ 9223372036854775807 := by unfold maxLen at hc; omega
  have hdm : d ≤ 9223372036854775807 := by unfold maxLen at hd; omega
  have hb0 : (0 : Int) ≤ (b : Int) := by omega
  have hbc' : (b : Int) ≤ (c : Int) := by omega
  have hbd' : (b : Int) ≤ (d : Int) := by omega
  clear hR hxb hyb hr hs hc hd
  rcases (show (n ≤ m ∧ b = n) ∨ (m < n ∧ b = m) by omega) with ⟨hle, rfl⟩ | ⟨hle, rfl⟩
  all_goals
    go_enter Try.func48, Try.ntmps48
    go_wp2_with fail
    go_quiet (fail)
    go_wp2_with fail
    go_loopw [6, 22] (fun u i wr => ∃ k : Nat, k ≤ b ∧ i = .int .i64 k ∧ u = .int .i32 (IntKind.i32.wrap (psum (dotF xs ys) k)) ∧ Hid (wr = w.drewN nq)) (fun _ i _ => b - (intOf i).toNat)
    case atStart => exact ⟨0, Nat.zero_le _, rfl, congrArg (Value.int .i32) (by simp [psum, IntKind.wrap_i32]), Lib.hid rfl⟩
    case round =>
      obtain ⟨k, hk, rfl, rfl, hw⟩ := hrel
      obtain rfl := hw.out
      clear hw
      by_cases hlt : k < b
      · obtain ⟨b1, o1, rfl, _, hcx0⟩ := ints_getD HR.out (j := 0) (by omega)
        obtain ⟨b2, o2, rfl, _, hcy0⟩ := ints_getD HS.out (j := 0) (by omega)
        have hcx := hcx0 k (by omega)
        have hcy := hcy0 k (by omega)
        clear hcx0 hcy0
        have hk0 : (0 : Int) ≤ (k : Int) := by omega
        have hkb : (k : Int) < (b : Int) := by omega
        obtain ⟨x1, x2⟩ := HXB.out k
        obtain ⟨y1, y2⟩ := HYB.out k
        obtain ⟨t1, t2⟩ := mul_bd x1 x2 y1 y2
        have hnext : IntKind.i32.wrap (IntKind.i32.wrap (psum (dotF xs ys) k) + xs.getD k 0 * ys.getD k 0) = IntKind.i32.wrap (psum (dotF xs ys) (k + 1)) := by
          rw [wrap32_add]; simp only [psum]; rfl
        generalize xs.getD k 0 = x at hcx x1 x2 t1 t2 hnext
        generalize ys.getD k 0 = y at hcy y1 y2 t1 t2 hnext
        obtain ⟨u1, hu1⟩ : ∃ u1, IntKind.i32.wrap (psum (dotF xs ys) k) = u1 := ⟨_, rfl⟩
        obtain ⟨u2, hu2⟩ : ∃ u2, IntKind.i32.wrap (psum (dotF xs ys) (k + 1)) = u2 := ⟨_, rfl⟩
        have HU2 := Lib.hid hu2
        rw [hu1, hu2] at hnext
        rw [hu1]
        have e1 : IntKind.i32.wrap x = x := IntWalk.i32_in _ (by omega)
        have e2 : IntKind.i32.wrap y = y := IntWalk.i32_in _ (by omega)
        have e3 : IntKind.i32.wrap (x * y) = x * y := IntWalk.i32_in _ (by omega)
        clear hu1 hu2 t1 t2
        go_wp2_with fail
        go_roundw
        case rel => exact ⟨k + 1, by omega, by go_num, congrArg _ HU2.out.symm, by first | exact Lib.hid rfl | exact Lib.hid trivial⟩
        case measure => simp [intOf]; omega
      · obtain rfl : k = b := by omega
        rw [HRR.out]
        go_wp2_with fail
        go_ret
        exact ⟨rfl, nq, rfl⟩

end Go.Proofs.Ytceejjliboiciaa.CGemm

namespace Go.Proofs.Ytceejjliboiciaa.CGemm
open Go Go.ChangeShapes Go.WideShapes Go.ChangeAt Go.RowKit
open Plain
set_option linter.unusedVariables false

/-- may a matrix of so many rows and columns have so many numbers? -/
def holdsB (L r c : Int) : Bool := decide (1 ≤ r ∧ r ≤ 16384 ∧ 1 ≤ c ∧ c ≤ 16384 ∧ L = r * c)
theorem small_mul {r c : Int} (h1 : 1 ≤ r) (h2 : r ≤ 16384) (h3 : 1 ≤ c) (h4 : c ≤ 16384) : 1 ≤ r * c ∧ r * c ≤ 268435456 := by
  have a := Int.mul_le_mul h2 h4 (by omega) (by omega)
  have b := Int.mul_le_mul h1 h3 (by omega) (by omega)
  omega
theorem holdsB_yes {L r c : Int} (h : holdsB L r c = true) : 1 ≤ r ∧ r ≤ 16384 ∧ 1 ≤ c ∧ c ≤ 16384 ∧ L = r * c := by simpa [holdsB] using h
theorem holds_to (L r c : Int) (b : Bool) (hb : holdsB L r c = b) (w : World) :
    Calls Try.prog 45 #[.int .i64 L, .int .i64 r, .int .i64 c] w fun e w' => e = .returned (.bool b) ∧ w = w' := by
  have HB := Lib.hid hb
  clear hb
  rcases (show r < 1 ∨ (1 ≤ r ∧ 16384 < r) ∨ (1 ≤ r ∧ r ≤ 16384 ∧ c < 1) ∨ (1 ≤ r ∧ r ≤ 16384 ∧ 1 ≤ c ∧ 16384 < c) ∨ (1 ≤ r ∧ r ≤ 16384 ∧ 1 ≤ c ∧ c ≤ 16384) by omega) with h1 | ⟨h1, h2⟩ | ⟨h1, h2, h3⟩ | ⟨h1, h2, h3, h4⟩ | ⟨h1, h2, h3, h4⟩
  · obtain rfl : b = false := by rw [← HB.out]; simp [holdsB]; omega
    go_enter Try.func45, Try.ntmps45
    go_wp2_with fail
    go_ret
    exact ⟨rfl, rfl⟩
  · obtain rfl : b = false := by rw [← HB.out]; simp [holdsB]; omega
    go_enter Try.func45, Try.ntmps45
    go_wp2_with fail
    go_ret
    exact ⟨rfl, rfl⟩
  · obtain rfl : b = false := by rw [← HB.out]; simp [holdsB]; omega
    go_enter Try.func45, Try.ntmps45
    go_wp2_with fail
    go_ret
    exact ⟨rfl, rfl⟩
  · obtain rfl : b = false := by rw [← HB.out]; simp [holdsB]; omega
    go_enter Try.func45, Try.ntmps45
    go_wp2_with fail
    go_ret
    exact ⟨rfl, rfl⟩
  · obtain ⟨s1, s2⟩ := small_mul h1 h2 h3 h4
    have e : IntKind.i64.wrap (r * c) = r * c := IntWalk.i64_in _ (by omega)
    have hbb : decide (L = r * c) = b := by rw [← HB.out]; simp [holdsB, h1, h2, h3, h4]
    obtain ⟨q, hq⟩ : ∃ q, r * c = q := ⟨_, rfl⟩
    rw [hq] at e hbb
    have e2 : IntKind.i64.wrap (r * c) = q := by rw [hq]; exact e
    clear hq s1 s2 HB
    go_enter Try.func45, Try.ntmps45
    go_wp2_with fail
    go_ret
    refine ⟨?_, rfl⟩
    rw [← hbb]
    first | rfl | simp
theorem tiles_to (n : Nat) (h : n ≤ 16384) (w : World) :
    Calls Try.prog 46 #[.int .i64 (n : Int)] w fun e w' => e = .returned (.int .i64 (((n + 31) / 32 : Nat) : Int)) ∧ w = w' := by
  have e1 : IntKind.i64.wrap ((n : Int) + 32) = (n : Int) + 32 := IntWalk.i64_in _ (by omega)
  have e2 : IntKind.i64.wrap ((n : Int) + 32 - 1) = (n : Int) + 31 := by rw [IntWalk.i64_in _ (by omega)]; omega
  have e3 : ((n : Int) + 31).tdiv 32 = (((n + 31) / 32 : Nat) : Int) := by
    rw [Int.tdiv_eq_ediv_of_nonneg (by omega)]; omega
  have e4 : IntKind.i64.wrap ((((n + 31) / 32 : Nat) : Int)) = (((n + 31) / 32 : Nat) : Int) := IntWalk.i64_in _ (by omega)
  generalize (n + 31) / 32 = q at e3 e4 ⊢
  go_enter Try.func46, Try.ntmps46
  go_wp2_with fail
  go_ret
  exact ⟨rfl, rfl⟩
theorem range_4 {w : World} {b : Nat} {v0 v1 v2 v3 : Value} (h0 : w.cell? ⟨b, 0, none⟩ = some v0) (h1 : w.cell? ⟨b, 1, none⟩ = some v1) (h2 : w.cell? ⟨b, 2, none⟩ = some v2) (h3 : w.cell? ⟨b, 3, none⟩ = some v3) :
    w.rangeAt b 0 [v0, v1, v2, v3] := fun j v hj => by
  match j, hj with
  | 0, hj => simp only [List.getElem?_cons_zero] at hj; cases hj; exact h0
  | 1, hj => simp at hj; cases hj; exact h1
  | 2, hj => simp at hj; cases hj; exact h2
  | 3, hj => simp at hj; cases hj; exact h3
  | j + 4, hj => simp at hj
theorem bounds_to (p q e0 e1 e2 e3 : Nat) (h : p ≤ 1000) (h' : q ≤ 1000) (h0 : p * 32 = e0) (h1 : (p + 1) * 32 = e1) (h2 : q * 32 = e2) (h3 : (q + 1) * 32 = e3) (w : World) :
    Calls Try.prog 47 #[.int .i64 (p : Int), .int .i64 (q : Int)] w fun e w' => e = .returned (.agg #[.int .i64 (e0 : Int), .int .i64 (e1 : Int), .int .i64 (e2 : Int), .int .i64 (e3 : Int)]) ∧ Below w.heap.size w w' := by
  obtain ⟨p', hp⟩ : ∃ p' : Int, (p : Int) + 1 = p' := ⟨_, rfl⟩
  obtain ⟨q', hq⟩ : ∃ q' : Int, (q : Int) + 1 = q' := ⟨_, rfl⟩
  have g1 : IntKind.i64.wrap ((p : Int) * 32) = (e0 : Int) := by rw [IntWalk.i64_in _ (by omega)]; omega
  have g2 : IntKind.i64.wrap ((p : Int) + 1) = p' := by rw [IntWalk.i64_in _ (by omega)]; omega
  have g3 : IntKind.i64.wrap (p' * 32) = (e1 : Int) := by rw [IntWalk.i64_in _ (by omega)]; omega
  have f1 : IntKind.i64.wrap ((q : Int) * 32) = (e2 : Int) := by rw [IntWalk.i64_in _ (by omega)]; omega
  have f2 : IntKind.i64.wrap ((q : Int) + 1) = q' := by rw [IntWalk.i64_in _ (by omega)]; omega
  have f3 : IntKind.i64.wrap (q' * 32) = (e3 : Int) := by rw [IntWalk.i64_in _ (by omega)]; omega
  clear hp hq h0 h1 h2 h3
  go_enter Try.func47, Try.ntmps47
  go_wp2_with fail
  refine bodyPost_ret (Kit.results_c rfl _ _ w.heap.size 0 [.int .i64 (e0 : Int), .int .i64 (e1 : Int), .int .i64 (e2 : Int), .int .i64 (e3 : Int)] _ rfl (range_4 (by go_cell) (by go_cell) (by go_cell) (by go_cell)) Try.underlying91 rfl (by kernel_rfl)) rfl ?_
  exact ⟨rfl, (Below.refl _ _).alloc (Nat.le_refl _) _⟩
end Go.Proofs.Ytceejjliboiciaa.CGemm

namespace Go.Proofs.Ytceejjliboiciaa.CGemm
open Go Go.ChangeShapes Go.WideShapes Go.ChangeAt Go.RowKit
open Plain
set_option linter.unusedVariables false

def I32v (zs : List Int) : List Value := zs.map (.int .i32)
def I8v (zs : List Int) : List Value := zs.map (.int .i8)
/-- the first n numbers of a rule. -/
def rowL (F : Nat → Int) (n : Nat) : List Int := (List.range n).map F
theorem rowL_len (F : Nat → Int) (n : Nat) : (rowL F n).length = n := by simp [rowL]
theorem rowL_succ (F : Nat → Int) (n : Nat) : rowL F (n + 1) = rowL F n ++ [F n] := by simp [rowL, List.range_succ]
theorem rowL_at (F : Nat → Int) {n i : Nat} (h : i < n) : (rowL F n)[i]? = some (F i) := by simp [rowL, h]
theorem rowL_getD (F : Nat → Int) {n i : Nat} (h : i < n) : (rowL F n).getD i 0 = F i := by rw [List.getD_eq_getElem?_getD, rowL_at F h]; rfl
theorem rowL_congr {F G : Nat → Int} {n : Nat} (h : ∀ i, i < n → F i = G i) : rowL F n = rowL G n := by
  apply List.ext_getElem?
  intro i
  by_cases hi : i < n
  · rw [rowL_at F hi, rowL_at G hi, h i hi]
  · rw [List.getElem?_eq_none (by rw [rowL_len]; omega), List.getElem?_eq_none (by rw [rowL_len]; omega)]
theorem eq_rowL {P : List Int} {F : Nat → Int} {n : Nat} (hl : P.length = n) (h : ∀ i, i < n → P[i]? = some (F i)) : P = rowL F n := by
  apply List.ext_getElem?
  intro i
  by_cases hi : i < n
  · rw [rowL_at F hi, h i hi]
  · rw [List.getElem?_eq_none (by omega), List.getElem?_eq_none (by rw [rowL_len]; omega)]
/-- n numbers, of which those of D stand already. -/
def Filled (n : Nat) (D : Nat → Prop) (F : Nat → Int) (P : List Int) : Prop := P.length = n ∧ ∀ i, i < n → D i → P[i]? = some (F i)
theorem Filled.mono {n : Nat} {D D' : Nat → Prop} {F : Nat → Int} {P : List Int} (h : Filled n D F P) (hd : ∀ i, i < n → D' i → D i) : Filled n D' F P := ⟨h.1, fun i hi hD => h.2 i hi (hd i hi hD)⟩
theorem Filled.set {n : Nat} {D D' : Nat → Prop} {F : Nat → Int} {P : List Int} (h : Filled n D F P) {j : Nat} {v : Int} (hv : F j = v) (hd : ∀ i, i < n → D' i → D i ∨ i = j) : Filled n D' F (P.set j v) := by
  refine ⟨by simpa using h.1, fun i hi hD => ?_⟩
  rw [List.getElem?_set]
  by_cases e : j = i
  · subst e
    rw [if_pos rfl, if_pos (by rw [h.1]; exact hi), hv]
  · rw [if_neg e]
    rcases hd i hi hD with h1 | h1
    · exact h.2 i hi h1
    · exact absurd h1.symm e
theorem Filled.all {n : Nat} {D : Nat → Prop} {F : Nat → Int} {P : List Int} (h : Filled n D F P) (hd : ∀ i, i < n → D i) : P = rowL F n := eq_rowL h.1 fun i hi => h.2 i hi (hd i hi)
theorem Filled.none {n : Nat} {D : Nat → Prop} {F : Nat → Int} (hd : ∀ i, i < n → ¬ D i) : Filled n D F (List.replicate n 0) := ⟨by simp, fun i hi hD => absurd hD (hd i hi)⟩
theorem I32v_set (ys : List Int) (i : Nat) (x : Int) : (I32v ys).set i (.int .i32 x) = I32v (ys.set i x) := by simp [I32v, List.map_set]
theorem I8v_set (ys : List Int) (i : Nat) (x : Int) : (I8v ys).set i (.int .i8 x) = I8v (ys.set i x) := by simp [I8v, List.map_set]
theorem I32v_len (ys : List Int) : (I32v ys).length = ys.length := by simp [I32v]
theorem I8v_len (ys : List Int) : (I8v ys).length = ys.length := by simp [I8v]

/-! ### tiles -/
/-- the tile of the number at i. -/
def tileOf (cols : Nat) (i : Nat) : Nat := i / cols / 32 * ((cols + 31) / 32) + i % cols / 32
theorem tile_parts {cols i k : Nat} (hc : 0 < cols) (h : tileOf cols i = k) : i / cols / 32 = k / ((cols + 31) / 32) ∧ i % cols / 32 = k % ((cols + 31) / 32) := by
  have hm : i % cols < cols := Nat.mod_lt _ hc
  unfold tileOf at h
  have ha : 0 < (cols + 31) / 32 := by omega
  have hb : i % cols / 32 < (cols + 31) / 32 := by omega
  generalize (cols + 31) / 32 = a at *
  subst h
  constructor
  · rw [Nat.add_comm, Nat.add_mul_div_right _ _ ha, Nat.div_eq_of_lt hb, Nat.zero_add]
  · rw [Nat.add_comm, Nat.add_mul_mod_self_right, Nat.mod_eq_of_lt hb]
theorem tile_last {rows cols i : Nat} (hc : 0 < cols) (h : i < rows * cols) : tileOf cols i < (rows + 31) / 32 * ((cols + 31) / 32) := by
  have hm : i % cols < cols := Nat.mod_lt _ hc
  have hr : i / cols < rows := Nat.div_lt_of_lt_mul (by rw [Nat.mul_comm]; exact h)
  unfold tileOf
  have hb : i % cols / 32 < (cols + 31) / 32 := by omega
  have hq : i / cols / 32 + 1 ≤ (rows + 31) / 32 := by omega
  have := Nat.mul_le_mul_right ((cols + 31) / 32) hq
  rw [Nat.add_mul, Nat.one_mul] at this
  omega
theorem place_of {cols r c : Nat} (hc : c < cols) : (r * cols + c) / cols = r ∧ (r * cols + c) % cols = c := by
  have h0 : 0 < cols := by omega
  constructor
  · rw [Nat.add_comm, Nat.add_mul_div_right _ _ h0, Nat.div_eq_of_lt hc, Nat.zero_add]
  · rw [Nat.add_comm, Nat.add_mul_mod_self_right, Nat.mod_eq_of_lt hc]
theorem place_back {cols i : Nat} : i / cols * cols + i % cols = i := by rw [Nat.mul_comm]; exact Nat.div_add_mod i cols
theorem place_lt {rows cols r c : Nat} (hr : r < rows) (hc : c < cols) : r * cols + c < rows * cols := by
  have := Nat.mul_le_mul_right cols (show r + 1 ≤ rows by omega)
  rw [Nat.add_mul, Nat.one_mul] at this
  omega
/-- what stands when tile k is at row r, column c. -/
def Done3 (cols k r c i : Nat) : Prop := tileOf cols i < k ∨ (tileOf cols i = k ∧ (i / cols < r ∨ (i / cols = r ∧ i % cols < c)))
def Done2 (cols k r i : Nat) : Prop := tileOf cols i < k ∨ (tileOf cols i = k ∧ i / cols < r)
def Done1 (cols k i : Nat) : Prop := tileOf cols i < k
theorem done21 {cols k : Nat} (hc : 0 < cols) {i : Nat} (h : Done2 cols k (k / ((cols + 31) / 32) * 32) i) : Done1 cols k i := by
  rcases h with h | ⟨h1, h2⟩
  · exact h
  · have := (tile_parts hc h1).1; omega
theorem done12 {cols k rows r i : Nat} (hc : 0 < cols) (hi : i < rows * cols) (hr : r = rows ∨ (k / ((cols + 31) / 32) + 1) * 32 ≤ r) (h : Done1 cols (k + 1) i) : Done2 cols k r i := by
  have hq : i / cols < rows := Nat.div_lt_of_lt_mul (by rw [Nat.mul_comm]; exact hi)
  unfold Done1 at h
  rcases Nat.lt_or_ge (tileOf cols i) k with h1 | h1
  · exact .inl h1
  · have h2 : tileOf cols i = k := by omega
    have := (tile_parts hc h2).1
    exact .inr ⟨h2, by omega⟩
theorem done32 {cols k r : Nat} (hc : 0 < cols) {i : Nat} (h : Done3 cols k r (k % ((cols + 31) / 32) * 32) i) : Done2 cols k r i := by
  rcases h with h | ⟨h1, h2⟩
  · exact .inl h
  · have := (tile_parts hc h1).2
    exact .inr ⟨h1, by omega⟩
theorem done23 {cols k r c i : Nat} (hc : 0 < cols) (hr : c = cols ∨ (k % ((cols + 31) / 32) + 1) * 32 ≤ c) (h : Done2 cols k (r + 1) i) : Done3 cols k r c i := by
  have hm : i % cols < cols := Nat.mod_lt _ hc
  rcases h with h1 | ⟨h1, h2⟩
  · exact .inl h1
  · have := (tile_parts hc h1).2
    exact .inr ⟨h1, by omega⟩
theorem done33 {cols k r c i : Nat} (h : Done3 cols k r (c + 1) i) : Done3 cols k r c i ∨ i = r * cols + c := by
  rcases h with h1 | ⟨h1, h2⟩
  · exact .inl (.inl h1)
  · by_cases h3 : i / cols = r ∧ i % cols = c
    · right; rw [← h3.1, ← h3.2]; exact place_back.symm
    · exact .inl (.inr ⟨h1, by omega⟩)
section
variable {cols k a p q e0 e1 e2 e3 : Nat} (hc : 0 < cols) (ha : (cols + 31) / 32 = a) (hp : k / a = p) (hq : k % a = q)
include hc ha
theorem to21 (hp : k / a = p) (h0 : p * 32 = e0) {i : Nat} (h : Done2 cols k e0 i) : Done1 cols k i := by
  subst ha hp h0; exact done21 hc h
theorem to12 (hp : k / a = p) (h1 : (p + 1) * 32 = e1) {rows r i : Nat} (hi : i < rows * cols) (hr : r = rows ∨ e1 ≤ r) (h : Done1 cols (k + 1) i) : Done2 cols k r i := by
  subst ha hp h1; exact done12 hc hi hr h
theorem to32 (hq : k % a = q) (h2 : q * 32 = e2) {r i : Nat} (h : Done3 cols k r e2 i) : Done2 cols k r i := by
  subst ha hq h2; exact done32 hc h
theorem to23 (hq : k % a = q) (h3 : (q + 1) * 32 = e3) {r c i : Nat} (hr : c = cols ∨ e3 ≤ c) (h : Done2 cols k (r + 1) i) : Done3 cols k r c i := by
  subst ha hq h3; exact done23 hc hr h
end
/-- a number of the product. -/
def mulF (xs ys : List Int) (mid cols : Nat) (i : Nat) : Int := IntKind.i32.wrap (psum (fun k => xs.getD (i / cols * mid + k) 0 * ys.getD (i % cols * mid + k) 0) mid)
theorem cut_getD (xs : List Int) {p m k : Nat} (h : k < m) : ((xs.drop p).take m).getD k 0 = xs.getD (p + k) 0 := by
  rw [List.getD_eq_getElem?_getD, List.getElem?_take, if_pos h, List.getElem?_drop, ← List.getD_eq_getElem?_getD]
theorem cut_sum (xs ys : List Int) (p q m : Nat) : psum (dotF ((xs.drop p).take m) ((ys.drop q).take m)) m = psum (fun k => xs.getD (p + k) 0 * ys.getD (q + k) 0) m :=
  psum_congr fun k hk => by unfold dotF; rw [cut_getD _ hk, cut_getD _ hk]
theorem getD_none (xs : List Int) {k : Nat} (h : xs.length ≤ k) : xs.getD k 0 = 0 := by rw [List.getD_eq_getElem?_getD, List.getElem?_eq_none h]; rfl
theorem cut_I16 {xs : List Int} (h : I16b xs) (p m : Nat) : I16b ((xs.drop p).take m) := fun q => by
  by_cases hq : q < m
  · rw [cut_getD _ hq]; exact h _
  · rw [getD_none _ (by simp; omega)]; omega
theorem cut_I8 {xs : List Int} (h : I8b xs) (p m : Nat) : I8b ((xs.drop p).take m) := fun q => by
  by_cases hq : q < m
  · rw [cut_getD _ hq]; exact h _
  · rw [getD_none _ (by simp; omega)]; omega
/-- a piece of a slice reads. -/
theorem cut_rd {w : World} {B : Nat} {b o : Nat} {k : IntKind} {zs : List Int} (h : Kit.Rd w B (some ⟨b, o, none⟩) (zs.map (.int k))) (p m : Nat) : Kit.Rd w B (some ⟨b, o + p, none⟩) (((zs.drop p).take m).map (.int k)) := by
  have h9 := (h.drop p).take m
  rw [Option.map_some, Go.WideShapes.add_plain] at h9
  rw [List.map_take, List.map_drop]; exact h9
theorem cut_len {zs : List Int} {n p m : Nat} (hl : zs.length = n) (h : p + m ≤ n) : ((zs.drop p).take m).length = m := by simp; omega
theorem mul_at (xs ys : List Int) {m c i j I1 I2 A1 B1 : Nat} (h1 : i * c = I1) (h2 : I1 + j = I2) (hj : j < c) (h3 : i * m = A1) (h4 : j * m = B1) {F : Nat → Int} (hF : F = mulF xs ys m c) :
    IntKind.i32.wrap (psum (dotF ((xs.drop A1).take m) ((ys.drop B1).take m)) m) = F I2 := by
  subst h1 h2 h3 h4 hF
  obtain ⟨e1, e2⟩ := place_of (r := i) hj
  rw [cut_sum]
  unfold mulF
  rw [e1, e2]
end Go.Proofs.Ytceejjliboiciaa.CGemm

namespace Go.Proofs.Ytceejjliboiciaa.CGemm
open Go Go.ChangeShapes Go.WideShapes Go.ChangeAt Go.RowKit
open Plain
set_option linter.unusedVariables false

/-- the box of a tile's bounds. -/
def EdgeAt (g a b c d : Nat) (w : World) : Prop := w.cell? ⟨g, 0, none⟩ = some (.int .i64 (a : Int)) ∧ w.cell? ⟨g, 1, none⟩ = some (.int .i64 (b : Int)) ∧ w.cell? ⟨g, 2, none⟩ = some (.int .i64 (c : Int)) ∧ w.cell? ⟨g, 3, none⟩ = some (.int .i64 (d : Int))
theorem EdgeAt.new (a b c d : Nat) (T : TypeId) (w : World) : EdgeAt w.heap.size a b c d (w.alloc (.cells #[.int .i64 (a : Int), .int .i64 (b : Int), .int .i64 (c : Int), .int .i64 (d : Int)] T)) :=
  ⟨Kit.new_cell _ _ _ _, Kit.new_cell _ _ _ _, Kit.new_cell _ _ _ _, Kit.new_cell _ _ _ _⟩
theorem EdgeAt.drewN {g a b c d : Nat} {w : World} (h : EdgeAt g a b c d w) (n : Nat) : EdgeAt g a b c d (w.drewN n) := h
theorem EdgeAt.set {g a b c d b' o : Nat} {w : World} (h : EdgeAt g a b c d w) (hne : b' ≠ g) (v : Value) : EdgeAt g a b c d (w.setCell ⟨b', o, none⟩ v) :=
  ⟨(World.cell?_setCell_far _ _ _ _ hne).trans h.1, (World.cell?_setCell_far _ _ _ _ hne).trans h.2.1, (World.cell?_setCell_far _ _ _ _ hne).trans h.2.2.1, (World.cell?_setCell_far _ _ _ _ hne).trans h.2.2.2⟩
/-- a call that hands back a list of its own. -/
def Owned (w : World) (T n : Nat) (xs : List Value) (e : Ending) (w' : World) : Prop :=
  ∃ v, e = .returned v ∧ w'.ownsRow w.heap.size T 1 v n xs ∧ Below w.heap.size w w'
theorem info_i32 : (Try.prog.info? 21).map (fun i => (i.zero, i.size, i.bytes)) = some (some (.int .i32 0), 1, 4) := by kernel_rfl
theorem info_i8 : (Try.prog.info? 27).map (fun i => (i.zero, i.size, i.bytes)) = some (some (.int .i8 0), 1, 1) := by kernel_rfl
theorem info_parts {T : Nat} {z : Value} {a b : Nat} (h : (Try.prog.info? T).map (fun i => (i.zero, i.size, i.bytes)) = some (some z, a, b)) : ∃ i, Try.prog.info? T = some i ∧ i.zero = some z ∧ i.size = a ∧ i.bytes = b := by
  cases hi : Try.prog.info? T with
  | none => rw [hi] at h; cases h
  | some i => rw [hi] at h; simp at h; exact ⟨i, rfl, h.1, h.2.1, h.2.2⟩
/-- no product where the matrices are none. -/
theorem mul_no (A B : Option Addr) (n1 n2 c1 c2 : Nat) (r m c : Int) (h : (holdsB n1 r m && holdsB n2 c m) = false) (w : World) :
    Calls Try.prog 27 #[.slice A n1 c1, .slice B n2 c2, .int .i64 r, .int .i64 m, .int .i64 c] w fun e w' => e = .returned (.slice none 0 0) ∧ w = w' := by
  obtain ⟨b1, hb1⟩ : ∃ b, holdsB n1 r m = b := ⟨_, rfl⟩
  obtain ⟨b2, hb2⟩ : ∃ b, holdsB n2 c m = b := ⟨_, rfl⟩
  rw [hb1, hb2] at h
  have H1 := Lib.hid hb1
  have H2 := Lib.hid hb2
  clear hb1 hb2
  cases b1
  · go_enter Try.func27, Try.ntmps27
    go_wp2
    go_step3
    go_wp2_with (go_at_call 45; (refine (holds_to _ _ _ _ H1.out _).mono ?_); rintro e w1 ⟨rfl, rfl⟩)
    rw [Exit.noGoto_ret]
    go_ret
    exact ⟨rfl, rfl⟩
  · obtain rfl : b2 = false := by simpa using h
    go_enter Try.func27, Try.ntmps27
    go_wp2
    go_step3
    go_wp2_with (first
      | (go_at_call 45; (refine (holds_to _ _ _ _ H1.out _).mono ?_); rintro e w1 ⟨rfl, rfl⟩; clear H1)
      | (go_at_call 45; (refine (holds_to _ _ _ _ H2.out _).mono ?_); rintro e w1 ⟨rfl, rfl⟩))
    rw [Exit.noGoto_ret]
    go_ret
    exact ⟨rfl, rfl⟩

set_option maxRecDepth 100000 in
set_option maxHeartbeats 4000000 in
theorem mul_yes (A B : Option Addr) (xs ys : List Int) (n1 n2 c1 c2 r m c N : Nat) (hx : xs.length = n1) (hy : ys.length = n2) (h1 : holdsB n1 r m = true) (h2 : holdsB n2 c m = true) (hN : r * c = N) (hN1 : N ≤ 1000000)
    (hnc1 : n1 ≤ c1) (hnc2 : n2 ≤ c2) (hc1 : c1 ≤ maxLen) (hc2 : c2 ≤ maxLen) (hxb : I16b xs) (hyb : I8b ys) (F : Nat → Int) (hF : F = mulF xs ys m c) (w : World)
    (hr : Kit.Rd w w.heap.size A (xs.map (.int .i16))) (hs : Kit.Rd w w.heap.size B (ys.map (.int .i8))) :
    Calls Try.prog 27 #[.slice A n1 c1, .slice B n2 c2, .int .i64 (r : Int), .int .i64 (m : Int), .int .i64 (c : Int)] w (Owned w 21 N (I32v (rowL F N))) := by
  have H1 := Lib.hid h1
  have H2 := Lib.hid h2
  obtain ⟨g1, g2, g3, g4, g5⟩ := holdsB_yes h1
  obtain ⟨g6, g7, -, -, g8⟩ := holdsB_yes h2
  have hn1 : n1 = r * m := by have := g5; rw [← Int.natCast_mul] at this; exact Int.ofNat.inj this
  have hn2 : n2 = c * m := by have := g8; rw [← Int.natCast_mul] at this; exact Int.ofNat.inj this
  obtain ⟨q1, q2⟩ := small_mul g1 g2 g6 g7
  have hrc : (r : Int) * (c : Int) = (N : Int) := by rw [← hN]; simp
  have hrcw : IntKind.i64.wrap ((r : Int) * (c : Int)) = (N : Int) := by rw [hrc]; exact IntWalk.i64_in _ (by omega)
  have hm0 : 0 < m := by omega
  have hc0 : 0 < c := by omega
  have hr0 : 0 < r := by omega
  have hpa : 0 < n1 := by rw [hn1]; exact Nat.mul_pos hr0 hm0
  have hpb : 0 < n2 := by rw [hn2]; exact Nat.mul_pos hc0 hm0
  have hp1 : 0 < xs.length := by omega
  have hp2 : 0 < ys.length := by omega
  obtain ⟨b1, o1, rfl, hb1, -⟩ := ints_getD hr (j := 0) hp1
  obtain ⟨b2, o2, rfl, hb2, -⟩ := ints_getD hs (j := 0) hp2
  obtain ⟨T, hT⟩ : ∃ T, (r + 31) / 32 * ((c + 31) / 32) = T := ⟨_, rfl⟩
  obtain ⟨a, ha⟩ : ∃ a, (c + 31) / 32 = a := ⟨_, rfl⟩
  have ha1 : a ≤ 512 := by omega
  have hr2 : (r + 31) / 32 ≤ 512 := by omega
  have hT2 : T ≤ 262144 := by rw [← hT, ha]; exact Nat.le_trans (Nat.mul_le_mul hr2 ha1) (by omega)
  have htt : IntKind.i64.wrap ((((r + 31) / 32 : Nat) : Int) * (a : Int)) = (T : Int) := by
    rw [← Int.natCast_mul, ← ha, hT]; exact IntWalk.i64_in _ (by omega)
  have HX := Lib.hid hx
  have HY := Lib.hid hy
  have HF := Lib.hid hF
  have HR := Lib.hid hr
  have HS := Lib.hid hs
  have HXB := Lib.hid hxb
  have HYB := Lib.hid hyb
  have HN1 := Lib.hid hn1
  have HN2 := Lib.hid hn2
  have HNN := Lib.hid hN
  have HTT := Lib.hid hT
  have HA := Lib.hid ha
  clear h1 h2 hx hy hF hr hs hxb hyb hn1 hn2 hN hT g5 g8 hrc q1 q2
  generalize hrq : (r + 31) / 32 = rq at htt hr2 HTT
  have HRQ := Lib.hid hrq
  clear hrq
  go_enter Try.func27, Try.ntmps27
  obtain ⟨i0, hi0, hi1, hi2, hi3⟩ := info_parts info_i32
  go_wp2
  go_step3
  go_wp2_with (first
    | (go_at_call 45; (refine (holds_to _ _ _ _ H1.out _).mono ?_); rintro e w1 ⟨rfl, rfl⟩; clear H1)
    | (go_at_call 45; (refine (holds_to _ _ _ _ H2.out _).mono ?_); rintro e w1 ⟨rfl, rfl⟩; clear H2)
    | (go_at_call 46; (refine (tiles_to c (by omega) _).mono ?_); rintro e w1 ⟨rfl, rfl⟩; rw [HA.out])
    | (at_make; refine wpList_make_full _ rfl (.tmp 33) (.tmp 33) _ rfl w.heap.size 21 i0 (.int .i32 0) 1 Try.underlying28 hi0 hi1 hi2 .i64 .i64 _ _ N rfl rfl rfl rfl (by rw [hi3]; omega) (by unfold maxLen; omega) (by omega) ?_; intro w2 hown hg2))
  rw [show (madeCells (Value.int IntKind.i32 0).cells (N * 1)).toList = I32v (List.replicate N 0) by rw [Nat.mul_one]; show (madeCells #[Value.int .i32 0] N).toList = _; rw [toList_madeCells_one]; simp [I32v]] at hown
  have HOWN := Lib.hid hown
  have HB2 : Hid (Below w.heap.size w w2) := Lib.hid ((Below.refl w.heap.size w).grown hg2 (Nat.le_refl _) (fun q hq => by cases hq))
  clear hown hg2 hi0 hi1 hi2 hi3
  go_step3
  go_wp2_with (go_at_call 46; (refine (tiles_to r (by omega) _).mono ?_); rintro e w1 ⟨rfl, rfl⟩; rw [HRQ.out])
  go_loopw [41] (fun i wr => ∃ (k : Nat) (P : List Int), k ≤ T ∧ i = .int .i64 k ∧ Hid (wr.ownsRow w.heap.size 21 1 (.slice (some ⟨w.heap.size, 0, none⟩) N N) N (I32v P)) ∧ Hid (Filled N (Done1 c k) F P) ∧ Hid (Below w.heap.size w wr)) (fun i _ => T - (intOf i).toNat)
  case atStart => exact ⟨0, _, Nat.zero_le _, rfl, HOWN, Lib.hid (Filled.none (fun i _ h => by simp [Done1] at h)), HB2⟩
  case round =>
    obtain ⟨k, P, hk, rfl, HO1, HF1, HB1⟩ := hrel
    clear HOWN HB2
    by_cases hlt : k < T
    · have hkI : (k : Int) < (T : Int) := by omega
      obtain ⟨p, hp⟩ : ∃ p, k / a = p := ⟨_, rfl⟩
      obtain ⟨q, hq⟩ : ∃ q, k % a = q := ⟨_, rfl⟩
      have ha0 : 0 < a := by omega
      have hpr : p < rq := by
        have hTT := HTT.out
        rw [HA.out] at hTT
        rw [← hp]; exact Nat.div_lt_of_lt_mul (by rw [Nat.mul_comm, hTT]; exact hlt)
      have hqa : q < a := by rw [← hq]; exact Nat.mod_lt _ ha0
      have hp32 : p * 32 < r := by have := HRQ.out; omega
      have hq32 : q * 32 < c := by omega
      obtain ⟨e0, he0⟩ : ∃ e, p * 32 = e := ⟨_, rfl⟩
      obtain ⟨e1, he1⟩ : ∃ e, (p + 1) * 32 = e := ⟨_, rfl⟩
      obtain ⟨e2, he2⟩ : ∃ e, q * 32 = e := ⟨_, rfl⟩
      obtain ⟨e3, he3⟩ : ∃ e, (q + 1) * 32 = e := ⟨_, rfl⟩
      rw [he0] at hp32
      rw [he2] at hq32
      have HE0 := Lib.hid he0
      have HE1 := Lib.hid he1
      have HE2 := Lib.hid he2
      have HE3 := Lib.hid he3
      clear he0 he1 he2 he3
      have ha9 : ¬ a = 0 := by omega
      have d1 : (k : Int).tdiv (a : Int) = (p : Int) := by rw [Int.tdiv_eq_ediv_of_nonneg (by omega), ← hp]; simp
      have d2 : (k : Int).tmod (a : Int) = (q : Int) := by rw [Int.tmod_eq_emod_of_nonneg (by omega), ← hq]; simp
      have d3 : IntKind.i64.wrap (p : Int) = (p : Int) := IntWalk.i64_in _ (by omega)
      have d4 : IntKind.i64.wrap (q : Int) = (q : Int) := IntWalk.i64_in _ (by omega)
      have HP := Lib.hid hp
      have HQ := Lib.hid hq
      clear hp hq
      have hgw : w.heap.size < wr.heap.size := Kit.block_lt_of_own HO1.out
      go_wp2_with fail
      go_cut [14, 41] from 41 to 98 (fun s14 s41 wx => ∃ ge : Nat, s14 = .pointer (some ⟨ge, 0, none⟩) ∧ s41 = .int .i64 (k : Int) ∧ w.heap.size < ge ∧ EdgeAt ge e0 e1 e2 e3 wx ∧ Below wr.heap.size wr wx)
      case first =>
        refine wp_region_held_drew (S := fun _ => True) (by kernel_rfl) trivial (fun hHeld => ?_)
        refine wpAnyH_take (i := 0) (oi := ({ dst := some 44, op := Op.move (Operand.tmp 13), type := 3, pos := "gemm.go:29", after := #[], guard := none } : Oper)) (v := ?_) rfl (by kernel_rfl) (by kernel_rfl) (by kernel_rfl) (fun _ _ _ h => h) (Or.inl ⟨by rfl, ?_⟩) (by assumption) ?_
        rotate_left
        · intro wS hSw
          first
            | (go_simp; done)
            | (go_simp; with_reducible rfl)
        try simp only [Act.put, List.setIfInBounds_toArray, List.set_cons_zero, List.set_cons_succ]
        refine wpAnyH_take (i := 1) (oi := ({ dst := some 45, op := Op.move (Operand.tmp 12), type := 3, pos := "gemm.go:29", after := #[], guard := none } : Oper)) (v := ?_) rfl (by kernel_rfl) (by kernel_rfl) (by kernel_rfl) (fun _ _ _ h => h) (Or.inl ⟨by rfl, ?_⟩) (by assumption) ?_
        rotate_left
        · intro wS hSw
          first
            | (go_simp; done)
            | (go_simp; with_reducible rfl)
        try simp only [Act.put, List.setIfInBounds_toArray, List.set_cons_zero, List.set_cons_succ]
        refine wpAnyH_take (i := 2) (oi := ({ dst := some 46, op := Op.binOp BinOp.quo 3 (Operand.tmp 44) (Operand.tmp 45) 3, type := 3, pos := "gemm.go:29", after := #[{ on := 0, ground := Ground.data }, { on := 1, ground := Ground.data }], guard := none } : Oper)) (v := ?_) rfl (by kernel_rfl) (by kernel_rfl) (by kernel_rfl) (fun _ _ _ h => h) (Or.inl ⟨by rfl, ?_⟩) (by assumption) ?_
        rotate_left
        · intro wS hSw
          first
            | (go_simp; done)
            | (go_simp; with_reducible rfl)
        try simp only [Act.put, List.setIfInBounds_toArray, List.set_cons_zero, List.set_cons_succ]
        refine wpAnyH_take (i := 3) (oi := ({ dst := some 47, op := Op.move (Operand.tmp 13), type := 3, pos := "gemm.go:29", after := #[], guard := none } : Oper)) (v := ?_) rfl (by kernel_rfl) (by kernel_rfl) (by kernel_rfl) (fun _ _ _ h => h) (Or.inl ⟨by rfl, ?_⟩) (by assumption) ?_
        rotate_left
        · intro wS hSw
          first
            | (go_simp; done)
            | (go_simp; with_reducible rfl)
        try simp only [Act.put, List.setIfInBounds_toArray, List.set_cons_zero, List.set_cons_succ]
        refine wpAnyH_take (i := 4) (oi := ({ dst := some 48, op := Op.move (Operand.tmp 12), type := 3, pos := "gemm.go:29", after := #[], guard := none } : Oper)) (v := ?_) rfl (by kernel_rfl) (by kernel_rfl) (by kernel_rfl) (fun _ _ _ h => h) (Or.inl ⟨by rfl, ?_⟩) (by assumption) ?_
        rotate_left
        · intro wS hSw
          first
            | (go_simp; done)
            | (go_simp; with_reducible rfl)
        try simp only [Act.put, List.setIfInBounds_toArray, List.set_cons_zero, List.set_cons_succ]
        refine wpAnyH_take (i := 5) (oi := ({ dst := some 49, op := Op.binOp BinOp.rem 3 (Operand.tmp 47) (Operand.tmp 48) 3, type := 3, pos := "gemm.go:29", after := #[{ on := 3, ground := Ground.data }, { on := 4, ground := Ground.data }], guard := none } : Oper)) (v := ?_) rfl (by kernel_rfl) (by kernel_rfl) (by kernel_rfl) (fun _ _ _ h => h) (Or.inl ⟨by rfl, ?_⟩) (by assumption) ?_
        rotate_left
        · intro wS hSw
          first
            | (go_simp; done)
            | (go_simp; with_reducible rfl)
        try simp only [Act.put, List.setIfInBounds_toArray, List.set_cons_zero, List.set_cons_succ]
        refine wpAnyH_ready (rs := [6, 7]) (by kernel_rfl) (by simp) ?_
        refine AllReadyH.cons (o := ({ dst := some 50, op := Op.call { callee := Callee.value (Operand.func 47), args := #[Operand.tmp 46, Operand.tmp 49], argTypes := #[3, 3] }, type := 91, pos := "gemm.go:29", after := #[{ on := 2, ground := Ground.data }, { on := 5, ground := Ground.data }], guard := none } : Oper)) rfl (fun K hK => ?_) ?_
        · go_simp
          go_at_call 47
          refine (bounds_to p q e0 e1 e2 e3 (by omega) (by omega) HE0.out HE1.out HE2.out HE3.out _).mono ?_
          rintro e w3 ⟨rfl, hb3⟩
          have hs3 := hb3.size
          dsimp only
          refine hK.out _ _ ?_ (fun hHeld => ?_)
          · trivial
          clear hK K
          try simp only [Act.put, List.setIfInBounds_toArray, List.set_cons_zero, List.set_cons_succ]
          refine wpAnyH_ready (rs := [7]) (by kernel_rfl) (by simp) ?_
          refine AllReadyH.cons (o := ({ dst := some 14, op := Op.alloc 91, type := 0, pos := "gemm.go:29", after := #[], guard := none } : Oper)) rfl (fun K hK => ?_) (AllReadyH.nil)
          go_simp
          refine hK.out _ _ ?_ (fun hHeld => ?_)
          · trivial
          clear hK K
          try simp only [Act.put, List.setIfInBounds_toArray, List.set_cons_zero, List.set_cons_succ]
          refine wpAnyH_ready (rs := [8]) (by kernel_rfl) (by simp) ?_
          refine AllReadyH.cons (o := ({ dst := none, op := Op.store 91 (Operand.tmp 14) (Operand.tmp 50), type := 0, pos := "gemm.go:29", after := #[{ on := 7, ground := Ground.data }, { on := 6, ground := Ground.data }, { on := 6, ground := Ground.chain }, { on := 0, ground := Ground.phase }, { on := 1, ground := Ground.phase }, { on := 2, ground := Ground.phase }, { on := 3, ground := Ground.phase }, { on := 4, ground := Ground.phase }, { on := 5, ground := Ground.phase }, { on := 6, ground := Ground.phase }, { on := 7, ground := Ground.phase }], guard := none } : Oper)) rfl (fun K hK => ?_) (AllReadyH.nil)
          go_simp
          refine hK.out _ _ ?_ (fun hHeld => ?_)
          · trivial
          clear hK K
          try simp only [Act.put, List.setIfInBounds_toArray, List.set_cons_zero, List.set_cons_succ]
          refine wpAnyH_done (by kernel_rfl) ?_ _
          go_wp2_with fail
          go_meet
          exact ⟨_, rfl, rfl, by have := hs3; simp at this; omega, EdgeAt.new _ _ _ _ _ _, (Below.refl _ _).drew.trans (hb3.alloc hb3.size _)⟩
        refine AllReadyH.cons (o := ({ dst := some 14, op := Op.alloc 91, type := 0, pos := "gemm.go:29", after := #[], guard := none } : Oper)) rfl (fun K hK => ?_) ?_
        · go_simp
          refine hK.out _ _ ?_ (fun hHeld => ?_)
          · trivial
          clear hK K
          try simp only [Act.put, List.setIfInBounds_toArray, List.set_cons_zero, List.set_cons_succ]
          refine wpAnyH_ready (rs := [6]) (by kernel_rfl) (by simp) ?_
          refine AllReadyH.cons (o := ({ dst := some 50, op := Op.call { callee := Callee.value (Operand.func 47), args := #[Operand.tmp 46, Operand.tmp 49], argTypes := #[3, 3] }, type := 91, pos := "gemm.go:29", after := #[{ on := 2, ground := Ground.data }, { on := 5, ground := Ground.data }], guard := none } : Oper)) rfl (fun K hK => ?_) (AllReadyH.nil)
          go_simp
          go_at_call 47
          refine (bounds_to p q e0 e1 e2 e3 (by omega) (by omega) HE0.out HE1.out HE2.out HE3.out _).mono ?_
          rintro e w3 ⟨rfl, hb3⟩
          have hs3 := hb3.size
          simp at hs3
          have z0 := (hb3.cell (p := ⟨wr.heap.size, 0, none⟩) (by simp)).trans (Kit.new_cell _ _ _ _)
          have z1 := (hb3.cell (p := ⟨wr.heap.size, 1, none⟩) (by simp)).trans (Kit.new_cell _ _ _ _)
          have z2 := (hb3.cell (p := ⟨wr.heap.size, 2, none⟩) (by simp)).trans (Kit.new_cell _ _ _ _)
          have z3 := (hb3.cell (p := ⟨wr.heap.size, 3, none⟩) (by simp)).trans (Kit.new_cell _ _ _ _)
          have y0 := (hb3.frozen (p := ⟨wr.heap.size, 0, none⟩) (by simp)).trans (World.frozen?_alloc_at _ _ _ _ rfl)
          have y1 := (hb3.frozen (p := ⟨wr.heap.size, 1, none⟩) (by simp)).trans (World.frozen?_alloc_at _ _ _ _ rfl)
          have y2 := (hb3.frozen (p := ⟨wr.heap.size, 2, none⟩) (by simp)).trans (World.frozen?_alloc_at _ _ _ _ rfl)
          have y3 := (hb3.frozen (p := ⟨wr.heap.size, 3, none⟩) (by simp)).trans (World.frozen?_alloc_at _ _ _ _ rfl)
          simp at z0 z1 z2 z3
          dsimp only
          refine hK.out _ _ ?_ (fun hHeld => ?_)
          · trivial
          clear hK K
          try simp only [Act.put, List.setIfInBounds_toArray, List.set_cons_zero, List.set_cons_succ]
          refine wpAnyH_ready (rs := [8]) (by kernel_rfl) (by simp) ?_
          refine AllReadyH.cons (o := ({ dst := none, op := Op.store 91 (Operand.tmp 14) (Operand.tmp 50), type := 0, pos := "gemm.go:29", after := #[{ on := 7, ground := Ground.data }, { on := 6, ground := Ground.data }, { on := 6, ground := Ground.chain }, { on := 0, ground := Ground.phase }, { on := 1, ground := Ground.phase }, { on := 2, ground := Ground.phase }, { on := 3, ground := Ground.phase }, { on := 4, ground := Ground.phase }, { on := 5, ground := Ground.phase }, { on := 6, ground := Ground.phase }, { on := 7, ground := Ground.phase }], guard := none } : Oper)) rfl (fun K hK => ?_) (AllReadyH.nil)
          go_simp
          refine hK.out _ _ ?_ (fun hHeld => ?_)
          · trivial
          clear hK K
          try simp only [Act.put, List.setIfInBounds_toArray, List.set_cons_zero, List.set_cons_succ]
          refine wpAnyH_done (by kernel_rfl) ?_ _
          go_wp2_with fail
          go_meet
          exact ⟨_, rfl, rfl, hgw, ⟨by go_cell, by go_cell, by go_cell, by go_cell⟩, (((((((Below.refl _ _).drew.alloc (Nat.le_refl _) _).trans (hb3.mono (by simp))).setCell (by simp) _).setCell (by simp) _).setCell (by simp) _).setCell (by simp) _)⟩
        exact AllReadyH.nil
      case rest =>
        obtain ⟨ge, rfl, rfl, hge, hE, hbx⟩ := hcut
        have HO2 := Lib.hid (Kit.own_below HO1.out hbx)
        have HB2 : Hid (Below w.heap.size w wc) := Lib.hid (HB1.out.trans (hbx.mono (by omega)))
        have HE := Lib.hid hE
        have hne : w.heap.size ≠ ge := by omega
        clear HO1 HB1 hE hbx hge d1 d2 d3 d4 hgw
        obtain ⟨ec0, ec1, ec2, ec3⟩ := HE.out
        go_wp2_with fail
        clear ec0 ec1 ec2 ec3
        go_loopw [15] (fun u wr => ∃ (i : Nat) (P : List Int), u = .int .i64 i ∧ e0 ≤ i ∧ i ≤ r ∧ i ≤ e1 ∧ Hid (wr.ownsRow w.heap.size 21 1 (.slice (some ⟨w.heap.size, 0, none⟩) N N) N (I32v P)) ∧ Hid (Filled N (Done2 c k i) F P) ∧ Hid (Below w.heap.size w wr) ∧ Hid (EdgeAt ge e0 e1 e2 e3 wr)) (fun u _ => e1 - (intOf u).toNat)
        case atStart => exact ⟨e0, P, rfl, Nat.le_refl _, by omega, by have := HE0.out; have := HE1.out; omega, HO2, Lib.hid (HF1.out.mono (fun j _ h => to21 hc0 HA.out HP.out HE0.out h)), HB2, HE⟩
        case round =>
          clear HO2 HB2 HE HF1
          obtain ⟨i, P, rfl, hi0, hir, hi1, HO2, HF2, HB2, HE⟩ := hrel
          obtain ⟨ec0, ec1, ec2, ec3⟩ := HE.out
          by_cases hie : i < e1
          · by_cases hrr : i < r
            · have hiI : (i : Int) < (e1 : Int) := by omega
              have hirI : ¬ i = r := by omega
              have hirb : ((i : Int) == (r : Int)) = false := by simp; omega
              go_wp2_with fail
              clear ec0 ec1 ec2 ec3
              go_loopw [16] (fun u wr => ∃ (j : Nat) (P : List Int), u = .int .i64 j ∧ e2 ≤ j ∧ j ≤ c ∧ j ≤ e3 ∧ Hid (wr.ownsRow w.heap.size 21 1 (.slice (some ⟨w.heap.size, 0, none⟩) N N) N (I32v P)) ∧ Hid (Filled N (Done3 c k i j) F P) ∧ Hid (Below w.heap.size w wr) ∧ Hid (EdgeAt ge e0 e1 e2 e3 wr)) (fun u _ => e3 - (intOf u).toNat)
              case atStart => exact ⟨e2, P, rfl, Nat.le_refl _, by omega, by have := HE2.out; have := HE3.out; omega, HO2, Lib.hid (HF2.out.mono (fun j _ h => to32 hc0 HA.out HQ.out HE2.out h)), HB2, HE⟩
              case round =>
                clear HO2 HB2 HE HF2
                obtain ⟨j, P, rfl, hj0, hjc, hj3, HO3, HF3, HB3, HE⟩ := hrel
                obtain ⟨ec0, ec1, ec2, ec3⟩ := HE.out
                rcases (show (e3 ≤ c) ∨ (c < e3) by omega) with hmin | hmin
                all_goals
                  by_cases hje : j < e3 ∧ j < c
                  · obtain ⟨hj1, hj2⟩ := hje
                    have hj1I : (j : Int) < (e3 : Int) := by omega
                    have hj2I : (j : Int) < (c : Int) := by omega
                    obtain ⟨I1, hI1⟩ : ∃ I1, i * c = I1 := ⟨_, rfl⟩
                    obtain ⟨I2, hI2⟩ : ∃ I2, I1 + j = I2 := ⟨_, rfl⟩
                    obtain ⟨A1, hA1⟩ : ∃ A1, i * m = A1 := ⟨_, rfl⟩
                    obtain ⟨A2, hA2⟩ : ∃ A2, A1 + m = A2 := ⟨_, rfl⟩
                    obtain ⟨B1, hB1⟩ : ∃ B1, j * m = B1 := ⟨_, rfl⟩
                    obtain ⟨B2, hB2⟩ : ∃ B2, B1 + m = B2 := ⟨_, rfl⟩
                    have hIN : I2 < N := by rw [← HNN.out, ← hI2, ← hI1]; exact place_lt hrr hj2
                    have hAn : A2 ≤ n1 := by rw [HN1.out, ← hA2, ← hA1]; have := Nat.mul_le_mul_right m (show i + 1 ≤ r by omega); rwa [Nat.add_mul, Nat.one_mul] at this
                    have hBn : B2 ≤ n2 := by rw [HN2.out, ← hB2, ← hB1]; have := Nat.mul_le_mul_right m (show j + 1 ≤ c by omega); rwa [Nat.add_mul, Nat.one_mul] at this
                    have hcm1 : c1 ≤ 9223372036854775807 := by unfold maxLen at hc1; omega
                    have hcm2 : c2 ≤ 9223372036854775807 := by unfold maxLen at hc2; omega
                    obtain ⟨i', hi'⟩ : ∃ i', i + 1 = i' := ⟨_, rfl⟩
                    obtain ⟨j', hj'⟩ : ∃ j', j + 1 = j' := ⟨_, rfl⟩
                    have w1 : IntKind.i64.wrap ((i : Int) * (c : Int)) = (I1 : Int) := by rw [← Int.natCast_mul, hI1]; exact IntWalk.i64_in _ (by omega)
                    have w2' : IntKind.i64.wrap ((I1 : Int) + (j : Int)) = (I2 : Int) := by rw [← Int.natCast_add, hI2]; exact IntWalk.i64_in _ (by omega)
                    have w3 : IntKind.i64.wrap ((i : Int) * (m : Int)) = (A1 : Int) := by rw [← Int.natCast_mul, hA1]; exact IntWalk.i64_in _ (by omega)
                    have w4 : IntKind.i64.wrap ((i : Int) + 1) = (i' : Int) := by rw [IntWalk.i64_in _ (by omega)]; omega
                    have w5 : IntKind.i64.wrap ((i' : Int) * (m : Int)) = (A2 : Int) := by rw [← Int.natCast_mul, ← hi', Nat.add_mul, Nat.one_mul, hA1, hA2]; exact IntWalk.i64_in _ (by omega)
                    have w6 : IntKind.i64.wrap ((j : Int) * (m : Int)) = (B1 : Int) := by rw [← Int.natCast_mul, hB1]; exact IntWalk.i64_in _ (by omega)
                    have w7 : IntKind.i64.wrap ((j : Int) + 1) = (j' : Int) := by rw [IntWalk.i64_in _ (by omega)]; omega
                    have w8 : IntKind.i64.wrap ((j' : Int) * (m : Int)) = (B2 : Int) := by rw [← Int.natCast_mul, ← hj', Nat.add_mul, Nat.one_mul, hB1, hB2]; exact IntWalk.i64_in _ (by omega)
                    have s1 : (0 : Int) ≤ (A1 : Int) := by omega
                    have s2 : (A1 : Int) ≤ (A2 : Int) := by omega
                    have s3 : (A2 : Int) ≤ (c1 : Int) := by omega
                    have s4 : ¬ c1 = A1 := by omega
                    have s5 : (0 : Int) ≤ (B1 : Int) := by omega
                    have s6 : (B1 : Int) ≤ (B2 : Int) := by omega
                    have s7 : (B2 : Int) ≤ (c2 : Int) := by omega
                    have s8 : ¬ c2 = B1 := by omega
                    have s9 : (0 : Int) ≤ (I2 : Int) := by omega
                    have s0 : (I2 : Int) < (N : Int) := by omega
                    have sA : A2 - A1 = m := by omega
                    have sB : B2 - B1 = m := by omega
                    have HI1 := Lib.hid hI1
                    have HI2 := Lib.hid hI2
                    have HA1 := Lib.hid hA1
                    have HBB := Lib.hid hB1
                    have HJ' := Lib.hid hj'
                    have hfr : wr.frozen? ⟨w.heap.size, I2, none⟩ = false := HO3.out.frozenAt I2
                    have hcl : ∃ v, wr.cell? ⟨w.heap.size, I2, none⟩ = some v := ⟨_, (HO3.out.cellAt I2 (by omega)).trans (List.getElem?_eq_getElem (by rw [I32v_len, HF3.out.1]; exact hIN))⟩
                    obtain ⟨vold, hcl⟩ := hcl
                    go_wp2_with fail
                    clear ec0 ec1 ec2 ec3 hI1 hI2 hA1 hA2 hB1 hB2 hi' hj'
                    refine wp_region_held_drew (S := fun _ => True) (by kernel_rfl) trivial (fun hHeld => ?_)
                    refine wpAnyH_take (i := 0) (oi := ({ dst := some 72, op := Op.move (Operand.tmp 11), type := 28, pos := "gemm.go:36", after := #[], guard := none } : Oper)) (v := ?_) rfl (by kernel_rfl) (by kernel_rfl) (by kernel_rfl) (fun _ _ _ h => h) (Or.inl ⟨by rfl, ?_⟩) (by assumption) ?_
                    rotate_left
                    · intro wS hSw
                      first
                        | (go_simp; done)
                        | (go_simp; with_reducible rfl)
                    try simp only [Act.put, List.setIfInBounds_toArray, List.set_cons_zero, List.set_cons_succ]
                    refine wpAnyH_take (i := 1) (oi := ({ dst := some 73, op := Op.move (Operand.tmp 15), type := 3, pos := "gemm.go:36", after := #[], guard := none } : Oper)) (v := ?_) rfl (by kernel_rfl) (by kernel_rfl) (by kernel_rfl) (fun _ _ _ h => h) (Or.inl ⟨by rfl, ?_⟩) (by assumption) ?_
                    rotate_left
                    · intro wS hSw
                      first
                        | (go_simp; done)
                        | (go_simp; with_reducible rfl)
                    try simp only [Act.put, List.setIfInBounds_toArray, List.set_cons_zero, List.set_cons_succ]
                    refine wpAnyH_take (i := 2) (oi := ({ dst := some 74, op := Op.move (Operand.tmp 4), type := 3, pos := "gemm.go:36", after := #[], guard := none } : Oper)) (v := ?_) rfl (by kernel_rfl) (by kernel_rfl) (by kernel_rfl) (fun _ _ _ h => h) (Or.inl ⟨by rfl, ?_⟩) (by assumption) ?_
                    rotate_left
                    · intro wS hSw
                      first
                        | (go_simp; done)
                        | (go_simp; with_reducible rfl)
                    try simp only [Act.put, List.setIfInBounds_toArray, List.set_cons_zero, List.set_cons_succ]
                    refine wpAnyH_take (i := 3) (oi := ({ dst := some 75, op := Op.binOp BinOp.mul 3 (Operand.tmp 73) (Operand.tmp 74) 3, type := 3, pos := "gemm.go:36", after := #[{ on := 1, ground := Ground.data }, { on := 2, ground := Ground.data }], guard := none } : Oper)) (v := ?_) rfl (by kernel_rfl) (by kernel_rfl) (by kernel_rfl) (fun _ _ _ h => h) (Or.inl ⟨by rfl, ?_⟩) (by assumption) ?_
                    rotate_left
                    · intro wS hSw
                      first
                        | (go_simp; done)
                        | (go_simp; with_reducible rfl)
                    try simp only [Act.put, List.setIfInBounds_toArray, List.set_cons_zero, List.set_cons_succ]
                    refine wpAnyH_take (i := 4) (oi := ({ dst := some 76, op := Op.move (Operand.tmp 16), type := 3, pos := "gemm.go:36", after := #[], guard := none } : Oper)) (v := ?_) rfl (by kernel_rfl) (by kernel_rfl) (by kernel_rfl) (fun _ _ _ h => h) (Or.inl ⟨by rfl, ?_⟩) (by assumption) ?_
                    rotate_left
                    · intro wS hSw
                      first
                        | (go_simp; done)
                        | (go_simp; with_reducible rfl)
                    try simp only [Act.put, List.setIfInBounds_toArray, List.set_cons_zero, List.set_cons_succ]
                    refine wpAnyH_take (i := 5) (oi := ({ dst := some 77, op := Op.binOp BinOp.add 3 (Operand.tmp 75) (Operand.tmp 76) 3, type := 3, pos := "gemm.go:36", after := #[{ on := 3, ground := Ground.data }, { on := 4, ground := Ground.data }], guard := none } : Oper)) (v := ?_) rfl (by kernel_rfl) (by kernel_rfl) (by kernel_rfl) (fun _ _ _ h => h) (Or.inl ⟨by rfl, ?_⟩) (by assumption) ?_
                    rotate_left
                    · intro wS hSw
                      first
                        | (go_simp; done)
                        | (go_simp; with_reducible rfl)
                    try simp only [Act.put, List.setIfInBounds_toArray, List.set_cons_zero, List.set_cons_succ]
                    refine wpAnyH_take (i := 6) (oi := ({ dst := some 78, op := Op.move (Operand.tmp 0), type := 62, pos := "gemm.go:36", after := #[], guard := none } : Oper)) (v := ?_) rfl (by kernel_rfl) (by kernel_rfl) (by kernel_rfl) (fun _ _ _ h => h) (Or.inl ⟨by rfl, ?_⟩) (by assumption) ?_
                    rotate_left
                    · intro wS hSw
                      first
                        | (go_simp; done)
                        | (go_simp; with_reducible rfl)
                    try simp only [Act.put, List.setIfInBounds_toArray, List.set_cons_zero, List.set_cons_succ]
                    refine wpAnyH_take (i := 7) (oi := ({ dst := some 79, op := Op.move (Operand.tmp 15), type := 3, pos := "gemm.go:36", after := #[], guard := none } : Oper)) (v := ?_) rfl (by kernel_rfl) (by kernel_rfl) (by kernel_rfl) (fun _ _ _ h => h) (Or.inl ⟨by rfl, ?_⟩) (by assumption) ?_
                    rotate_left
                    · intro wS hSw
                      first
                        | (go_simp; done)
                        | (go_simp; with_reducible rfl)
                    try simp only [Act.put, List.setIfInBounds_toArray, List.set_cons_zero, List.set_cons_succ]
                    refine wpAnyH_take (i := 8) (oi := ({ dst := some 80, op := Op.move (Operand.tmp 3), type := 3, pos := "gemm.go:36", after := #[], guard := none } : Oper)) (v := ?_) rfl (by kernel_rfl) (by kernel_rfl) (by kernel_rfl) (fun _ _ _ h => h) (Or.inl ⟨by rfl, ?_⟩) (by assumption) ?_
                    rotate_left
                    · intro wS hSw
                      first
                        | (go_simp; done)
                        | (go_simp; with_reducible rfl)
                    try simp only [Act.put, List.setIfInBounds_toArray, List.set_cons_zero, List.set_cons_succ]
                    refine wpAnyH_take (i := 9) (oi := ({ dst := some 81, op := Op.binOp BinOp.mul 3 (Operand.tmp 79) (Operand.tmp 80) 3, type := 3, pos := "gemm.go:36", after := #[{ on := 7, ground := Ground.data }, { on := 8, ground := Ground.data }], guard := none } : Oper)) (v := ?_) rfl (by kernel_rfl) (by kernel_rfl) (by kernel_rfl) (fun _ _ _ h => h) (Or.inl ⟨by rfl, ?_⟩) (by assumption) ?_
                    rotate_left
                    · intro wS hSw
                      first
                        | (go_simp; done)
                        | (go_simp; with_reducible rfl)
                    try simp only [Act.put, List.setIfInBounds_toArray, List.set_cons_zero, List.set_cons_succ]
                    refine wpAnyH_take (i := 10) (oi := ({ dst := some 82, op := Op.move (Operand.tmp 15), type := 3, pos := "gemm.go:36", after := #[], guard := none } : Oper)) (v := ?_) rfl (by kernel_rfl) (by kernel_rfl) (by kernel_rfl) (fun _ _ _ h => h) (Or.inl ⟨by rfl, ?_⟩) (by assumption) ?_
                    rotate_left
                    · intro wS hSw
                      first
                        | (go_simp; done)
                        | (go_simp; with_reducible rfl)
                    try simp only [Act.put, List.setIfInBounds_toArray, List.set_cons_zero, List.set_cons_succ]
                    refine wpAnyH_take (i := 11) (oi := ({ dst := some 83, op := Op.binOp BinOp.add 3 (Operand.tmp 82) (Operand.const (Value.int IntKind.i64 1)) 3, type := 3, pos := "gemm.go:36", after := #[{ on := 10, ground := Ground.data }], guard := none } : Oper)) (v := ?_) rfl (by kernel_rfl) (by kernel_rfl) (by kernel_rfl) (fun _ _ _ h => h) (Or.inl ⟨by rfl, ?_⟩) (by assumption) ?_
                    rotate_left
                    · intro wS hSw
                      first
                        | (go_simp; done)
                        | (go_simp; with_reducible rfl)
                    try simp only [Act.put, List.setIfInBounds_toArray, List.set_cons_zero, List.set_cons_succ]
                    refine wpAnyH_take (i := 12) (oi := ({ dst := some 84, op := Op.move (Operand.tmp 3), type := 3, pos := "gemm.go:36", after := #[], guard := none } : Oper)) (v := ?_) rfl (by kernel_rfl) (by kernel_rfl) (by kernel_rfl) (fun _ _ _ h => h) (Or.inl ⟨by rfl, ?_⟩) (by assumption) ?_
                    rotate_left
                    · intro wS hSw
                      first
                        | (go_simp; done)
                        | (go_simp; with_reducible rfl)
                    try simp only [Act.put, List.setIfInBounds_toArray, List.set_cons_zero, List.set_cons_succ]
                    refine wpAnyH_take (i := 13) (oi := ({ dst := some 85, op := Op.binOp BinOp.mul 3 (Operand.tmp 83) (Operand.tmp 84) 3, type := 3, pos := "gemm.go:36", after := #[{ on := 11, ground := Ground.data }, { on := 12, ground := Ground.data }], guard := none } : Oper)) (v := ?_) rfl (by kernel_rfl) (by kernel_rfl) (by kernel_rfl) (fun _ _ _ h => h) (Or.inl ⟨by rfl, ?_⟩) (by assumption) ?_
                    rotate_left
                    · intro wS hSw
                      first
                        | (go_simp; done)
                        | (go_simp; with_reducible rfl)
                    try simp only [Act.put, List.setIfInBounds_toArray, List.set_cons_zero, List.set_cons_succ]
                    refine wpAnyH_take (i := 14) (oi := ({ dst := some 86, op := Op.slice 62 (Operand.tmp 78) (some (Operand.tmp 81)) (some (Operand.tmp 85)) none, type := 62, pos := "gemm.go:36", after := #[{ on := 6, ground := Ground.data }, { on := 9, ground := Ground.data }, { on := 13, ground := Ground.data }], guard := none } : Oper)) (v := ?_) rfl (by kernel_rfl) (by kernel_rfl) (by kernel_rfl) (fun _ _ _ h => h) (Or.inl ⟨by rfl, ?_⟩) (by assumption) ?_
                    rotate_left
                    · intro wS hSw
                      first
                        | (go_simp; done)
                        | (go_simp; with_reducible rfl)
                    try simp only [Act.put, List.setIfInBounds_toArray, List.set_cons_zero, List.set_cons_succ]
                    refine wpAnyH_take (i := 15) (oi := ({ dst := some 87, op := Op.move (Operand.tmp 1), type := 24, pos := "gemm.go:36", after := #[], guard := none } : Oper)) (v := ?_) rfl (by kernel_rfl) (by kernel_rfl) (by kernel_rfl) (fun _ _ _ h => h) (Or.inl ⟨by rfl, ?_⟩) (by assumption) ?_
                    rotate_left
                    · intro wS hSw
                      first
                        | (go_simp; done)
                        | (go_simp; with_reducible rfl)
                    try simp only [Act.put, List.setIfInBounds_toArray, List.set_cons_zero, List.set_cons_succ]
                    refine wpAnyH_take (i := 16) (oi := ({ dst := some 88, op := Op.move (Operand.tmp 16), type := 3, pos := "gemm.go:36", after := #[], guard := none } : Oper)) (v := ?_) rfl (by kernel_rfl) (by kernel_rfl) (by kernel_rfl) (fun _ _ _ h => h) (Or.inl ⟨by rfl, ?_⟩) (by assumption) ?_
                    rotate_left
                    · intro wS hSw
                      first
                        | (go_simp; done)
                        | (go_simp; with_reducible rfl)
                    try simp only [Act.put, List.setIfInBounds_toArray, List.set_cons_zero, List.set_cons_succ]
                    refine wpAnyH_take (i := 17) (oi := ({ dst := some 89, op := Op.move (Operand.tmp 3), type := 3, pos := "gemm.go:36", after := #[], guard := none } : Oper)) (v := ?_) rfl (by kernel_rfl) (by kernel_rfl) (by kernel_rfl) (fun _ _ _ h => h) (Or.inl ⟨by rfl, ?_⟩) (by assumption) ?_
                    rotate_left
                    · intro wS hSw
                      first
                        | (go_simp; done)
                        | (go_simp; with_reducible rfl)
                    try simp only [Act.put, List.setIfInBounds_toArray, List.set_cons_zero, List.set_cons_succ]
                    refine wpAnyH_take (i := 18) (oi := ({ dst := some 90, op := Op.binOp BinOp.mul 3 (Operand.tmp 88) (Operand.tmp 89) 3, type := 3, pos := "gemm.go:36", after := #[{ on := 16, ground := Ground.data }, { on := 17, ground := Ground.data }], guard := none } : Oper)) (v := ?_) rfl (by kernel_rfl) (by kernel_rfl) (by kernel_rfl) (fun _ _ _ h => h) (Or.inl ⟨by rfl, ?_⟩) (by assumption) ?_
                    rotate_left
                    · intro wS hSw
                      first
                        | (go_simp; done)
                        | (go_simp; with_reducible rfl)
                    try simp only [Act.put, List.setIfInBounds_toArray, List.set_cons_zero, List.set_cons_succ]
                    refine wpAnyH_take (i := 19) (oi := ({ dst := some 91, op := Op.move (Operand.tmp 16), type := 3, pos := "gemm.go:36", after := #[], guard := none } : Oper)) (v := ?_) rfl (by kernel_rfl) (by kernel_rfl) (by kernel_rfl) (fun _ _ _ h => h) (Or.inl ⟨by rfl, ?_⟩) (by assumption) ?_
                    rotate_left
                    · intro wS hSw
                      first
                        | (go_simp; done)
                        | (go_simp; with_reducible rfl)
                    try simp only [Act.put, List.setIfInBounds_toArray, List.set_cons_zero, List.set_cons_succ]
                    refine wpAnyH_take (i := 20) (oi := ({ dst := some 92, op := Op.binOp BinOp.add 3 (Operand.tmp 91) (Operand.const (Value.int IntKind.i64 1)) 3, type := 3, pos := "gemm.go:36", after := #[{ on := 19, ground := Ground.data }], guard := none } : Oper)) (v := ?_) rfl (by kernel_rfl) (by kernel_rfl) (by kernel_rfl) (fun _ _ _ h => h) (Or.inl ⟨by rfl, ?_⟩) (by assumption) ?_
                    rotate_left
                    · intro wS hSw
                      first
                        | (go_simp; done)
                        | (go_simp; with_reducible rfl)
                    try simp only [Act.put, List.setIfInBounds_toArray, List.set_cons_zero, List.set_cons_succ]
                    refine wpAnyH_take (i := 21) (oi := ({ dst := some 93, op := Op.move (Operand.tmp 3), type := 3, pos := "gemm.go:36", after := #[], guard := none } : Oper)) (v := ?_) rfl (by kernel_rfl) (by kernel_rfl) (by kernel_rfl) (fun _ _ _ h => h) (Or.inl ⟨by rfl, ?_⟩) (by assumption) ?_
                    rotate_left
                    · intro wS hSw
                      first
                        | (go_simp; done)
                        | (go_simp; with_reducible rfl)
                    try simp only [Act.put, List.setIfInBounds_toArray, List.set_cons_zero, List.set_cons_succ]
                    refine wpAnyH_take (i := 22) (oi := ({ dst := some 94, op := Op.binOp BinOp.mul 3 (Operand.tmp 92) (Operand.tmp 93) 3, type := 3, pos := "gemm.go:36", after := #[{ on := 20, ground := Ground.data }, { on := 21, ground := Ground.data }], guard := none } : Oper)) (v := ?_) rfl (by kernel_rfl) (by kernel_rfl) (by kernel_rfl) (fun _ _ _ h => h) (Or.inl ⟨by rfl, ?_⟩) (by assumption) ?_
                    rotate_left
                    · intro wS hSw
                      first
                        | (go_simp; done)
                        | (go_simp; with_reducible rfl)
                    try simp only [Act.put, List.setIfInBounds_toArray, List.set_cons_zero, List.set_cons_succ]
                    refine wpAnyH_take (i := 23) (oi := ({ dst := some 95, op := Op.slice 24 (Operand.tmp 87) (some (Operand.tmp 90)) (some (Operand.tmp 94)) none, type := 24, pos := "gemm.go:36", after := #[{ on := 15, ground := Ground.data }, { on := 18, ground := Ground.data }, { on := 22, ground := Ground.data }], guard := none } : Oper)) (v := ?_) rfl (by kernel_rfl) (by kernel_rfl) (by kernel_rfl) (fun _ _ _ h => h) (Or.inl ⟨by rfl, ?_⟩) (by assumption) ?_
                    rotate_left
                    · intro wS hSw
                      first
                        | (go_simp; done)
                        | (go_simp; with_reducible rfl)
                    try simp only [Act.put, List.setIfInBounds_toArray, List.set_cons_zero, List.set_cons_succ]
                    refine wpAnyH_ready (rs := [24]) (by kernel_rfl) (by simp) ?_
                    refine AllReadyH.cons (o := ({ dst := some 96, op := Op.call { callee := Callee.value (Operand.func 48), args := #[Operand.tmp 86, Operand.tmp 95], argTypes := #[62, 24] }, type := 21, pos := "gemm.go:36", after := #[{ on := 14, ground := Ground.data }, { on := 23, ground := Ground.data }], guard := none } : Oper)) rfl (fun K hK => ?_) (AllReadyH.nil)
                    go_simp
                    go_at_call 48
                    refine (dot_to (some ⟨b1, o1 + A1, none⟩) (some ⟨b2, o2 + B1, none⟩) ((xs.drop A1).take m) ((ys.drop B1).take m) m m (c1 - A1) (c2 - B1) m (cut_len HX.out (by omega)) (cut_len HY.out (by omega)) (by omega) (by omega) (by omega) (by omega) (by unfold maxLen; omega) (by unfold maxLen; omega) (cut_I16 HXB.out _ _) (cut_I8 HYB.out _ _) _ (cut_rd (HR.out.below HB3.out).drew A1 m) (cut_rd (HS.out.below HB3.out).drew B1 m) (F I2) (mul_at xs ys HI1.out HI2.out hj2 HA1.out HBB.out HF.out)).mono ?_
                    rintro e w4 ⟨rfl, nq, rfl⟩
                    dsimp only
                    refine hK.out _ _ ?_ (fun hHeld => ?_)
                    · trivial
                    clear hK K
                    try simp only [Act.put, List.setIfInBounds_toArray, List.set_cons_zero, List.set_cons_succ]
                    refine wpAnyH_take (i := 25) (oi := ({ dst := some 97, op := Op.indexAddr 28 (Operand.tmp 72) (Operand.tmp 77), type := 0, pos := "gemm.go:36", after := #[{ on := 0, ground := Ground.data }, { on := 5, ground := Ground.data }, { on := 0, ground := Ground.phase }, { on := 1, ground := Ground.phase }, { on := 2, ground := Ground.phase }, { on := 3, ground := Ground.phase }, { on := 4, ground := Ground.phase }, { on := 5, ground := Ground.phase }, { on := 6, ground := Ground.phase }, { on := 7, ground := Ground.phase }, { on := 8, ground := Ground.phase }, { on := 9, ground := Ground.phase }, { on := 10, ground := Ground.phase }, { on := 11, ground := Ground.phase }, { on := 12, ground := Ground.phase }, { on := 13, ground := Ground.phase }, { on := 14, ground := Ground.phase }, { on := 15, ground := Ground.phase }, { on := 16, ground := Ground.phase }, { on := 17, ground := Ground.phase }, { on := 18, ground := Ground.phase }, { on := 19, ground := Ground.phase }, { on := 20, ground := Ground.phase }, { on := 21, ground := Ground.phase }, { on := 22, ground := Ground.phase }, { on := 23, ground := Ground.phase }, { on := 24, ground := Ground.phase }], guard := none } : Oper)) (v := ?_) rfl (by kernel_rfl) (by kernel_rfl) (by kernel_rfl) (fun _ _ _ h => h) (Or.inl ⟨by rfl, ?_⟩) (by assumption) ?_
                    rotate_left
                    · intro wS hSw
                      first
                        | (go_simp; done)
                        | (go_simp; with_reducible rfl)
                    try simp only [Act.put, List.setIfInBounds_toArray, List.set_cons_zero, List.set_cons_succ]
                    refine wpAnyH_ready (rs := [26]) (by kernel_rfl) (by simp) ?_
                    refine AllReadyH.cons (o := ({ dst := none, op := Op.store 21 (Operand.tmp 97) (Operand.tmp 96), type := 0, pos := "gemm.go:36", after := #[{ on := 25, ground := Ground.data }, { on := 24, ground := Ground.data }, { on := 24, ground := Ground.chain }, { on := 0, ground := Ground.phase }, { on := 1, ground := Ground.phase }, { on := 2, ground := Ground.phase }, { on := 3, ground := Ground.phase }, { on := 4, ground := Ground.phase }, { on := 5, ground := Ground.phase }, { on := 6, ground := Ground.phase }, { on := 7, ground := Ground.phase }, { on := 8, ground := Ground.phase }, { on := 9, ground := Ground.phase }, { on := 10, ground := Ground.phase }, { on := 11, ground := Ground.phase }, { on := 12, ground := Ground.phase }, { on := 13, ground := Ground.phase }, { on := 14, ground := Ground.phase }, { on := 15, ground := Ground.phase }, { on := 16, ground := Ground.phase }, { on := 17, ground := Ground.phase }, { on := 18, ground := Ground.phase }, { on := 19, ground := Ground.phase }, { on := 20, ground := Ground.phase }, { on := 21, ground := Ground.phase }, { on := 22, ground := Ground.phase }, { on := 23, ground := Ground.phase }, { on := 24, ground := Ground.phase }], guard := none } : Oper)) rfl (fun K hK => ?_) (AllReadyH.nil)
                    go_simp
                    refine hK.out _ _ ?_ (fun hHeld => ?_)
                    · trivial
                    clear hK K
                    try simp only [Act.put, List.setIfInBounds_toArray, List.set_cons_zero, List.set_cons_succ]
                    refine wpAnyH_done (by kernel_rfl) ?_ _
                    have HO4 := Lib.hid ((Kit.own_below HO3.out (Kit.below_drewN (Below.refl wr.heap.size wr) (1 + nq))).stored I2 (.int .i32 (F I2))).1
                    have HB4 : Hid (Below w.heap.size w ((wr.drewN (1 + nq)).setCell ⟨w.heap.size, I2, none⟩ (.int .i32 (F I2)))) := Lib.hid ((Kit.below_drewN HB3.out (1 + nq)).setCell (by simp) _)
                    have HE4 : Hid (EdgeAt ge e0 e1 e2 e3 ((wr.drewN (1 + nq)).setCell ⟨w.heap.size, I2, none⟩ (.int .i32 (F I2)))) := Lib.hid ((HE.out.drewN (1 + nq)).set hne _)
                    rw [I32v_set] at HO4
                    clear HO3 HB3 HE hfr hcl
                    go_wp2_with fail
                    go_roundw
                    case rel => exact ⟨j', P.set I2 (F I2), rfl, by have := HJ'.out; omega, by have := HJ'.out; omega, by have := HJ'.out; omega, HO4, Lib.hid (HF3.out.set rfl (fun l _ h => by rw [← HI2.out, ← HI1.out]; rw [← HJ'.out] at h; exact done33 h)), HB4, HE4⟩
                    case measure => have := HJ'.out; simp [intOf]; omega
                  · have hj9 : j = c ∨ e3 ≤ j := by omega
                    go_wp2_with fail
                    go_roundw
                    case rel => exact ⟨i + 1, P, by go_num, by omega, by omega, by omega, HO3, Lib.hid (HF3.out.mono (fun l _ h => to23 hc0 HA.out HQ.out HE3.out hj9 h)), HB3, HE⟩
                    case measure => simp [intOf]; omega
            · obtain rfl : i = r := by omega
              have hiI : (i : Int) < (e1 : Int) := by omega
              go_wp2_with fail
              go_roundw
              case rel => exact ⟨k + 1, P, by omega, by go_num, HO2, Lib.hid (HF2.out.mono (fun j hj h => to12 hc0 HA.out HP.out HE1.out (by rw [HNN.out]; exact hj) (.inl rfl) h)), HB2⟩
              case measure => simp [intOf]; omega
          · obtain rfl : i = e1 := by omega
            go_wp2_with fail
            go_roundw
            case rel => exact ⟨k + 1, P, by omega, by go_num, HO2, Lib.hid (HF2.out.mono (fun j hj h => to12 hc0 HA.out HP.out HE1.out (by rw [HNN.out]; exact hj) (.inr (Nat.le_refl _)) h)), HB2⟩
            case measure => simp [intOf]; omega
    · obtain rfl : k = T := by omega
      have hfin : P = rowL F N := HF1.out.all (fun j hj => by
        have := tile_last (rows := r) hc0 (show j < r * c by rw [HNN.out]; exact hj)
        rw [HRQ.out, HTT.out] at this
        exact this)
      subst hfin
      go_wp2_with fail
      rw [Exit.noGoto_ret]
      go_ret
      exact ⟨_, rfl, HO1.out, HB1.out⟩
end Go.Proofs.Ytceejjliboiciaa.CGemm

