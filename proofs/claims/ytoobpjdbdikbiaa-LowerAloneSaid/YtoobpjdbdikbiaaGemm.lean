/- Layer 12 (gemm): sums of products; Dot, the code's and the document's. -/
import Derived.Test.YtoobpjdbdikbiaaRows
import Derived.Test.YtoobpjdbdikbiaaPlain
import Derived.Test.YtoobpjdbdikbiaaNum
import Derived.Test.YtoobpjdbdikbiaaKit
import Derived.IntWalk
import Derived.BigQuiet
import Derived.OrdersHeld
import Derived.Lib.SliceRun
namespace Go.Proofs.Ytoobpjdbdikbiaa.CGemm
open Go Go.ChangeShapes Go.WideShapes Go.ChangeAt Go.RowKit
open Plain
set_option linter.unusedVariables false

/-- the sum of the first n. -/
def psum (G : Nat → Int) : Nat → Int
  | 0 => 0
  | n + 1 => psum G n + G n
theorem psum_bd {G : Nat → Int} {b : Int} {n : Nat} (h : ∀ k, k < n → -b ≤ G k ∧ G k ≤ b) : -(b * n) ≤ psum G n ∧ psum G n ≤ b * n := by
  induction n with
  | zero => simp [psum]
  | succ n ih =>
    have h1 := ih (fun k hk => h k (by omega))
    have h2 := h n (by omega)
    have e : b * ((n + 1 : Nat) : Int) = b * (n : Int) + b := by rw [show ((n + 1 : Nat) : Int) = (n : Int) + 1 by omega, Int.mul_add, Int.mul_one]
    rw [e]
    simp only [psum]
    omega
theorem psum_congr {G G' : Nat → Int} {n : Nat} (h : ∀ k, k < n → G k = G' k) : psum G n = psum G' n := by
  induction n with
  | zero => rfl
  | succ n ih => simp only [psum]; rw [ih (fun k hk => h k (by omega)), h n (by omega)]
theorem psum_split (G : Nat → Int) (p q : Nat) : psum G (p + q) = psum G p + psum (fun k => G (p + k)) q := by
  induction q with
  | zero => simp [psum]
  | succ q ih => rw [← Nat.add_assoc]; simp only [psum]; rw [ih]; omega
theorem wrap32_add (a b : Int) : IntKind.i32.wrap (IntKind.i32.wrap a + b) = IntKind.i32.wrap (a + b) := by rw [IntKind.wrap_i32, IntKind.wrap_i32, IntKind.wrap_i32]; omega
theorem wrap32_add' (a b : Int) : IntKind.i32.wrap (a + IntKind.i32.wrap b) = IntKind.i32.wrap (a + b) := by rw [IntKind.wrap_i32, IntKind.wrap_i32, IntKind.wrap_i32]; omega
def I16b (zs : List Int) : Prop := ∀ q, -32768 ≤ zs.getD q 0 ∧ zs.getD q 0 ≤ 32767
def I8b (zs : List Int) : Prop := ∀ q, -128 ≤ zs.getD q 0 ∧ zs.getD q 0 ≤ 127
theorem mul_bd {x y : Int} (x1 : -32768 ≤ x) (x2 : x ≤ 32767) (y1 : -128 ≤ y) (y2 : y ≤ 127) : -4194304 ≤ x * y ∧ x * y ≤ 4194304 := by
  have a1 : 0 ≤ (32768 + x) * (127 - y) := Int.mul_nonneg (by omega) (by omega)
  have a2 : 0 ≤ (32768 + x) * (128 + y) := Int.mul_nonneg (by omega) (by omega)
  have a3 : 0 ≤ (32767 - x) * (127 - y) := Int.mul_nonneg (by omega) (by omega)
  have a4 : 0 ≤ (32767 - x) * (128 + y) := Int.mul_nonneg (by omega) (by omega)
  simp only [Int.add_mul, Int.sub_mul, Int.mul_sub, Int.mul_add] at a1 a2 a3 a4
  omega
/-- the products at one place. -/
def dotF (xs ys : List Int) (k : Nat) : Int := xs.getD k 0 * ys.getD k 0
theorem dotF_bd {xs ys : List Int} (hx : I16b xs) (hy : I8b ys) (k : Nat) : -4194304 ≤ dotF xs ys k ∧ dotF xs ys k ≤ 4194304 := mul_bd (hx k).1 (hx k).2 (hy k).1 (hy k).2
theorem ints_getD {w : World} {B : Nat} {A : Option Addr} {k : IntKind} {zs : List Int} (h : Kit.Rd w B A (zs.map (.int k))) {j : Nat} (hj : j < zs.length) :
    ∃ b off, A = some ⟨b, off, none⟩ ∧ b < B ∧ ∀ i, i < zs.length → w.cell? ⟨b, off + i, none⟩ = some (.int k (zs.getD i 0)) := by
  obtain ⟨b, off, e, hb, hc⟩ := h.plain (by simp; omega)
  exact ⟨b, off, e, hb, fun i hi => hc i _ (by simp [List.getD_eq_getElem?_getD, List.getElem?_eq_getElem hi])⟩

set_option maxHeartbeats 1000000 in
theorem dot_to (A B : Option Addr) (xs ys : List Int) (n m c d b : Nat) (hx : xs.length = n) (hy : ys.length = m) (hb : min n m = b) (hnc : n ≤ c) (hmd : m ≤ d) (hb1 : b ≤ 1000000) (hc : c ≤ maxLen) (hd : d ≤ maxLen) (hxb : I16b xs) (hyb : I8b ys)
    (w : World) {B1 B2 : Nat} (hr : Kit.Rd w B1 A (xs.map (.int .i16))) (hs : Kit.Rd w B2 B (ys.map (.int .i8))) (R : Int) (hR : IntKind.i32.wrap (psum (dotF xs ys) b) = R) :
    Calls Try.prog 42 #[.slice A n c, .slice B m d] w fun e w' => e = .returned (.int .i32 R) ∧ ∃ q, w' = w.drewN q := by
  have HRR := Lib.hid hR
  have HXB := Lib.hid hxb
  have HYB := Lib.hid hyb
  have HR := Lib.hid hr
  have HS := Lib.hid hs
  have hbn : b ≤ n := by omega
  have hbm : b ≤ m := by omega
  have hbc : b ≤ c := by omega
  have hbd : b ≤ d := by omega
  have hcm : c ≤ 9223372036854775807 := by unfold maxLen at hc; omega
  have hdm : d ≤ 9223372036854775807 := by unfold maxLen at hd; omega
  have hb0 : (0 : Int) ≤ (b : Int) := by omega
  have hbc' : (b : Int) ≤ (c : Int) := by omega
  have hbd' : (b : Int) ≤ (d : Int) := by omega
  clear hR hxb hyb hr hs hc hd
  rcases (show (n ≤ m ∧ b = n) ∨ (m < n ∧ b = m) by omega) with ⟨hle, rfl⟩ | ⟨hle, rfl⟩
  all_goals
    go_enter Try.func42, Try.ntmps42
    go_wp2_with fail
    go_quiet (fail)
    go_wp2_with fail
    go_loopw [6, 22] (fun u i wr => ∃ k : Nat, k ≤ b ∧ i = .int .i64 k ∧ u = .int .i32 (IntKind.i32.wrap (psum (dotF xs ys) k)) ∧ Hid (wr = w.drewN nq)) (fun _ i _ => b - (intOf i).toNat)
    case atStart => exact ⟨0, Nat.zero_le _, rfl, congrArg (Value.int .i32) (by simp [psum, IntKind.wrap_i32]), Lib.hid rfl⟩
    case round =>
      obtain ⟨k, hk, rfl, rfl, hw⟩ := hrel
      obtain rfl := hw.out
      clear hw
      by_cases hlt : k < b
      · obtain ⟨b1, o1, rfl, _, hcx0⟩ := ints_getD HR.out (j := 0) (by omega)
        obtain ⟨b2, o2, rfl, _, hcy0⟩ := ints_getD HS.out (j := 0) (by omega)
        have hcx := hcx0 k (by omega)
        have hcy := hcy0 k (by omega)
        clear hcx0 hcy0
        have hk0 : (0 : Int) ≤ (k : Int) := by omega
        have hkb : (k : Int) < (b : Int) := by omega
        obtain ⟨x1, x2⟩ := HXB.out k
        obtain ⟨y1, y2⟩ := HYB.out k
        obtain ⟨t1, t2⟩ := mul_bd x1 x2 y1 y2
        have hnext : IntKind.i32.wrap (IntKind.i32.wrap (psum (dotF xs ys) k) + xs.getD k 0 * ys.getD k 0) = IntKind.i32.wrap (psum (dotF xs ys) (k + 1)) := by
          rw [wrap32_add]; simp only [psum]; rfl
        generalize xs.getD k 0 = x at hcx x1 x2 t1 t2 hnext
        generalize ys.getD k 0 = y at hcy y1 y2 t1 t2 hnext
        obtain ⟨u1, hu1⟩ : ∃ u1, IntKind.i32.wrap (psum (dotF xs ys) k) = u1 := ⟨_, rfl⟩
        obtain ⟨u2, hu2⟩ : ∃ u2, IntKind.i32.wrap (psum (dotF xs ys) (k + 1)) = u2 := ⟨_, rfl⟩
        have HU2 := Lib.hid hu2
        rw [hu1, hu2] at hnext
        rw [hu1]
        have e1 : IntKind.i32.wrap x = x := IntWalk.i32_in _ (by omega)
        have e2 : IntKind.i32.wrap y = y := IntWalk.i32_in _ (by omega)
        have e3 : IntKind.i32.wrap (x * y) = x * y := IntWalk.i32_in _ (by omega)
        clear hu1 hu2 t1 t2
        go_wp2_with fail
        go_roundw
        case rel => exact ⟨k + 1, by omega, by go_num, congrArg _ HU2.out.symm, by first | exact Lib.hid rfl | exact Lib.hid trivial⟩
        case measure => simp [intOf]; omega
      · obtain rfl : k = b := by omega
        rw [HRR.out]
        go_wp2_with fail
        go_ret
        exact ⟨rfl, nq, rfl⟩

end Go.Proofs.Ytoobpjdbdikbiaa.CGemm
