/- Layer 13 (lower): windows as rows, multiplied with weights as rows, are the windows' sums. -/
import Derived.Test.YtoobpjdbdikbiaaPatchOf
import Derived.Test.YtoobpjdbdikbiaaGemmMulC
import Derived.Test.YtoobpjdbdikbiaaConvOf
namespace Go.Proofs.Ytoobpjdbdikbiaa.CLower
open Go Go.ChangeShapes Go.WideShapes Go.ChangeAt Go.RowKit
open Plain CSat CShape CTensor CConv
set_option linter.unusedVariables false

theorem psum_eq (G : Nat → Int) : ∀ n, CGemm.psum G n = psum G n
  | 0 => rfl
  | n + 1 => by show CGemm.psum G n + G n = psum G n + G n; rw [psum_eq G n]
theorem psum_add (G : Nat → Int) (m : Nat) : ∀ k, psum G (m + k) = psum G m + psum (fun j => G (m + j)) k
  | 0 => by simp [psum]
  | k + 1 => by
    show psum G (m + k) + G (m + k) = psum G m + (psum (fun j => G (m + j)) k + G (m + k))
    rw [psum_add G m k]; omega
theorem psum_flat (G : Nat → Int) (b : Nat) : ∀ a, psum G (a * b) = psum (fun i => psum (fun j => G (i * b + j)) b) a
  | 0 => by simp [psum]
  | a + 1 => by
    rw [Nat.add_mul, Nat.one_mul, psum_add, psum_flat G b a]; rfl

theorem parts_of {wd d kk k2 r i j c : Nat} (hk2 : kk * kk = k2) (hwd : k2 * d = wd) (hi : i < kk) (hj : j < kk) (hc : c < d) :
    (i * kk + j) * d + c < wd ∧ (r * wd + ((i * kk + j) * d + c)) / wd = r ∧ (r * wd + ((i * kk + j) * d + c)) % wd = (i * kk + j) * d + c ∧ ((i * kk + j) * d + c) / d = i * kk + j ∧ ((i * kk + j) * d + c) % d = c ∧ (i * kk + j) / kk = i ∧ (i * kk + j) % kk = j := by
  have h1 : i * kk + j < kk * kk := by
    have := Nat.mul_le_mul_right kk (show i + 1 ≤ kk by omega)
    rw [Nat.add_mul, Nat.one_mul] at this; omega
  have h2 : (i * kk + j) * d + c < wd := by
    have := Nat.mul_le_mul_right d (show i * kk + j + 1 ≤ k2 by omega)
    rw [Nat.add_mul, Nat.one_mul, hwd] at this; omega
  have dm : ∀ (x m y : Nat), y < m → (x * m + y) / m = x ∧ (x * m + y) % m = y := fun x m y hy => by
    constructor
    · rw [Nat.mul_comm, Nat.mul_add_div (by omega), Nat.div_eq_of_lt hy]; rfl
    · rw [Nat.mul_comm, Nat.mul_add_mod, Nat.mod_eq_of_lt hy]
  exact ⟨h2, (dm r wd _ h2).1, (dm r wd _ h2).2, (dm _ d c hc).1, (dm _ d c hc).2, (dm i kk j hj).1, (dm i kk j hj).2⟩

theorem low_term (zs ws : List Int) (H W C S P Z : Int) (b kk d k2 wd r o i j c : Nat) (hk2 : kk * kk = k2) (hwd : k2 * d = wd) (hi : i < kk) (hj : j < kk) (hc : c < d) (hW : 0 ≤ W) (hC : C = (d : Int)) :
    CPatch.numF zs H W C S P Z b kk d wd (r * wd + ((i * kk + j) * d + c)) * ws.getD (o * wd + ((i * kk + j) * d + c)) 0 =
      if 0 ≤ ((r / b : Nat) : Int) * S - P + (i : Int) ∧ ((r / b : Nat) : Int) * S - P + (i : Int) < H ∧ 0 ≤ ((r % b : Nat) : Int) * S - P + (j : Int) ∧ ((r % b : Nat) : Int) * S - P + (j : Int) < W then
        termF zs ws (((((r / b : Nat) : Int) * S - P + (i : Int)) * W + (((r % b : Nat) : Int) * S - P + (j : Int))) * C).toNat (((o * kk + i) * kk + j) * d) Z c else 0 := by
  obtain ⟨h0, h1, h2, h3, h4, h5, h6⟩ := parts_of (r := r) hk2 hwd hi hj hc
  unfold CPatch.numF
  rw [h1, h2, h3, h4, h5, h6]
  split
  · rename_i hin
    unfold termF
    have e1 : ((((((r / b : Nat) : Int) * S - P + (i : Int)) * W + (((r % b : Nat) : Int) * S - P + (j : Int))) * C) + ((c : Nat) : Int)).toNat = (((((r / b : Nat) : Int) * S - P + (i : Int)) * W + (((r % b : Nat) : Int) * S - P + (j : Int))) * C).toNat + c := by
      have : 0 ≤ (((((r / b : Nat) : Int) * S - P + (i : Int)) * W + (((r % b : Nat) : Int) * S - P + (j : Int))) * C) :=
        Int.mul_nonneg (Int.add_nonneg (Int.mul_nonneg hin.1 hW) hin.2.2.1) (by omega)
      omega
    have e2 : o * wd + ((i * kk + j) * d + c) = ((o * kk + i) * kk + j) * d + c := by
      have h7 : (o * kk + i) * kk + j = o * (kk * kk) + (i * kk + j) := by rw [Nat.add_mul, Nat.mul_assoc]; omega
      rw [h7, Nat.add_mul (o * (kk * kk)), Nat.mul_assoc o, hk2, hwd]; omega
    rw [e1, e2, Int.mul_comm]
  · rw [Int.zero_mul]

/-- the sum of a row's products is the window's. -/
theorem low_sum (zs ws : List Int) (H W C S P Z : Int) (b kk d k2 wd r o : Nat) (hk2 : kk * kk = k2) (hwd : k2 * d = wd) (hW : 0 ≤ W) (hC : C = (d : Int)) :
    psum (fun k => CPatch.numF zs H W C S P Z b kk d wd (r * wd + k) * ws.getD (o * wd + k) 0) wd = winF zs ws H W C (((r / b : Nat) : Int) * S - P) (((r % b : Nat) : Int) * S - P) d kk o Z := by
  rw [show psum (fun k => CPatch.numF zs H W C S P Z b kk d wd (r * wd + k) * ws.getD (o * wd + k) 0) wd = psum (fun k => CPatch.numF zs H W C S P Z b kk d wd (r * wd + k) * ws.getD (o * wd + k) 0) ((kk * kk) * d) by rw [hk2, hwd], psum_flat, psum_flat]
  unfold winF
  refine psum_congr fun i hi => ?_
  unfold rowF
  refine psum_congr fun j hj => ?_
  unfold placeF
  split
  · rename_i hin
    refine psum_congr fun c hc => ?_
    rw [low_term zs ws H W C S P Z b kk d k2 wd r o i j c hk2 hwd hi hj hc hW hC, if_pos hin]
  · rename_i hin
    refine psum_zero fun c hc => ?_
    rw [low_term zs ws H W C S P Z b kk d k2 wd r o i j c hk2 hwd hi hj hc hW hC, if_neg hin]

/-- a product, and the bias of its channel, is the sum. -/
theorem low_num (zs ws bs : List Int) (H W C S P Z : Int) (b kk d k2 wd oo N1 NN : Nat) (hk2 : kk * kk = k2) (hwd : k2 * d = wd) (hW : 0 ≤ W) (hC : C = (d : Int)) (hNN : N1 * wd = NN) (F : Nat → Int) (hF : F = CPatch.numF zs H W C S P Z b kk d wd)
    (i : Nat) (hi : i < N1 * oo) : IntKind.i32.wrap (CGemm.mulF (CPatch.listF F NN) ws wd oo i + bs.getD (i % oo) 0) = gridF b oo (sumF zs ws bs H W C S P d kk Z) i := by
  have hoo : 0 < oo := by
    rcases Nat.eq_zero_or_pos oo with h | h
    · subst h; omega
    · exact h
  have hr : i / oo < N1 := Nat.div_lt_of_lt_mul (by rw [Nat.mul_comm]; exact hi)
  unfold CGemm.mulF gridF sumF
  rw [psum_eq, wrap32_add, ← low_sum zs ws H W C S P Z b kk d k2 wd (i / oo) (i % oo) hk2 hwd hW hC]
  congr 1
  rw [Int.add_comm]
  congr 1
  refine psum_congr fun k hk => ?_
  congr 1
  rw [List.getD_eq_getElem?_getD, CPatch.listF_at F (by
    have := Nat.mul_le_mul_right wd (show i / oo + 1 ≤ N1 by omega)
    rw [Nat.add_mul, Nat.one_mul, hNN] at this; omega), hF]
  rfl

/-- the first t numbers of one rule, the others of another one. -/
def mixF (T M : Nat → Int) (t i : Nat) : Int := if i < t then T i else M i
theorem mix_zero (T M : Nat → Int) (N : Nat) : CGemm.rowL (mixF T M 0) N = CGemm.rowL M N := CGemm.rowL_congr fun i _ => by unfold mixF; rw [if_neg (by omega)]
theorem mix_all (T M : Nat → Int) (N : Nat) : CGemm.rowL (mixF T M N) N = CGemm.rowL T N := CGemm.rowL_congr fun i hi => by unfold mixF; rw [if_pos hi]
theorem mix_set (T M : Nat → Int) {N t : Nat} (ht : t < N) : (CGemm.rowL (mixF T M t) N).set t (T t) = CGemm.rowL (mixF T M (t + 1)) N := by
  refine CGemm.eq_rowL (by simp [CGemm.rowL_len]) fun i hi => ?_
  rw [List.getElem?_set]
  by_cases e : t = i
  · subst e
    rw [if_pos rfl, if_pos (by rw [CGemm.rowL_len]; exact hi)]
    unfold mixF; rw [if_pos (by omega)]
  · rw [if_neg e, CGemm.rowL_at _ hi]
    unfold mixF
    by_cases h : i < t
    · rw [if_pos h, if_pos (by omega)]
    · rw [if_neg h, if_neg (by omega)]
theorem mix_at (T M : Nat → Int) {N t : Nat} (ht : t < N) : (CGemm.rowL (mixF T M t) N)[t]? = some (M t) := by
  rw [CGemm.rowL_at _ ht]; unfold mixF; rw [if_neg (by omega)]
end Go.Proofs.Ytoobpjdbdikbiaa.CLower
