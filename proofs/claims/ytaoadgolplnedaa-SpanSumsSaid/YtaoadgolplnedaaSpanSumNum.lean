/- Layer 24 (span): a window's sum lies within the range of its row (numbers only). -/
import Derived.Test.YtaoadgolplnedaaSpanNode
import Derived.Test.YtaoadgolplnedaaSpanKnown
namespace Go.Proofs.Ytaoadgolplnedaa.CSpan
open Go Go.ChangeShapes Go.WideShapes Go.ChangeAt Go.RowKit
open Plain CSat CFix CShape CTensor CConv CJoin
set_option linter.unusedVariables false

theorem psum_add (G : Nat → Int) (m n : Nat) : psum G (m + n) = psum G m + psum (fun k => G (m + k)) n := by
  induction n with
  | zero => simp [psum]
  | succ n ih => rw [← Nat.add_assoc]; simp only [psum]; rw [ih]; omega
theorem psum_mul (G : Nat → Int) (a b : Nat) : psum (fun i => psum (fun j => G (i * b + j)) b) a = psum G (a * b) := by
  induction a with
  | zero => simp [psum]
  | succ a ih => rw [Nat.add_mul, Nat.one_mul, psum_add G (a * b) b, ← ih]; rfl
theorem btw_g {ws : List Int} {lo hi z v : Int} {k : Nat} (g : Bool) (h1 : lo ≤ v) (h2 : v ≤ hi) : dnF ws lo hi z g k ≤ ws.getD k 0 * (v - z) ∧ ws.getD k 0 * (v - z) ≤ upF ws lo hi z g k := by
  have h := between (ws := ws) (z := z) (k := k) h1 h2
  cases g
  · exact h
  · have := gaps_wide ws lo hi z k
    omega
theorem at_lt {H W C y x : Int} {d c n : Nat} (hd : C = (d : Int)) (hm : (n : Int) = H * W * C) (hy : 0 ≤ y) (hy2 : y < H) (hx : 0 ≤ x) (hx2 : x < W) (hc : c < d) : ((y * W + x) * C).toNat + c < n := by
  have h1 : (y + 1) * W ≤ H * W := Int.mul_le_mul_of_nonneg_right (by omega) (by omega)
  rw [Int.add_mul, Int.one_mul] at h1
  have h2 : (y * W + x + 1) * C ≤ H * W * C := Int.mul_le_mul_of_nonneg_right (by omega) (by omega)
  rw [Int.add_mul, Int.one_mul] at h2
  have h3 : 0 ≤ (y * W + x) * C := Int.mul_nonneg (by have := Int.mul_nonneg hy (show (0 : Int) ≤ W by omega); omega) (by omega)
  omega
theorem place_btw {zs ws : List Int} {H W C top left : Int} {d kk o : Nat} {Z lo hi : Int} {i j n : Nat} (g : Bool) (hd : C = (d : Int)) (hm : (n : Int) = H * W * C) (hz : ∀ q, q < n → lo ≤ zs.getD q 0 ∧ zs.getD q 0 ≤ hi)
    (hin : g = true ∨ (0 ≤ top + (i : Int) ∧ top + (i : Int) < H ∧ 0 ≤ left + (j : Int) ∧ left + (j : Int) < W)) :
    psum (fun c => dnF ws lo hi Z g (((o * kk + i) * kk + j) * d + c)) d ≤ placeF zs ws H W C top left d kk o Z i j ∧ placeF zs ws H W C top left d kk o Z i j ≤ psum (fun c => upF ws lo hi Z g (((o * kk + i) * kk + j) * d + c)) d := by
  unfold placeF
  split
  · rename_i h
    obtain ⟨a, b, c, e⟩ := h
    have ht := fun (k : Nat) (hk : k < d) => btw_g (ws := ws) (z := Z) (k := ((o * kk + i) * kk + j) * d + k) g (hz _ (at_lt hd hm a b c e hk)).1 (hz _ (at_lt hd hm a b c e hk)).2
    exact ⟨psum_mono fun k hk => (ht k hk).1, psum_mono fun k hk => (ht k hk).2⟩
  · rename_i h
    rcases hin with rfl | hin
    · exact ⟨psum_neg fun k => (gaps_wide ws lo hi Z _).2.2.1, psum_nonneg fun k => (gaps_wide ws lo hi Z _).2.2.2⟩
    · exact absurd hin h
theorem win_flat (D : Nat → Int) (kk d o : Nat) : psum (fun i => psum (fun j => psum (fun c => D (((o * kk + i) * kk + j) * d + c)) d) kk) kk = psum (fun q => D (o * (kk * kk * d) + q)) (kk * kk * d) := by
  have h1 : ∀ i, psum (fun j => psum (fun c => D (((o * kk + i) * kk + j) * d + c)) d) kk = psum (fun e => D ((o * kk + i) * (kk * d) + e)) (kk * d) := fun i => by
    rw [← psum_mul (fun e => D ((o * kk + i) * (kk * d) + e)) kk d]
    refine psum_same fun j _ => psum_same fun c _ => congrArg D ?_
    rw [Nat.add_mul, Nat.mul_assoc]; omega
  rw [psum_same fun i _ => h1 i, Nat.mul_assoc, ← psum_mul (fun q => D (o * (kk * (kk * d)) + q)) kk (kk * d)]
  refine psum_same fun j _ => psum_same fun c _ => congrArg D ?_
  rw [Nat.add_mul, Nat.mul_assoc]; omega
theorem wsOf_getD (ws : List Int) {each o q : Nat} (h : q < each) : (wsOf ws each o).getD q 0 = ws.getD (o * each + q) 0 := by
  unfold wsOf
  rw [List.getD_eq_getElem?_getD, List.getElem?_take, if_pos h, List.getElem?_drop, ← List.getD_eq_getElem?_getD]
theorem dnF_at {u v : List Int} {p q : Nat} (h : u.getD p 0 = v.getD q 0) (lo hi z : Int) (g : Bool) : dnF u lo hi z g p = dnF v lo hi z g q ∧ upF u lo hi z g p = upF v lo hi z g q := by
  unfold dnF upF
  rw [h]
  exact ⟨rfl, rfl⟩
/-- what a window sums lies between the numbers of its row. -/
theorem win_btw {zs ws bs : List Int} {H W C top left : Int} {d kk o : Nat} {Z lo hi : Int} {n : Nat} (g : Bool) (hd : C = (d : Int)) (hm : (n : Int) = H * W * C) (hz : ∀ q, q < n → lo ≤ zs.getD q 0 ∧ zs.getD q 0 ≤ hi)
    (hin : ∀ i j, i < kk → j < kk → g = true ∨ (0 ≤ top + (i : Int) ∧ top + (i : Int) < H ∧ 0 ≤ left + (j : Int) ∧ left + (j : Int) < W)) :
    rowP ws bs lo hi Z g (kk * kk * d) o ≤ bs.getD o 0 + winF zs ws H W C top left d kk o Z ∧ bs.getD o 0 + winF zs ws H W C top left d kk o Z ≤ rowQ ws bs lo hi Z g (kk * kk * d) o := by
  have hp := fun (i : Nat) (hi' : i < kk) (j : Nat) (hj : j < kk) => place_btw (zs := zs) (ws := ws) (lo := lo) (hi := hi) (Z := Z) (o := o) (kk := kk) g hd hm hz (hin i j hi' hj)
  have e1 : psum (fun i => psum (fun j => psum (fun c => dnF ws lo hi Z g (((o * kk + i) * kk + j) * d + c)) d) kk) kk ≤ winF zs ws H W C top left d kk o Z := psum_mono fun i hi' => psum_mono fun j hj => (hp i hi' j hj).1
  have e2 : winF zs ws H W C top left d kk o Z ≤ psum (fun i => psum (fun j => psum (fun c => upF ws lo hi Z g (((o * kk + i) * kk + j) * d + c)) d) kk) kk := psum_mono fun i hi' => psum_mono fun j hj => (hp i hi' j hj).2
  rw [win_flat] at e1 e2
  have f1 : psum (dnF (wsOf ws (kk * kk * d) o) lo hi Z g) (kk * kk * d) = psum (fun q => dnF ws lo hi Z g (o * (kk * kk * d) + q)) (kk * kk * d) := psum_same fun q hq => (dnF_at (wsOf_getD ws hq) lo hi Z g).1
  have f2 : psum (upF (wsOf ws (kk * kk * d) o) lo hi Z g) (kk * kk * d) = psum (fun q => upF ws lo hi Z g (o * (kk * kk * d) + q)) (kk * kk * d) := psum_same fun q hq => (dnF_at (wsOf_getD ws hq) lo hi Z g).2
  unfold rowP rowQ
  rw [f1, f2]
  omega
/-- where the sums fit 32 bits they are those over whole numbers. -/
theorem wrap_fit {v lo hi : Int} (h1 : lo ≤ v) (h2 : v ≤ hi) (l : -2147483648 ≤ lo) (h : hi ≤ 2147483647) : IntKind.i32.wrap v = v := IntWalk.i32_in _ (by omega)
end Go.Proofs.Ytaoadgolplnedaa.CSpan
