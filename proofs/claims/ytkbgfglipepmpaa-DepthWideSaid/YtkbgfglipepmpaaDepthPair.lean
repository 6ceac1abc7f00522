/- Layer 17 (depth): the sums of the wide node are the sums of the node. -/
import Derived.Test.YtkbgfglipepmpaaDepthWd
namespace Go.Proofs.Ytkbgfglipepmpaa.CDepth
open Go Go.ChangeShapes Go.WideShapes Go.ChangeAt Go.RowKit
open Plain CSat CShape CTensor CConv
set_option linter.unusedVariables false

theorem psum_one {G : Nat → Int} {o d : Nat} (ho : o < d) (h : ∀ k, k < d → k ≠ o → G k = 0) : psum G d = G o := by
  rw [psum_stop (j := o + 1) (by omega) (fun k h1 h2 => h k h2 (by omega))]
  simp only [psum]
  rw [psum_zero (fun k hk => h k (by omega) (by omega)), Int.zero_add]
theorem wide_place (zs ws : List Int) (H W C top left : Int) (d kk o n : Nat) (Z : Int) (hd : C = (d : Int)) (ho : o < d) (hn : d * kk * kk = n) (i j : Nat) (hi : i < kk) (hj : j < kk) :
    placeF zs (rowL (wideF ws (kk * kk) d) (n * d)) H W C top left d kk o Z i j = placeD zs ws H W C top left kk o Z i j := by
  unfold placeF placeD
  by_cases hin : 0 ≤ top + (i : Int) ∧ top + (i : Int) < H ∧ 0 ≤ left + (j : Int) ∧ left + (j : Int) < W
  · rw [if_pos hin, if_pos hin]
    have hd0 : 0 < d := by omega
    have hkk : 0 < kk * kk := Nat.mul_pos (by omega) (by omega)
    have hP := place_le2 ho hi hj
    rw [hn] at hP
    have hij : i * kk + j < kk * kk := by
      have := Nat.mul_le_mul_right kk (show i + 1 ≤ kk by omega)
      rw [Nat.add_mul, Nat.one_mul] at this
      omega
    have hdiv : ((o * kk + i) * kk + j) / (kk * kk) = o := by
      have e : (o * kk + i) * kk + j = kk * kk * o + (i * kk + j) := by
        rw [Nat.add_mul, Nat.mul_assoc, Nat.mul_comm o, Nat.add_assoc]
      rw [e, Nat.mul_add_div hkk, Nat.div_eq_of_lt hij, Nat.add_zero]
    have hst0 : 0 ≤ ((top + (i : Int)) * W + (left + (j : Int))) * C := by
      have a := Int.mul_nonneg hin.1 (show (0 : Int) ≤ W by omega)
      exact Int.mul_nonneg (by omega) (by omega)
    have hto : (((top + (i : Int)) * W + (left + (j : Int))) * C + (o : Int)).toNat = (((top + (i : Int)) * W + (left + (j : Int))) * C).toNat + o := by omega
    rw [hto]
    generalize (((top + (i : Int)) * W + (left + (j : Int))) * C).toNat = st
    generalize (o * kk + i) * kk + j = P at hP hdiv
    have hw : ∀ c, c < d → (rowL (wideF ws (kk * kk) d) (n * d)).getD (P * d + c) 0 = if c = o then ws.getD P 0 else 0 := by
      intro c hc
      have hlt : P * d + c < n * d := by
        have := Nat.mul_le_mul_right d (show P + 1 ≤ n by omega)
        rw [Nat.add_mul, Nat.one_mul] at this
        omega
      rw [rowL_getD _ hlt]
      unfold wideF
      have h1 : (P * d + c) / d = P := by rw [Nat.mul_comm, Nat.mul_add_div hd0, Nat.div_eq_of_lt hc]; rfl
      have h2 : (P * d + c) % d = c := by rw [Nat.mul_comm, Nat.mul_add_mod, Nat.mod_eq_of_lt hc]
      rw [h1, h2, hdiv]
    rw [psum_one ho (fun k hk hne => by unfold termF; rw [hw k hk, if_neg hne, Int.zero_mul])]
    unfold termF
    rw [hw o ho, if_pos rfl]
  · rw [if_neg hin, if_neg hin]
theorem wide_win (zs ws : List Int) (H W C top left : Int) (d kk o n : Nat) (Z : Int) (hd : C = (d : Int)) (ho : o < d) (hn : d * kk * kk = n) :
    winF zs (rowL (wideF ws (kk * kk) d) (n * d)) H W C top left d kk o Z = winD zs ws H W C top left kk o Z := by
  unfold winF winD
  refine psum_congr fun i hi => ?_
  unfold rowF rowD
  exact psum_congr fun j hj => wide_place zs ws H W C top left d kk o n Z hd ho hn i j hi hj
theorem wide_grid (zs ws bs : List Int) (H W C S P : Int) (d kk n b N : Nat) (Z : Int) (hd : C = (d : Int)) (hd0 : 0 < d) (hn : d * kk * kk = n) :
    rowL (gridF b d (sumF zs (rowL (wideF ws (kk * kk) d) (n * d)) bs H W C S P d kk Z)) N = rowL (gridF b d (sumD zs ws bs H W C S P kk Z)) N := by
  have e : gridF b d (sumF zs (rowL (wideF ws (kk * kk) d) (n * d)) bs H W C S P d kk Z) = gridF b d (sumD zs ws bs H W C S P kk Z) := funext fun q => by
    unfold gridF sumF sumD
    rw [wide_win zs ws H W C _ _ d kk (q % d) n Z hd (Nat.mod_lt _ hd0) hn]
  rw [e]
theorem wide_I8b {ws : List Int} (h : I8b ws) (own ch N : Nat) : I8b (rowL (wideF ws own ch) N) := fun q => by
  by_cases hq : q < N
  · rw [rowL_getD _ hq]
    unfold wideF
    split
    · exact h _
    · omega
  · rw [List.getD_eq_getElem?_getD, List.getElem?_eq_none (by rw [rowL_len]; omega)]; simp
/-- the node's call and the wide node's at one tensor. -/
theorem pair_both (H W C : Int) (A : Option Addr) (zs : List Int) (n c : Nat) (hn : zs.length = n) (ht : tensB H W C n = true) (hz : I8b zs) (y0 x0 x1 x2 x8 x11 x12 x13 x14 x15 x16 x17 x18 : Value) (K S P O V Z : Int) (WA BA A5 A6 : Option Addr) (nW cW nB cB k5 k6 N : Nat) (ws : List Int) (hws : ws.length = nW) (hwc : nW ≤ cW) (hwb : I8b ws) (bs : List Int) (hbs : bs.length = nB)
    (d kk : Nat) (hd : C = (d : Int)) (hV : V = (d : Int)) (hk : K = (kk : Int)) (k1 : 1 ≤ kk) (k2 : kk ≤ 5) (hnW : d * (kk * kk) = nW) (hnB : nB = d) (hN : nW * d = N) (hN2 : N ≤ 16384) (h5 : N ≤ k5) (z1 : -128 ≤ Z) (z2 : Z ≤ 127) :
    ∃ (X Y U : Int) (m : Nat) (xs : List Int) (er : Int), xs.length = m ∧ m ≤ 1000000 ∧
      (∀ (w : World), Kit.Rd w w.heap.size A (I8s zs) → Kit.Rd w w.heap.size WA (I8s ws) → Kit.Rd w w.heap.size BA (I32v bs) → Calls Try.prog 7 #[.agg #[.int .i64 H, .int .i64 W, .int .i64 C, .slice A n c], .agg #[x0, x1, x2, .int .i64 K, .int .i64 S, .int .i64 P, .int .i64 O, .int .i8 Z, x8, .slice WA nW cW, .slice BA nB cB, x11, x12, x13, x14, x15, x16, x17, x18]] w (MadeA w X Y U m xs (.int .i64 er))) ∧
      (∀ (w : World), Kit.Rd w w.heap.size A (I8s zs) → Kit.Rd w w.heap.size A5 (I8s (rowL (wideF ws (kk * kk) d) N)) → Kit.Rd w w.heap.size A6 (I32v bs) → Calls Try.prog 14 #[.agg #[.int .i64 H, .int .i64 W, .int .i64 C, .slice A n c], .agg #[y0, x1, x2, .int .i64 K, .int .i64 S, .int .i64 P, .int .i64 V, .int .i8 Z, x8, .slice A5 N k5, .slice A6 nB k6, x11, x12, x13, x14, x15, x16, x17, x18]] w (MadeA w X Y U m xs (.int .i64 er))) := by
  have hs : shapeB H W C = true := by simp only [tensB, Bool.and_eq_true] at ht; exact ht.1
  obtain ⟨-, -, -, -, g5, g6, -⟩ := shapeB_yes hs
  have hd0 : 0 < d := by omega
  have hWN : nW ≤ N := by rw [← hN]; exact Nat.le_mul_of_pos_right _ hd0
  have hkkI : K * K = ((kk * kk : Nat) : Int) := by rw [hk]; simp
  have hnWI : (nW : Int) = C * K * K := by rw [Int.mul_assoc, hkkI, hd, ← Int.natCast_mul, hnW]
  have hVC : V = C := by rw [hV, hd]
  subst hVC
  have hNI : (N : Int) = V * K * K * V := by rw [← hnWI, hd, ← hN]; simp
  have hnB2 : (nB : Int) = V := by rw [hd, hnB]
  have hE : depthE H W V K S P nW nB = slideE H W V K S P V := by
    unfold depthE
    by_cases h : slideE H W V K S P V ≠ 0
    · rw [if_pos h]
    · rw [if_neg h, if_pos ⟨hnWI, by omega, hnB2⟩]; omega
  have hF : convE H W V K S P V N nB = slideE H W V K S P V := by
    unfold convE
    by_cases h : slideE H W V K S P V ≠ 0
    · rw [if_pos h]
    · rw [if_neg h, if_pos ⟨hNI, hN2, hnB2⟩]; omega
  by_cases he : depthE H W V K S P nW nB = 0
  · obtain ⟨a, b, d', kk', ha, hb, hd', hk', hM⟩ := dep_letters he
    obtain rfl : d' = d := by omega
    obtain rfl : kk' = kk := by omega
    have hcE : convE H W V K S P V N nB = 0 := by rw [hF, ← hE]; exact he
    refine ⟨a, b, V, a * b * d', rowL (gridF b d' (sumD zs ws bs H W V S P kk' Z)) (a * b * d'), 0, rowL_len _ _, by omega, fun w hr hrw hrb => ?_, fun w hr hrw hrb => ?_⟩
    · exact dof_yes H W V A zs n c hn ht hz x0 x1 x2 x8 x11 x12 x13 x14 x15 x16 x17 x18 K S P O Z WA BA nW cW nB cB ws hws hwc hwb bs hbs he a b d' kk' ha hb hd hk _ rfl z1 z2 w hr hrw hrb
    · have h := of_yes H W V A zs n c hn ht hz y0 x1 x2 x8 x11 x12 x13 x14 x15 x16 x17 x18 K S P V Z A5 A6 N k5 nB k6 (rowL (wideF ws (kk' * kk') d') N) (rowL_len _ _) h5 (wide_I8b hwb _ _ _) bs hbs hcE a b d' d' kk' ha hb hd hd hk _ rfl z1 z2 w hr hrw hrb
      rw [← hN, wide_grid zs ws bs H W V S P d' kk' nW b _ Z hd hd0 (by rw [Nat.mul_assoc]; exact hnW), hN] at h
      exact h
  · refine ⟨0, 0, 0, 0, [], _, rfl, by omega, fun w _ _ _ => dof_err H W V A n c x0 x1 x2 x8 x11 x12 x13 x14 x15 x16 x17 x18 K S P O Z WA BA nW cW nB cB ht _ rfl he w, fun w _ _ _ => ?_⟩
    have h := of_err H W V A n c y0 x1 x2 x8 x11 x12 x13 x14 x15 x16 x17 x18 K S P V Z A5 A6 N k5 nB k6 ht _ rfl (by rw [hF, ← hE]; exact he) w
    rw [hF, ← hE] at h
    exact h
end Go.Proofs.Ytkbgfglipepmpaa.CDepth
