/- Layer 9: what pad makes, and the document beside it; the fixed calls. -/
import Derived.Test.YtgoonenkcikkaaaPadAll
import Derived.Test.YtgoonenkcikkaaaPadSize
import Derived.Test.YtgoonenkcikkaaaTensorSameTwo
namespace Go.Proofs.Ytgoonenkcikkaaa.CPad
open Go Go.ChangeShapes Go.WideShapes Go.ChangeAt Go.RowKit
open Plain CSat CShape CTensor
set_option linter.unusedVariables false

/-- numbers by row, column and channel, one behind the other. -/
def gridF (b d : Nat) (G : Nat → Nat → Nat → Int) (i : Nat) : Int := G (i / d / b) (i / d % b) (i % d)
theorem grid_at (b d : Nat) (G : Nat → Nat → Nat → Int) {i j k : Nat} (hj : j < b) (hk : k < d) : gridF b d G ((i * b + j) * d + k) = G i j k := by
  unfold gridF
  have h1 : ((i * b + j) * d + k) / d = i * b + j := by rw [Nat.mul_comm, Nat.mul_add_div (by omega), Nat.div_eq_of_lt hk]; rfl
  have h2 : ((i * b + j) * d + k) % d = k := by rw [Nat.mul_comm, Nat.mul_add_mod, Nat.mod_eq_of_lt hk]
  have h3 : (i * b + j) / b = i := by rw [Nat.mul_comm, Nat.mul_add_div (by omega), Nat.div_eq_of_lt hj]; rfl
  have h4 : (i * b + j) % b = j := by rw [Nat.mul_comm, Nat.mul_add_mod, Nat.mod_eq_of_lt hj]
  rw [h1, h2, h3, h4]
theorem around_both (H W C : Int) (A : Option Addr) (zs : List Int) (n c : Nat) (hn : zs.length = n) (hc : n ≤ c) (ht : tensB H W C n = true) (p z : Int) (p0 : 0 ≤ p) (p4 : p ≤ 4) :
    ∃ (U V K : Int) (m : Nat) (xs : List Int) (er : Int), xs.length = m ∧ m ≤ 1000000 ∧
      (∀ (w : World), Kit.Rd w w.heap.size A (I8s zs) → Calls Try.prog 7 #[.agg #[.int .i64 H, .int .i64 W, .int .i64 C, .slice A n c], .int .i64 p, .int .i8 z] w (Made w U V K m xs (.int .i64 er))) ∧
      (∀ (w : World), Kit.Rd w w.heap.size A (I8s zs) → Calls Try.prog 11 #[.agg #[.int .i64 H, .int .i64 W, .int .i64 C, .slice A n c], .int .i64 p, .int .i8 z] w (Made w U V K m xs (.int .i64 er))) := by
  cases hs : shapeB (H + 2 * p) (W + 2 * p) C
  · exact ⟨0, 0, 0, 0, [], 5, rfl, by omega, fun w _ => around_no H W C A n c p z ht p0 p4 hs w, fun w _ => (refResize_no H W C A n c ht p z (by omega) p4 hs w).mono fun e w' ⟨he, hb⟩ => ⟨_, he, World.ownsRow_nil _ _ _ _, hb⟩⟩
  · obtain ⟨s1, s2, s3, s4, s5, s6, s7⟩ := shapeB_yes hs
    obtain ⟨a, ha⟩ : ∃ a : Nat, H + 2 * p = (a : Int) := ⟨(H + 2 * p).toNat, by omega⟩
    obtain ⟨b, hb⟩ : ∃ b : Nat, W + 2 * p = (b : Int) := ⟨(W + 2 * p).toNat, by omega⟩
    obtain ⟨d, hd⟩ : ∃ d : Nat, C = (d : Int) := ⟨C.toNat, by omega⟩
    have hm : ((a * b * d : Nat) : Int) ≤ 1024 := by
      have : ((a * b * d : Nat) : Int) = (H + 2 * p) * (W + 2 * p) * C := by rw [ha, hb, hd]; simp
      omega
    refine ⟨H + 2 * p, W + 2 * p, C, a * b * d, rowL (gridF b d (fun i j k => pixZ zs H W C ((i : Int) - p) ((j : Int) - p) (k : Int) z)) (a * b * d), 0, rowL_len _ _, by omega, fun w hr => ?_, fun w hr => ?_⟩
    · refine around_yes H W C A zs n c p z hn hc ht p0 p4 hs a b d ha hb hd _ rfl _ (fun i j k hi hj hk => ?_) w (Nat.le_refl _) hr
      rw [grid_at b d _ hj hk, IntWalk.i64_in _ (by omega), IntWalk.i64_in _ (by omega)]
    · exact refResize_yes H W C A zs n c hn ht p z (by omega) p4 hs a b d ha hb hd _ rfl _ (fun i j k hi hj hk => by rw [grid_at b d _ hj hk]) w (Nat.le_refl _) hr
theorem crop_both (H W C : Int) (A : Option Addr) (zs : List Int) (n c : Nat) (hn : zs.length = n) (hc : n ≤ c) (ht : tensB H W C n = true) (p : Int) (p0 : 0 ≤ p) (p4 : p ≤ 4) :
    ∃ (U V K : Int) (m : Nat) (xs : List Int) (er : Int), xs.length = m ∧ m ≤ 1000000 ∧
      (∀ (w : World), Kit.Rd w w.heap.size A (I8s zs) → Calls Try.prog 8 #[.agg #[.int .i64 H, .int .i64 W, .int .i64 C, .slice A n c], .int .i64 p] w (Made w U V K m xs (.int .i64 er))) ∧
      (∀ (w : World), Kit.Rd w w.heap.size A (I8s zs) → Calls Try.prog 11 #[.agg #[.int .i64 H, .int .i64 W, .int .i64 C, .slice A n c], .int .i64 (-p), .int .i8 0] w (Made w U V K m xs (.int .i64 er))) := by
  cases hs : shapeB (H + 2 * (-p)) (W + 2 * (-p)) C
  · exact ⟨0, 0, 0, 0, [], 5, rfl, by omega, fun w _ => crop_no H W C A n c p ht p0 p4 hs w, fun w _ => (refResize_no H W C A n c ht (-p) 0 (by omega) (by omega) hs w).mono fun e w' ⟨he, hb⟩ => ⟨_, he, World.ownsRow_nil _ _ _ _, hb⟩⟩
  · obtain ⟨s1, s2, s3, s4, s5, s6, s7⟩ := shapeB_yes hs
    obtain ⟨a, ha⟩ : ∃ a : Nat, H + 2 * (-p) = (a : Int) := ⟨(H + 2 * (-p)).toNat, by omega⟩
    obtain ⟨b, hb⟩ : ∃ b : Nat, W + 2 * (-p) = (b : Int) := ⟨(W + 2 * (-p)).toNat, by omega⟩
    obtain ⟨d, hd⟩ : ∃ d : Nat, C = (d : Int) := ⟨C.toNat, by omega⟩
    have hm : ((a * b * d : Nat) : Int) ≤ 1024 := by
      have : ((a * b * d : Nat) : Int) = (H + 2 * (-p)) * (W + 2 * (-p)) * C := by rw [ha, hb, hd]; simp
      omega
    refine ⟨H + 2 * (-p), W + 2 * (-p), C, a * b * d, rowL (gridF b d (fun i j k => pixZ zs H W C ((i : Int) - (-p)) ((j : Int) - (-p)) (k : Int) 0)) (a * b * d), 0, rowL_len _ _, by omega, fun w hr => ?_, fun w hr => ?_⟩
    · refine crop_yes H W C A zs n c p hn hc ht p0 p4 hs a b d ha hb hd _ rfl _ (fun i j k hi hj hk => ?_) w (Nat.le_refl _) hr
      rw [grid_at b d _ hj hk, IntWalk.i64_in _ (by omega), IntWalk.i64_in _ (by omega)]
    · exact refResize_yes H W C A zs n c hn ht (-p) 0 (by omega) (by omega) hs a b d ha hb hd _ rfl _ (fun i j k hi hj hk => by rw [grid_at b d _ hj hk]) w (Nat.le_refl _) hr
def knownF : Nat → Int := gridF 3 1 (fun i j k => pixZ [5] 1 1 1 ((i : Int) - 1) ((j : Int) - 1) (k : Int) 0)
theorem known09 (w : World) : Calls Try.prog 6 #[] w fun e w' => e = .returned (.bool true) ∧ Below w.heap.size w w' := by
  have t1 : tensB 1 1 1 1 = true := by decide
  have t2 : shapeB (1 + 2 * 1) (1 + 2 * 1) 1 = true := by decide
  have T1 := Lib.hid t1
  have T2 := Lib.hid t2
  have T3 : Hid (∀ i j k : Nat, i < 3 → j < 3 → k < 1 → pixZ [5] 1 1 1 (IntKind.i64.wrap ((i : Int) - 1)) (IntKind.i64.wrap ((j : Int) - 1)) (k : Int) 0 = knownF ((i * 3 + j) * 1 + k)) := Lib.hid (fun i j k hi hj hk => by
    unfold knownF
    rw [grid_at 3 1 _ hj hk, IntWalk.i64_in _ (by omega), IntWalk.i64_in _ (by omega)])
  clear t1 t2
  go_enter Try.func6, Try.ntmps6
  go_wp2_with (go_at_call 7; ((refine (around_yes 1 1 1 _ [5] 1 1 1 0 rfl (by omega) T1.out (by omega) (by omega) T2.out 3 3 1 rfl rfl rfl 9 rfl knownF T3.out (Bz := w.heap.size + 1) _ (by simp) (Kit.Rd.new w [.int .i8 5] _ (Nat.lt_succ_self _))).mono ?_); (rintro e w1 ⟨v1, rfl, ho1, hb1⟩; obtain ⟨g1, c1, rfl, hc1, hcm1, hgb, hgs⟩ := own_nonempty ho1 (by omega); have k0 : w1.cell? ⟨g1, 0, none⟩ = some (.int .i8 0) := ho1.cellAt 0 (by omega); have k4 : w1.cell? ⟨g1, 4, none⟩ = some (.int .i8 5) := ho1.cellAt 4 (by omega); have HB := Lib.hid (Below.trans (show Below w.heap.size w _ from by go_grown) (hb1.mono (by simp))); clear ho1 hb1)))
  go_ret
  exact ⟨rfl, HB.out.alloc HB.out.size _⟩
end Go.Proofs.Ytgoonenkcikkaaa.CPad
