/- Layer 17 (depth): the node as one of all channels (code). -/
import Derived.Test.YtkbgfglipepmpaaDepthSpread
namespace Go.Proofs.Ytkbgfglipepmpaa.CDepth
open Go Go.ChangeShapes Go.WideShapes Go.ChangeAt Go.RowKit
open Plain CSat CShape CTensor CConv
set_option linter.unusedVariables false

/-- a node's first cell. -/
theorem NodeAt.set0 {w : World} {g : Nat} {x0 x1 x2 x8 x11 x12 x13 x14 x15 x16 x17 x18 : Value} {K S P O Z : Int} {WA BA : Option Addr} {nW cW nB cB : Nat} (h : NodeAt g x0 x1 x2 x8 x11 x12 x13 x14 x15 x16 x17 x18 K S P O Z WA BA nW cW nB cB w) (u : Value) : NodeAt g u x1 x2 x8 x11 x12 x13 x14 x15 x16 x17 x18 K S P O Z WA BA nW cW nB cB (w.setCell ⟨g, 0, none⟩ u) :=
  range_set (i := 0) h (show 0 < 19 by decide) _
theorem own_setCells {base g : Nat} {e : TypeId} {size n : Nat} {v : Value} {xs : List Value} (hg : g < base) : ∀ (vs : List Value) (o : Nat) (w : World), w.ownsRow base e size v n xs → (w.setCells g o vs).ownsRow base e size v n xs
  | [], _, _, h => h
  | u :: vs, o, w, h => own_setCells hg vs (o + 1) _ (own_set h _ _ hg)
/-- does a node spread over so many channels fit? -/
def Fits (K : Int) (nW nB : Nat) (ch : Int) : Prop := 1 ≤ ch ∧ ch ≤ 64 ∧ 1 ≤ K ∧ K ≤ 5 ∧ (nW : Int) = ch * (K * K) ∧ (nB : Int) = ch ∧ (nW : Int) * ch ≤ 16384
theorem k2_bd {K : Int} (h1 : 1 ≤ K) (h2 : K ≤ 5) : 1 ≤ K * K ∧ K * K ≤ 25 := by
  have a := Int.mul_le_mul h1 h1 (by omega) (by omega)
  have b := Int.mul_le_mul h2 h2 (by omega) (by omega)
  omega
theorem ck_bd {c k : Int} (h1 : 1 ≤ c) (h2 : c ≤ 64) (h3 : 1 ≤ k) (h4 : k ≤ 25) : 1 ≤ c * k ∧ c * k ≤ 1600 := by
  have a := Int.mul_le_mul h1 h3 (by omega) (by omega)
  have b := Int.mul_le_mul h2 h4 (by omega) (by omega)
  omega
theorem cn_bd {c n : Int} (h1 : 1 ≤ c) (h2 : c ≤ 64) (h3 : 0 ≤ n) (h4 : n ≤ 1600) : 0 ≤ n * c ∧ n * c ≤ 102400 := by
  have a := Int.mul_nonneg h3 (show (0 : Int) ≤ c by omega)
  have b := Int.mul_le_mul h4 h2 (by omega) (by omega)
  omega
set_option maxRecDepth 100000 in
set_option maxHeartbeats 8000000 in
theorem wide_bad (x0 x1 x2 x8 x11 x12 x13 x14 x15 x16 x17 x18 : Value) (K S P O Z : Int) (WA BA : Option Addr) (nW cW nB cB : Nat) (ch : Int) (h : ¬ Fits K nW nB ch) (w : World) :
    Calls Try.prog 12 #[.agg #[x0, x1, x2, .int .i64 K, .int .i64 S, .int .i64 P, .int .i64 O, .int .i8 Z, x8, .slice WA nW cW, .slice BA nB cB, x11, x12, x13, x14, x15, x16, x17, x18], .int .i64 ch] w fun e w' => e = .returned (.tuple #[.agg #[.int .i64 0, .int .i64 0, .int .i64 0, .int .i64 0, .int .i64 0, .int .i64 0, .int .i64 0, .int .i8 0, .int .i8 0, .slice none 0 0, .slice none 0 0, .int .i32 0, .int .i64 0, .int .i8 0, .int .i32 0, .int .i64 0, .int .i8 0, .int .i8 0, .int .i8 0], .int .i64 9]) ∧ Below w.heap.size w w' := by
  rcases (show ch < 1 ∨ (1 ≤ ch ∧ 64 < ch) ∨ (1 ≤ ch ∧ ch ≤ 64 ∧ K < 1) ∨ (1 ≤ ch ∧ ch ≤ 64 ∧ 1 ≤ K ∧ 5 < K) ∨ (1 ≤ ch ∧ ch ≤ 64 ∧ 1 ≤ K ∧ K ≤ 5) by omega) with a1 | ⟨a1, a2⟩ | ⟨a1, a2, a3⟩ | ⟨a1, a2, a3, a4⟩ | ⟨a1, a2, a3, a4⟩
  case inr.inr.inr.inr =>
    obtain ⟨k1, k2⟩ := k2_bd a3 a4
    obtain ⟨c1, c2⟩ := ck_bd a1 a2 k1 k2
    unfold Fits at h
    obtain ⟨q0, hq0⟩ : ∃ q0, K * K = q0 := ⟨_, rfl⟩
    rw [hq0] at h k1 k2 c1 c2
    obtain ⟨q, hq⟩ : ∃ q, ch * q0 = q := ⟨_, rfl⟩
    rw [hq] at h c1 c2
    have e1 : IntKind.i64.wrap (K * K) = q0 := by rw [hq0]; exact IntWalk.i64_in _ (by omega)
    have e2 : IntKind.i64.wrap (ch * q0) = q := by rw [hq]; exact IntWalk.i64_in _ (by omega)
    have f1 : ¬ ch < 1 := by omega
    have f2 : ¬ 64 < ch := by omega
    have f3 : ¬ K < 1 := by omega
    have f4 : ¬ 5 < K := by omega
    by_cases h5 : (nW : Int) = q
    · obtain ⟨r0, r1⟩ := cn_bd a1 a2 (n := (nW : Int)) (by omega) (by omega)
      obtain ⟨r, hr⟩ : ∃ r, (nW : Int) * ch = r := ⟨_, rfl⟩
      rw [hr] at h r0 r1
      have e3 : IntKind.i64.wrap ((nW : Int) * ch) = r := by rw [hr]; exact IntWalk.i64_in _ (by omega)
      have h5b : ((nW : Int) != q) = false := by simpa using h5
      have h5c : ((nW : Int) == q) = true := by simpa using h5
      have HQ5 := Lib.hid h5
      by_cases h6 : r ≤ 16384
      · have h6b : ¬ 16384 < r := by omega
        have h7 : ¬ (nB : Int) = ch := fun h8 => h ⟨a1, a2, a3, a4, h5, h8, h6⟩
        have h7b : ((nB : Int) != ch) = true := by simpa using h7
        have h7c : ((nB : Int) == ch) = false := by simpa using h7
        clear h hq0 hq hr h5
        go_enter Try.func12, Try.ntmps12
        go_upto_region 1 with fail
        have TN := Lib.hid ((NodeAt.new x0 x1 x2 x8 x11 x12 x13 x14 x15 x16 x17 x18 K S P O Z WA BA nW cW nB cB 32 w).below (B' := w.heap.size + 1) (by omega) ((Below.refl _ _).alloc (by simp) (.cells #[.int .i64 0, .int .i64 0, .int .i64 0, .int .i64 0, .int .i64 0, .int .i64 0, .int .i64 0, .int .i8 0, .int .i8 0, .slice none 0 0, .slice none 0 0, .int .i32 0, .int .i64 0, .int .i8 0, .int .i32 0, .int .i64 0, .int .i8 0, .int .i8 0, .int .i8 0] 32)))
        have HT := Lib.hid (Kit.there_below (Kit.there_new w (cs := #[x0, x1, x2, .int .i64 K, .int .i64 S, .int .i64 P, .int .i64 O, .int .i8 Z, x8, .slice WA nW cW, .slice BA nB cB, x11, x12, x13, x14, x15, x16, x17, x18]) 32 (n := 19) rfl) ((Below.refl (w.heap.size + 1) _).alloc (by simp) (.cells #[.int .i64 0, .int .i64 0, .int .i64 0, .int .i64 0, .int .i64 0, .int .i64 0, .int .i64 0, .int .i8 0, .int .i8 0, .slice none 0 0, .slice none 0 0, .int .i32 0, .int .i64 0, .int .i8 0, .int .i32 0, .int .i64 0, .int .i8 0, .int .i8 0, .int .i8 0] 32)) (Nat.lt_succ_self _))
        have ht4 := Kit.there_new (w.alloc (.cells #[x0, x1, x2, .int .i64 K, .int .i64 S, .int .i64 P, .int .i64 O, .int .i8 Z, x8, .slice WA nW cW, .slice BA nB cB, x11, x12, x13, x14, x15, x16, x17, x18] 32)) (cs := #[.int .i64 0, .int .i64 0, .int .i64 0, .int .i64 0, .int .i64 0, .int .i64 0, .int .i64 0, .int .i8 0, .int .i8 0, .slice none 0 0, .slice none 0 0, .int .i32 0, .int .i64 0, .int .i8 0, .int .i32 0, .int .i64 0, .int .i8 0, .int .i8 0, .int .i8 0]) 32 (n := 19) rfl
        rw [World.size_alloc] at ht4
        have HT4 := Lib.hid ht4
        have HB := Lib.hid (((Below.refl w.heap.size w).alloc (Nat.le_refl _) (.cells #[x0, x1, x2, .int .i64 K, .int .i64 S, .int .i64 P, .int .i64 O, .int .i8 Z, x8, .slice WA nW cW, .slice BA nB cB, x11, x12, x13, x14, x15, x16, x17, x18] 32)).alloc (by simp) (.cells #[.int .i64 0, .int .i64 0, .int .i64 0, .int .i64 0, .int .i64 0, .int .i64 0, .int .i64 0, .int .i8 0, .int .i8 0, .slice none 0 0, .slice none 0 0, .int .i32 0, .int .i64 0, .int .i8 0, .int .i32 0, .int .i64 0, .int .i8 0, .int .i8 0, .int .i8 0] 32))
        have zz : w.heap.size + 2 ≤ ((w.alloc (.cells #[x0, x1, x2, .int .i64 K, .int .i64 S, .int .i64 P, .int .i64 O, .int .i8 Z, x8, .slice WA nW cW, .slice BA nB cB, x11, x12, x13, x14, x15, x16, x17, x18] 32)).alloc (.cells #[.int .i64 0, .int .i64 0, .int .i64 0, .int .i64 0, .int .i64 0, .int .i64 0, .int .i64 0, .int .i8 0, .int .i8 0, .slice none 0 0, .slice none 0 0, .int .i32 0, .int .i64 0, .int .i8 0, .int .i32 0, .int .i64 0, .int .i8 0, .int .i8 0, .int .i8 0] 32)).heap.size := by simp
        clear ht4
        generalize (w.alloc (.cells #[x0, x1, x2, .int .i64 K, .int .i64 S, .int .i64 P, .int .i64 O, .int .i8 Z, x8, .slice WA nW cW, .slice BA nB cB, x11, x12, x13, x14, x15, x16, x17, x18] 32)).alloc (.cells #[.int .i64 0, .int .i64 0, .int .i64 0, .int .i64 0, .int .i64 0, .int .i64 0, .int .i64 0, .int .i8 0, .int .i8 0, .slice none 0 0, .slice none 0 0, .int .i32 0, .int .i64 0, .int .i8 0, .int .i32 0, .int .i64 0, .int .i8 0, .int .i8 0, .int .i8 0] 32) = Wm at TN HT HT4 HB zz ⊢
        have n3 := TN.out.at 3 _ rfl
        have n9 := TN.out.at 9 _ rfl
        have n10 := TN.out.at 10 _ rfl
        go_wp2_with (first | (refine wpList_store_mid rfl 32 (.tmp 4) (.tmp 23) rfl (w.heap.size + 1) 0 #[.int .i64 0, .int .i64 0, .int .i64 0, .int .i64 0, .int .i64 0, .int .i64 0, .int .i64 0, .int .i8 0, .int .i8 0, .slice none 0 0, .slice none 0 0, .int .i32 0, .int .i64 0, .int .i8 0, .int .i32 0, .int .i64 0, .int .i8 0, .int .i8 0, .int .i8 0] rfl rfl HT4.out (by kernel_rfl) (all_oneCell_toArray (cs := [.int .i64 0, .int .i64 0, .int .i64 0, .int .i64 0, .int .i64 0, .int .i64 0, .int .i64 0, .int .i8 0, .int .i8 0, .slice none 0 0, .slice none 0 0, .int .i32 0, .int .i64 0, .int .i8 0, .int .i32 0, .int .i64 0, .int .i8 0, .int .i8 0, .int .i8 0]) (by simp [Value.oneCell'])) ?_; have TR := Lib.hid (NodeAt.stored HT4.out (.int .i64 0) (.int .i64 0) (.int .i64 0) (.int .i8 0) (.int .i32 0) (.int .i64 0) (.int .i8 0) (.int .i32 0) (.int .i64 0) (.int .i8 0) (.int .i8 0) (.int .i8 0) 0 0 0 0 0 none none 0 0 0 0); have HBZ := Lib.hid (Kit.below_cells (show w.heap.size ≤ w.heap.size + 1 by omega) [.int .i64 0, .int .i64 0, .int .i64 0, .int .i64 0, .int .i64 0, .int .i64 0, .int .i64 0, .int .i8 0, .int .i8 0, .slice none 0 0, .slice none 0 0, .int .i32 0, .int .i64 0, .int .i8 0, .int .i32 0, .int .i64 0, .int .i8 0, .int .i8 0, .int .i8 0] 0 _ HB.out); generalize Wm.setCells (w.heap.size + 1) 0 [.int .i64 0, .int .i64 0, .int .i64 0, .int .i64 0, .int .i64 0, .int .i64 0, .int .i64 0, .int .i8 0, .int .i8 0, .slice none 0 0, .slice none 0 0, .int .i32 0, .int .i64 0, .int .i8 0, .int .i32 0, .int .i64 0, .int .i8 0, .int .i8 0, .int .i8 0] = Wz at TR HBZ ⊢) | (refine wpList_store_mid rfl 32 (.tmp 4) (.tmp 51) rfl (w.heap.size + 1) 0 #[.int .i64 0, .int .i64 0, .int .i64 0, .int .i64 0, .int .i64 0, .int .i64 0, .int .i64 0, .int .i8 0, .int .i8 0, .slice none 0 0, .slice none 0 0, .int .i32 0, .int .i64 0, .int .i8 0, .int .i32 0, .int .i64 0, .int .i8 0, .int .i8 0, .int .i8 0] rfl rfl HT4.out (by kernel_rfl) (all_oneCell_toArray (cs := [.int .i64 0, .int .i64 0, .int .i64 0, .int .i64 0, .int .i64 0, .int .i64 0, .int .i64 0, .int .i8 0, .int .i8 0, .slice none 0 0, .slice none 0 0, .int .i32 0, .int .i64 0, .int .i8 0, .int .i32 0, .int .i64 0, .int .i8 0, .int .i8 0, .int .i8 0]) (by simp [Value.oneCell'])) ?_; have TR := Lib.hid (NodeAt.stored HT4.out (.int .i64 0) (.int .i64 0) (.int .i64 0) (.int .i8 0) (.int .i32 0) (.int .i64 0) (.int .i8 0) (.int .i32 0) (.int .i64 0) (.int .i8 0) (.int .i8 0) (.int .i8 0) 0 0 0 0 0 none none 0 0 0 0); have HBZ := Lib.hid (Kit.below_cells (show w.heap.size ≤ w.heap.size + 1 by omega) [.int .i64 0, .int .i64 0, .int .i64 0, .int .i64 0, .int .i64 0, .int .i64 0, .int .i64 0, .int .i8 0, .int .i8 0, .slice none 0 0, .slice none 0 0, .int .i32 0, .int .i64 0, .int .i8 0, .int .i32 0, .int .i64 0, .int .i8 0, .int .i8 0, .int .i8 0] 0 _ HB.out); generalize Wm.setCells (w.heap.size + 1) 0 [.int .i64 0, .int .i64 0, .int .i64 0, .int .i64 0, .int .i64 0, .int .i64 0, .int .i64 0, .int .i8 0, .int .i8 0, .slice none 0 0, .slice none 0 0, .int .i32 0, .int .i64 0, .int .i8 0, .int .i32 0, .int .i64 0, .int .i8 0, .int .i8 0, .int .i8 0] = Wz at TR HBZ ⊢))
        refine bodyPost_ret (Kit.results_ct rfl _ _ (w.heap.size + 1) 0 [.int .i64 0, .int .i64 0, .int .i64 0, .int .i64 0, .int .i64 0, .int .i64 0, .int .i64 0, .int .i8 0, .int .i8 0, .slice none 0 0, .slice none 0 0, .int .i32 0, .int .i64 0, .int .i8 0, .int .i32 0, .int .i64 0, .int .i8 0, .int .i8 0, .int .i8 0] _ rfl TR.out Try.underlying32 rfl (by kernel_rfl)) rfl ?_
        exact ⟨rfl, HBZ.out⟩
      · have h6b : 16384 < r := by omega
        clear h hq0 hq hr h5
        go_enter Try.func12, Try.ntmps12
        go_upto_region 1 with fail
        have TN := Lib.hid ((NodeAt.new x0 x1 x2 x8 x11 x12 x13 x14 x15 x16 x17 x18 K S P O Z WA BA nW cW nB cB 32 w).below (B' := w.heap.size + 1) (by omega) ((Below.refl _ _).alloc (by simp) (.cells #[.int .i64 0, .int .i64 0, .int .i64 0, .int .i64 0, .int .i64 0, .int .i64 0, .int .i64 0, .int .i8 0, .int .i8 0, .slice none 0 0, .slice none 0 0, .int .i32 0, .int .i64 0, .int .i8 0, .int .i32 0, .int .i64 0, .int .i8 0, .int .i8 0, .int .i8 0] 32)))
        have HT := Lib.hid (Kit.there_below (Kit.there_new w (cs := #[x0, x1, x2, .int .i64 K, .int .i64 S, .int .i64 P, .int .i64 O, .int .i8 Z, x8, .slice WA nW cW, .slice BA nB cB, x11, x12, x13, x14, x15, x16, x17, x18]) 32 (n := 19) rfl) ((Below.refl (w.heap.size + 1) _).alloc (by simp) (.cells #[.int .i64 0, .int .i64 0, .int .i64 0, .int .i64 0, .int .i64 0, .int .i64 0, .int .i64 0, .int .i8 0, .int .i8 0, .slice none 0 0, .slice none 0 0, .int .i32 0, .int .i64 0, .int .i8 0, .int .i32 0, .int .i64 0, .int .i8 0, .int .i8 0, .int .i8 0] 32)) (Nat.lt_succ_self _))
        have ht4 := Kit.there_new (w.alloc (.cells #[x0, x1, x2, .int .i64 K, .int .i64 S, .int .i64 P, .int .i64 O, .int .i8 Z, x8, .slice WA nW cW, .slice BA nB cB, x11, x12, x13, x14, x15, x16, x17, x18] 32)) (cs := #[.int .i64 0, .int .i64 0, .int .i64 0, .int .i64 0, .int .i64 0, .int .i64 0, .int .i64 0, .int .i8 0, .int .i8 0, .slice none 0 0, .slice none 0 0, .int .i32 0, .int .i64 0, .int .i8 0, .int .i32 0, .int .i64 0, .int .i8 0, .int .i8 0, .int .i8 0]) 32 (n := 19) rfl
        rw [World.size_alloc] at ht4
        have HT4 := Lib.hid ht4
        have HB := Lib.hid (((Below.refl w.heap.size w).alloc (Nat.le_refl _) (.cells #[x0, x1, x2, .int .i64 K, .int .i64 S, .int .i64 P, .int .i64 O, .int .i8 Z, x8, .slice WA nW cW, .slice BA nB cB, x11, x12, x13, x14, x15, x16, x17, x18] 32)).alloc (by simp) (.cells #[.int .i64 0, .int .i64 0, .int .i64 0, .int .i64 0, .int .i64 0, .int .i64 0, .int .i64 0, .int .i8 0, .int .i8 0, .slice none 0 0, .slice none 0 0, .int .i32 0, .int .i64 0, .int .i8 0, .int .i32 0, .int .i64 0, .int .i8 0, .int .i8 0, .int .i8 0] 32))
        have zz : w.heap.size + 2 ≤ ((w.alloc (.cells #[x0, x1, x2, .int .i64 K, .int .i64 S, .int .i64 P, .int .i64 O, .int .i8 Z, x8, .slice WA nW cW, .slice BA nB cB, x11, x12, x13, x14, x15, x16, x17, x18] 32)).alloc (.cells #[.int .i64 0, .int .i64 0, .int .i64 0, .int .i64 0, .int .i64 0, .int .i64 0, .int .i64 0, .int .i8 0, .int .i8 0, .slice none 0 0, .slice none 0 0, .int .i32 0, .int .i64 0, .int .i8 0, .int .i32 0, .int .i64 0, .int .i8 0, .int .i8 0, .int .i8 0] 32)).heap.size := by simp
        clear ht4
        generalize (w.alloc (.cells #[x0, x1, x2, .int .i64 K, .int .i64 S, .int .i64 P, .int .i64 O, .int .i8 Z, x8, .slice WA nW cW, .slice BA nB cB, x11, x12, x13, x14, x15, x16, x17, x18] 32)).alloc (.cells #[.int .i64 0, .int .i64 0, .int .i64 0, .int .i64 0, .int .i64 0, .int .i64 0, .int .i64 0, .int .i8 0, .int .i8 0, .slice none 0 0, .slice none 0 0, .int .i32 0, .int .i64 0, .int .i8 0, .int .i32 0, .int .i64 0, .int .i8 0, .int .i8 0, .int .i8 0] 32) = Wm at TN HT HT4 HB zz ⊢
        have n3 := TN.out.at 3 _ rfl
        have n9 := TN.out.at 9 _ rfl
        have n10 := TN.out.at 10 _ rfl
        go_wp2_with (first | (refine wpList_store_mid rfl 32 (.tmp 4) (.tmp 23) rfl (w.heap.size + 1) 0 #[.int .i64 0, .int .i64 0, .int .i64 0, .int .i64 0, .int .i64 0, .int .i64 0, .int .i64 0, .int .i8 0, .int .i8 0, .slice none 0 0, .slice none 0 0, .int .i32 0, .int .i64 0, .int .i8 0, .int .i32 0, .int .i64 0, .int .i8 0, .int .i8 0, .int .i8 0] rfl rfl HT4.out (by kernel_rfl) (all_oneCell_toArray (cs := [.int .i64 0, .int .i64 0, .int .i64 0, .int .i64 0, .int .i64 0, .int .i64 0, .int .i64 0, .int .i8 0, .int .i8 0, .slice none 0 0, .slice none 0 0, .int .i32 0, .int .i64 0, .int .i8 0, .int .i32 0, .int .i64 0, .int .i8 0, .int .i8 0, .int .i8 0]) (by simp [Value.oneCell'])) ?_; have TR := Lib.hid (NodeAt.stored HT4.out (.int .i64 0) (.int .i64 0) (.int .i64 0) (.int .i8 0) (.int .i32 0) (.int .i64 0) (.int .i8 0) (.int .i32 0) (.int .i64 0) (.int .i8 0) (.int .i8 0) (.int .i8 0) 0 0 0 0 0 none none 0 0 0 0); have HBZ := Lib.hid (Kit.below_cells (show w.heap.size ≤ w.heap.size + 1 by omega) [.int .i64 0, .int .i64 0, .int .i64 0, .int .i64 0, .int .i64 0, .int .i64 0, .int .i64 0, .int .i8 0, .int .i8 0, .slice none 0 0, .slice none 0 0, .int .i32 0, .int .i64 0, .int .i8 0, .int .i32 0, .int .i64 0, .int .i8 0, .int .i8 0, .int .i8 0] 0 _ HB.out); generalize Wm.setCells (w.heap.size + 1) 0 [.int .i64 0, .int .i64 0, .int .i64 0, .int .i64 0, .int .i64 0, .int .i64 0, .int .i64 0, .int .i8 0, .int .i8 0, .slice none 0 0, .slice none 0 0, .int .i32 0, .int .i64 0, .int .i8 0, .int .i32 0, .int .i64 0, .int .i8 0, .int .i8 0, .int .i8 0] = Wz at TR HBZ ⊢) | (refine wpList_store_mid rfl 32 (.tmp 4) (.tmp 51) rfl (w.heap.size + 1) 0 #[.int .i64 0, .int .i64 0, .int .i64 0, .int .i64 0, .int .i64 0, .int .i64 0, .int .i64 0, .int .i8 0, .int .i8 0, .slice none 0 0, .slice none 0 0, .int .i32 0, .int .i64 0, .int .i8 0, .int .i32 0, .int .i64 0, .int .i8 0, .int .i8 0, .int .i8 0] rfl rfl HT4.out (by kernel_rfl) (all_oneCell_toArray (cs := [.int .i64 0, .int .i64 0, .int .i64 0, .int .i64 0, .int .i64 0, .int .i64 0, .int .i64 0, .int .i8 0, .int .i8 0, .slice none 0 0, .slice none 0 0, .int .i32 0, .int .i64 0, .int .i8 0, .int .i32 0, .int .i64 0, .int .i8 0, .int .i8 0, .int .i8 0]) (by simp [Value.oneCell'])) ?_; have TR := Lib.hid (NodeAt.stored HT4.out (.int .i64 0) (.int .i64 0) (.int .i64 0) (.int .i8 0) (.int .i32 0) (.int .i64 0) (.int .i8 0) (.int .i32 0) (.int .i64 0) (.int .i8 0) (.int .i8 0) (.int .i8 0) 0 0 0 0 0 none none 0 0 0 0); have HBZ := Lib.hid (Kit.below_cells (show w.heap.size ≤ w.heap.size + 1 by omega) [.int .i64 0, .int .i64 0, .int .i64 0, .int .i64 0, .int .i64 0, .int .i64 0, .int .i64 0, .int .i8 0, .int .i8 0, .slice none 0 0, .slice none 0 0, .int .i32 0, .int .i64 0, .int .i8 0, .int .i32 0, .int .i64 0, .int .i8 0, .int .i8 0, .int .i8 0] 0 _ HB.out); generalize Wm.setCells (w.heap.size + 1) 0 [.int .i64 0, .int .i64 0, .int .i64 0, .int .i64 0, .int .i64 0, .int .i64 0, .int .i64 0, .int .i8 0, .int .i8 0, .slice none 0 0, .slice none 0 0, .int .i32 0, .int .i64 0, .int .i8 0, .int .i32 0, .int .i64 0, .int .i8 0, .int .i8 0, .int .i8 0] = Wz at TR HBZ ⊢))
        refine bodyPost_ret (Kit.results_ct rfl _ _ (w.heap.size + 1) 0 [.int .i64 0, .int .i64 0, .int .i64 0, .int .i64 0, .int .i64 0, .int .i64 0, .int .i64 0, .int .i8 0, .int .i8 0, .slice none 0 0, .slice none 0 0, .int .i32 0, .int .i64 0, .int .i8 0, .int .i32 0, .int .i64 0, .int .i8 0, .int .i8 0, .int .i8 0] _ rfl TR.out Try.underlying32 rfl (by kernel_rfl)) rfl ?_
        exact ⟨rfl, HBZ.out⟩
    · have h5b : ((nW : Int) != q) = true := by simpa using h5
      have h5c : ((nW : Int) == q) = false := by simpa using h5
      clear h hq0 hq
      go_enter Try.func12, Try.ntmps12
      go_upto_region 1 with fail
      have TN := Lib.hid ((NodeAt.new x0 x1 x2 x8 x11 x12 x13 x14 x15 x16 x17 x18 K S P O Z WA BA nW cW nB cB 32 w).below (B' := w.heap.size + 1) (by omega) ((Below.refl _ _).alloc (by simp) (.cells #[.int .i64 0, .int .i64 0, .int .i64 0, .int .i64 0, .int .i64 0, .int .i64 0, .int .i64 0, .int .i8 0, .int .i8 0, .slice none 0 0, .slice none 0 0, .int .i32 0, .int .i64 0, .int .i8 0, .int .i32 0, .int .i64 0, .int .i8 0, .int .i8 0, .int .i8 0] 32)))
      have HT := Lib.hid (Kit.there_below (Kit.there_new w (cs := #[x0, x1, x2, .int .i64 K, .int .i64 S, .int .i64 P, .int .i64 O, .int .i8 Z, x8, .slice WA nW cW, .slice BA nB cB, x11, x12, x13, x14, x15, x16, x17, x18]) 32 (n := 19) rfl) ((Below.refl (w.heap.size + 1) _).alloc (by simp) (.cells #[.int .i64 0, .int .i64 0, .int .i64 0, .int .i64 0, .int .i64 0, .int .i64 0, .int .i64 0, .int .i8 0, .int .i8 0, .slice none 0 0, .slice none 0 0, .int .i32 0, .int .i64 0, .int .i8 0, .int .i32 0, .int .i64 0, .int .i8 0, .int .i8 0, .int .i8 0] 32)) (Nat.lt_succ_self _))
      have ht4 := Kit.there_new (w.alloc (.cells #[x0, x1, x2, .int .i64 K, .int .i64 S, .int .i64 P, .int .i64 O, .int .i8 Z, x8, .slice WA nW cW, .slice BA nB cB, x11, x12, x13, x14, x15, x16, x17, x18] 32)) (cs := #[.int .i64 0, .int .i64 0, .int .i64 0, .int .i64 0, .int .i64 0, .int .i64 0, .int .i64 0, .int .i8 0, .int .i8 0, .slice none 0 0, .slice none 0 0, .int .i32 0, .int .i64 0, .int .i8 0, .int .i32 0, .int .i64 0, .int .i8 0, .int .i8 0, .int .i8 0]) 32 (n := 19) rfl
      rw [World.size_alloc] at ht4
      have HT4 := Lib.hid ht4
      have HB := Lib.hid (((Below.refl w.heap.size w).alloc (Nat.le_refl _) (.cells #[x0, x1, x2, .int .i64 K, .int .i64 S, .int .i64 P, .int .i64 O, .int .i8 Z, x8, .slice WA nW cW, .slice BA nB cB, x11, x12, x13, x14, x15, x16, x17, x18] 32)).alloc (by simp) (.cells #[.int .i64 0, .int .i64 0, .int .i64 0, .int .i64 0, .int .i64 0, .int .i64 0, .int .i64 0, .int .i8 0, .int .i8 0, .slice none 0 0, .slice none 0 0, .int .i32 0, .int .i64 0, .int .i8 0, .int .i32 0, .int .i64 0, .int .i8 0, .int .i8 0, .int .i8 0] 32))
      have zz : w.heap.size + 2 ≤ ((w.alloc (.cells #[x0, x1, x2, .int .i64 K, .int .i64 S, .int .i64 P, .int .i64 O, .int .i8 Z, x8, .slice WA nW cW, .slice BA nB cB, x11, x12, x13, x14, x15, x16, x17, x18] 32)).alloc (.cells #[.int .i64 0, .int .i64 0, .int .i64 0, .int .i64 0, .int .i64 0, .int .i64 0, .int .i64 0, .int .i8 0, .int .i8 0, .slice none 0 0, .slice none 0 0, .int .i32 0, .int .i64 0, .int .i8 0, .int .i32 0, .int .i64 0, .int .i8 0, .int .i8 0, .int .i8 0] 32)).heap.size := by simp
      clear ht4
      generalize (w.alloc (.cells #[x0, x1, x2, .int .i64 K, .int .i64 S, .int .i64 P, .int .i64 O, .int .i8 Z, x8, .slice WA nW cW, .slice BA nB cB, x11, x12, x13, x14, x15, x16, x17, x18] 32)).alloc (.cells #[.int .i64 0, .int .i64 0, .int .i64 0, .int .i64 0, .int .i64 0, .int .i64 0, .int .i64 0, .int .i8 0, .int .i8 0, .slice none 0 0, .slice none 0 0, .int .i32 0, .int .i64 0, .int .i8 0, .int .i32 0, .int .i64 0, .int .i8 0, .int .i8 0, .int .i8 0] 32) = Wm at TN HT HT4 HB zz ⊢
      have n3 := TN.out.at 3 _ rfl
      have n9 := TN.out.at 9 _ rfl
      have n10 := TN.out.at 10 _ rfl
      go_wp2_with (first | (refine wpList_store_mid rfl 32 (.tmp 4) (.tmp 23) rfl (w.heap.size + 1) 0 #[.int .i64 0, .int .i64 0, .int .i64 0, .int .i64 0, .int .i64 0, .int .i64 0, .int .i64 0, .int .i8 0, .int .i8 0, .slice none 0 0, .slice none 0 0, .int .i32 0, .int .i64 0, .int .i8 0, .int .i32 0, .int .i64 0, .int .i8 0, .int .i8 0, .int .i8 0] rfl rfl HT4.out (by kernel_rfl) (all_oneCell_toArray (cs := [.int .i64 0, .int .i64 0, .int .i64 0, .int .i64 0, .int .i64 0, .int .i64 0, .int .i64 0, .int .i8 0, .int .i8 0, .slice none 0 0, .slice none 0 0, .int .i32 0, .int .i64 0, .int .i8 0, .int .i32 0, .int .i64 0, .int .i8 0, .int .i8 0, .int .i8 0]) (by simp [Value.oneCell'])) ?_; have TR := Lib.hid (NodeAt.stored HT4.out (.int .i64 0) (.int .i64 0) (.int .i64 0) (.int .i8 0) (.int .i32 0) (.int .i64 0) (.int .i8 0) (.int .i32 0) (.int .i64 0) (.int .i8 0) (.int .i8 0) (.int .i8 0) 0 0 0 0 0 none none 0 0 0 0); have HBZ := Lib.hid (Kit.below_cells (show w.heap.size ≤ w.heap.size + 1 by omega) [.int .i64 0, .int .i64 0, .int .i64 0, .int .i64 0, .int .i64 0, .int .i64 0, .int .i64 0, .int .i8 0, .int .i8 0, .slice none 0 0, .slice none 0 0, .int .i32 0, .int .i64 0, .int .i8 0, .int .i32 0, .int .i64 0, .int .i8 0, .int .i8 0, .int .i8 0] 0 _ HB.out); generalize Wm.setCells (w.heap.size + 1) 0 [.int .i64 0, .int .i64 0, .int .i64 0, .int .i64 0, .int .i64 0, .int .i64 0, .int .i64 0, .int .i8 0, .int .i8 0, .slice none 0 0, .slice none 0 0, .int .i32 0, .int .i64 0, .int .i8 0, .int .i32 0, .int .i64 0, .int .i8 0, .int .i8 0, .int .i8 0] = Wz at TR HBZ ⊢) | (refine wpList_store_mid rfl 32 (.tmp 4) (.tmp 51) rfl (w.heap.size + 1) 0 #[.int .i64 0, .int .i64 0, .int .i64 0, .int .i64 0, .int .i64 0, .int .i64 0, .int .i64 0, .int .i8 0, .int .i8 0, .slice none 0 0, .slice none 0 0, .int .i32 0, .int .i64 0, .int .i8 0, .int .i32 0, .int .i64 0, .int .i8 0, .int .i8 0, .int .i8 0] rfl rfl HT4.out (by kernel_rfl) (all_oneCell_toArray (cs := [.int .i64 0, .int .i64 0, .int .i64 0, .int .i64 0, .int .i64 0, .int .i64 0, .int .i64 0, .int .i8 0, .int .i8 0, .slice none 0 0, .slice none 0 0, .int .i32 0, .int .i64 0, .int .i8 0, .int .i32 0, .int .i64 0, .int .i8 0, .int .i8 0, .int .i8 0]) (by simp [Value.oneCell'])) ?_; have TR := Lib.hid (NodeAt.stored HT4.out (.int .i64 0) (.int .i64 0) (.int .i64 0) (.int .i8 0) (.int .i32 0) (.int .i64 0) (.int .i8 0) (.int .i32 0) (.int .i64 0) (.int .i8 0) (.int .i8 0) (.int .i8 0) 0 0 0 0 0 none none 0 0 0 0); have HBZ := Lib.hid (Kit.below_cells (show w.heap.size ≤ w.heap.size + 1 by omega) [.int .i64 0, .int .i64 0, .int .i64 0, .int .i64 0, .int .i64 0, .int .i64 0, .int .i64 0, .int .i8 0, .int .i8 0, .slice none 0 0, .slice none 0 0, .int .i32 0, .int .i64 0, .int .i8 0, .int .i32 0, .int .i64 0, .int .i8 0, .int .i8 0, .int .i8 0] 0 _ HB.out); generalize Wm.setCells (w.heap.size + 1) 0 [.int .i64 0, .int .i64 0, .int .i64 0, .int .i64 0, .int .i64 0, .int .i64 0, .int .i64 0, .int .i8 0, .int .i8 0, .slice none 0 0, .slice none 0 0, .int .i32 0, .int .i64 0, .int .i8 0, .int .i32 0, .int .i64 0, .int .i8 0, .int .i8 0, .int .i8 0] = Wz at TR HBZ ⊢))
      refine bodyPost_ret (Kit.results_ct rfl _ _ (w.heap.size + 1) 0 [.int .i64 0, .int .i64 0, .int .i64 0, .int .i64 0, .int .i64 0, .int .i64 0, .int .i64 0, .int .i8 0, .int .i8 0, .slice none 0 0, .slice none 0 0, .int .i32 0, .int .i64 0, .int .i8 0, .int .i32 0, .int .i64 0, .int .i8 0, .int .i8 0, .int .i8 0] _ rfl TR.out Try.underlying32 rfl (by kernel_rfl)) rfl ?_
      exact ⟨rfl, HBZ.out⟩
  all_goals
    clear h
    go_enter Try.func12, Try.ntmps12
    go_upto_region 1 with fail
    have TN := Lib.hid ((NodeAt.new x0 x1 x2 x8 x11 x12 x13 x14 x15 x16 x17 x18 K S P O Z WA BA nW cW nB cB 32 w).below (B' := w.heap.size + 1) (by omega) ((Below.refl _ _).alloc (by simp) (.cells #[.int .i64 0, .int .i64 0, .int .i64 0, .int .i64 0, .int .i64 0, .int .i64 0, .int .i64 0, .int .i8 0, .int .i8 0, .slice none 0 0, .slice none 0 0, .int .i32 0, .int .i64 0, .int .i8 0, .int .i32 0, .int .i64 0, .int .i8 0, .int .i8 0, .int .i8 0] 32)))
    have HT := Lib.hid (Kit.there_below (Kit.there_new w (cs := #[x0, x1, x2, .int .i64 K, .int .i64 S, .int .i64 P, .int .i64 O, .int .i8 Z, x8, .slice WA nW cW, .slice BA nB cB, x11, x12, x13, x14, x15, x16, x17, x18]) 32 (n := 19) rfl) ((Below.refl (w.heap.size + 1) _).alloc (by simp) (.cells #[.int .i64 0, .int .i64 0, .int .i64 0, .int .i64 0, .int .i64 0, .int .i64 0, .int .i64 0, .int .i8 0, .int .i8 0, .slice none 0 0, .slice none 0 0, .int .i32 0, .int .i64 0, .int .i8 0, .int .i32 0, .int .i64 0, .int .i8 0, .int .i8 0, .int .i8 0] 32)) (Nat.lt_succ_self _))
    have ht4 := Kit.there_new (w.alloc (.cells #[x0, x1, x2, .int .i64 K, .int .i64 S, .int .i64 P, .int .i64 O, .int .i8 Z, x8, .slice WA nW cW, .slice BA nB cB, x11, x12, x13, x14, x15, x16, x17, x18] 32)) (cs := #[.int .i64 0, .int .i64 0, .int .i64 0, .int .i64 0, .int .i64 0, .int .i64 0, .int .i64 0, .int .i8 0, .int .i8 0, .slice none 0 0, .slice none 0 0, .int .i32 0, .int .i64 0, .int .i8 0, .int .i32 0, .int .i64 0, .int .i8 0, .int .i8 0, .int .i8 0]) 32 (n := 19) rfl
    rw [World.size_alloc] at ht4
    have HT4 := Lib.hid ht4
    have HB := Lib.hid (((Below.refl w.heap.size w).alloc (Nat.le_refl _) (.cells #[x0, x1, x2, .int .i64 K, .int .i64 S, .int .i64 P, .int .i64 O, .int .i8 Z, x8, .slice WA nW cW, .slice BA nB cB, x11, x12, x13, x14, x15, x16, x17, x18] 32)).alloc (by simp) (.cells #[.int .i64 0, .int .i64 0, .int .i64 0, .int .i64 0, .int .i64 0, .int .i64 0, .int .i64 0, .int .i8 0, .int .i8 0, .slice none 0 0, .slice none 0 0, .int .i32 0, .int .i64 0, .int .i8 0, .int .i32 0, .int .i64 0, .int .i8 0, .int .i8 0, .int .i8 0] 32))
    have zz : w.heap.size + 2 ≤ ((w.alloc (.cells #[x0, x1, x2, .int .i64 K, .int .i64 S, .int .i64 P, .int .i64 O, .int .i8 Z, x8, .slice WA nW cW, .slice BA nB cB, x11, x12, x13, x14, x15, x16, x17, x18] 32)).alloc (.cells #[.int .i64 0, .int .i64 0, .int .i64 0, .int .i64 0, .int .i64 0, .int .i64 0, .int .i64 0, .int .i8 0, .int .i8 0, .slice none 0 0, .slice none 0 0, .int .i32 0, .int .i64 0, .int .i8 0, .int .i32 0, .int .i64 0, .int .i8 0, .int .i8 0, .int .i8 0] 32)).heap.size := by simp
    clear ht4
    generalize (w.alloc (.cells #[x0, x1, x2, .int .i64 K, .int .i64 S, .int .i64 P, .int .i64 O, .int .i8 Z, x8, .slice WA nW cW, .slice BA nB cB, x11, x12, x13, x14, x15, x16, x17, x18] 32)).alloc (.cells #[.int .i64 0, .int .i64 0, .int .i64 0, .int .i64 0, .int .i64 0, .int .i64 0, .int .i64 0, .int .i8 0, .int .i8 0, .slice none 0 0, .slice none 0 0, .int .i32 0, .int .i64 0, .int .i8 0, .int .i32 0, .int .i64 0, .int .i8 0, .int .i8 0, .int .i8 0] 32) = Wm at TN HT HT4 HB zz ⊢
    have n3 := TN.out.at 3 _ rfl
    have n9 := TN.out.at 9 _ rfl
    have n10 := TN.out.at 10 _ rfl
    go_wp2_with (first | (refine wpList_store_mid rfl 32 (.tmp 4) (.tmp 23) rfl (w.heap.size + 1) 0 #[.int .i64 0, .int .i64 0, .int .i64 0, .int .i64 0, .int .i64 0, .int .i64 0, .int .i64 0, .int .i8 0, .int .i8 0, .slice none 0 0, .slice none 0 0, .int .i32 0, .int .i64 0, .int .i8 0, .int .i32 0, .int .i64 0, .int .i8 0, .int .i8 0, .int .i8 0] rfl rfl HT4.out (by kernel_rfl) (all_oneCell_toArray (cs := [.int .i64 0, .int .i64 0, .int .i64 0, .int .i64 0, .int .i64 0, .int .i64 0, .int .i64 0, .int .i8 0, .int .i8 0, .slice none 0 0, .slice none 0 0, .int .i32 0, .int .i64 0, .int .i8 0, .int .i32 0, .int .i64 0, .int .i8 0, .int .i8 0, .int .i8 0]) (by simp [Value.oneCell'])) ?_; have TR := Lib.hid (NodeAt.stored HT4.out (.int .i64 0) (.int .i64 0) (.int .i64 0) (.int .i8 0) (.int .i32 0) (.int .i64 0) (.int .i8 0) (.int .i32 0) (.int .i64 0) (.int .i8 0) (.int .i8 0) (.int .i8 0) 0 0 0 0 0 none none 0 0 0 0); have HBZ := Lib.hid (Kit.below_cells (show w.heap.size ≤ w.heap.size + 1 by omega) [.int .i64 0, .int .i64 0, .int .i64 0, .int .i64 0, .int .i64 0, .int .i64 0, .int .i64 0, .int .i8 0, .int .i8 0, .slice none 0 0, .slice none 0 0, .int .i32 0, .int .i64 0, .int .i8 0, .int .i32 0, .int .i64 0, .int .i8 0, .int .i8 0, .int .i8 0] 0 _ HB.out); generalize Wm.setCells (w.heap.size + 1) 0 [.int .i64 0, .int .i64 0, .int .i64 0, .int .i64 0, .int .i64 0, .int .i64 0, .int .i64 0, .int .i8 0, .int .i8 0, .slice none 0 0, .slice none 0 0, .int .i32 0, .int .i64 0, .int .i8 0, .int .i32 0, .int .i64 0, .int .i8 0, .int .i8 0, .int .i8 0] = Wz at TR HBZ ⊢) | (refine wpList_store_mid rfl 32 (.tmp 4) (.tmp 51) rfl (w.heap.size + 1) 0 #[.int .i64 0, .int .i64 0, .int .i64 0, .int .i64 0, .int .i64 0, .int .i64 0, .int .i64 0, .int .i8 0, .int .i8 0, .slice none 0 0, .slice none 0 0, .int .i32 0, .int .i64 0, .int .i8 0, .int .i32 0, .int .i64 0, .int .i8 0, .int .i8 0, .int .i8 0] rfl rfl HT4.out (by kernel_rfl) (all_oneCell_toArray (cs := [.int .i64 0, .int .i64 0, .int .i64 0, .int .i64 0, .int .i64 0, .int .i64 0, .int .i64 0, .int .i8 0, .int .i8 0, .slice none 0 0, .slice none 0 0, .int .i32 0, .int .i64 0, .int .i8 0, .int .i32 0, .int .i64 0, .int .i8 0, .int .i8 0, .int .i8 0]) (by simp [Value.oneCell'])) ?_; have TR := Lib.hid (NodeAt.stored HT4.out (.int .i64 0) (.int .i64 0) (.int .i64 0) (.int .i8 0) (.int .i32 0) (.int .i64 0) (.int .i8 0) (.int .i32 0) (.int .i64 0) (.int .i8 0) (.int .i8 0) (.int .i8 0) 0 0 0 0 0 none none 0 0 0 0); have HBZ := Lib.hid (Kit.below_cells (show w.heap.size ≤ w.heap.size + 1 by omega) [.int .i64 0, .int .i64 0, .int .i64 0, .int .i64 0, .int .i64 0, .int .i64 0, .int .i64 0, .int .i8 0, .int .i8 0, .slice none 0 0, .slice none 0 0, .int .i32 0, .int .i64 0, .int .i8 0, .int .i32 0, .int .i64 0, .int .i8 0, .int .i8 0, .int .i8 0] 0 _ HB.out); generalize Wm.setCells (w.heap.size + 1) 0 [.int .i64 0, .int .i64 0, .int .i64 0, .int .i64 0, .int .i64 0, .int .i64 0, .int .i64 0, .int .i8 0, .int .i8 0, .slice none 0 0, .slice none 0 0, .int .i32 0, .int .i64 0, .int .i8 0, .int .i32 0, .int .i64 0, .int .i8 0, .int .i8 0, .int .i8 0] = Wz at TR HBZ ⊢))
    refine bodyPost_ret (Kit.results_ct rfl _ _ (w.heap.size + 1) 0 [.int .i64 0, .int .i64 0, .int .i64 0, .int .i64 0, .int .i64 0, .int .i64 0, .int .i64 0, .int .i8 0, .int .i8 0, .slice none 0 0, .slice none 0 0, .int .i32 0, .int .i64 0, .int .i8 0, .int .i32 0, .int .i64 0, .int .i8 0, .int .i8 0, .int .i8 0] _ rfl TR.out Try.underlying32 rfl (by kernel_rfl)) rfl ?_
    exact ⟨rfl, HBZ.out⟩
/-- a wide node of the call's own lists. -/
def MadeN (w : World) (x1 x2 x8 x11 x12 x13 x14 x15 x16 x17 x18 : Value) (K S P Z : Int) (WA BA : Option Addr) (nW cW nB cB : Nat) (ch : Int) (N : Nat) (wide bs : List Int) (e : Ending) (w' : World) : Prop :=
  ∃ vW vB, e = .returned (.tuple #[.agg #[.int .i64 1, x1, x2, .int .i64 K, .int .i64 S, .int .i64 P, .int .i64 ch, .int .i8 Z, x8, vW, vB, x11, x12, x13, x14, x15, x16, x17, x18], .int .i64 0]) ∧
    w'.ownsRow w.heap.size 27 1 vW N (I8s wide) ∧ w'.ownsRow w.heap.size 21 1 vB nB (I32v bs) ∧ Below w.heap.size w w'
set_option maxRecDepth 100000 in
set_option maxHeartbeats 8000000 in
theorem wide_ok (x0 x1 x2 x8 x11 x12 x13 x14 x15 x16 x17 x18 : Value) (K S P O Z : Int) (WA BA : Option Addr) (nW cW nB cB : Nat) (hone : ∀ v ∈ [x0, x1, x2, .int .i64 K, .int .i64 S, .int .i64 P, .int .i64 O, .int .i8 Z, x8, .slice WA nW cW, .slice BA nB cB, x11, x12, x13, x14, x15, x16, x17, x18], v.oneCell' = true) (ws : List Int) (hws : ws.length = nW) (bs : List Int) (hbs : bs.length = nB) (ch kk N : Nat) (hk : K = (kk : Int)) (c1 : 1 ≤ ch) (c2 : ch ≤ 64) (k1 : 1 ≤ kk) (k2 : kk ≤ 5) (hnW : ch * (kk * kk) = nW) (hnB : nB = ch) (hN : nW * ch = N) (hN2 : N ≤ 16384)
    (w : World) (hrw : Kit.Rd w w.heap.size WA (I8s ws)) (hrb : Kit.Rd w w.heap.size BA (I32v bs)) :
    Calls Try.prog 12 #[.agg #[x0, x1, x2, .int .i64 K, .int .i64 S, .int .i64 P, .int .i64 O, .int .i8 Z, x8, .slice WA nW cW, .slice BA nB cB, x11, x12, x13, x14, x15, x16, x17, x18], .int .i64 (ch : Int)] w (MadeN w x1 x2 x8 x11 x12 x13 x14 x15 x16 x17 x18 K S P Z WA BA nW cW nB cB (ch : Int) N (rowL (wideF ws (kk * kk) ch) N) bs) := by
  have hkk : kk * kk ≤ 25 := Nat.mul_le_mul k2 k2
  have hkk1 : 1 ≤ kk * kk := Nat.mul_le_mul k1 k1
  have hW0 : 0 < nW := by rw [← hnW]; exact Nat.mul_pos (by omega) (by omega)
  obtain ⟨own, hown⟩ : ∃ own, kk * kk = own := ⟨_, rfl⟩
  rw [hown] at hkk hkk1 hnW ⊢
  have hcn : ch * own ≤ 1600 := Nat.le_trans (Nat.mul_le_mul c2 hkk) (by omega)
  have e1 : IntKind.i64.wrap ((kk : Int) * (kk : Int)) = (own : Int) := by rw [← Int.natCast_mul, hown]; exact IntWalk.i64_in _ (by omega)
  have e2 : IntKind.i64.wrap ((ch : Int) * (own : Int)) = (nW : Int) := by rw [← Int.natCast_mul, hnW]; exact IntWalk.i64_in _ (by omega)
  have e3 : IntKind.i64.wrap ((nW : Int) * (ch : Int)) = (N : Int) := by rw [← Int.natCast_mul, hN]; exact IntWalk.i64_in _ (by omega)
  have hsp := fun (w' : World) (r : Kit.Rd w' w'.heap.size WA (I8s ws)) => spread_to WA ws nW cW own ch N hws hW0 hN hN2 hkk1 c1 hnW w' r
  have hcl := fun (w' : World) (r : Kit.Rd w' w'.heap.size BA (I32v bs)) => sclone32 BA bs nB cB hbs (by omega) (B := w'.heap.size) w' (Nat.le_refl _) r
  have HSP := Lib.hid hsp
  have HCL := Lib.hid hcl
  have HR := Lib.hid hrw
  have HRB := Lib.hid hrb
  have HONE := Lib.hid hone
  generalize rowL (wideF ws own ch) N = wide at HSP ⊢
  have f1 : ¬ (ch : Int) < 1 := by omega
  have f2 : ¬ 64 < (ch : Int) := by omega
  have f3 : ¬ (kk : Int) < 1 := by omega
  have f4 : ¬ 5 < (kk : Int) := by omega
  have f6 : ¬ 16384 < (N : Int) := by omega
  subst hk
  have hnBc : (nB : Int) = (ch : Int) := by omega
  have f7 : ((nB : Int) != (ch : Int)) = false := by simpa using hnBc
  clear hsp hcl hrw hrb hone hws hbs hN hnW hown hcn hnBc hnB
  go_enter Try.func12, Try.ntmps12
  go_upto_region 1 with fail
  have TN := Lib.hid ((NodeAt.new x0 x1 x2 x8 x11 x12 x13 x14 x15 x16 x17 x18 (kk : Int) S P O Z WA BA nW cW nB cB 32 w).below (B' := w.heap.size + 1) (by omega) ((Below.refl _ _).alloc (by simp) (.cells #[.int .i64 0, .int .i64 0, .int .i64 0, .int .i64 0, .int .i64 0, .int .i64 0, .int .i64 0, .int .i8 0, .int .i8 0, .slice none 0 0, .slice none 0 0, .int .i32 0, .int .i64 0, .int .i8 0, .int .i32 0, .int .i64 0, .int .i8 0, .int .i8 0, .int .i8 0] 32)))
  have HT := Lib.hid (Kit.there_below (Kit.there_new w (cs := #[x0, x1, x2, .int .i64 (kk : Int), .int .i64 S, .int .i64 P, .int .i64 O, .int .i8 Z, x8, .slice WA nW cW, .slice BA nB cB, x11, x12, x13, x14, x15, x16, x17, x18]) 32 (n := 19) rfl) ((Below.refl (w.heap.size + 1) _).alloc (by simp) (.cells #[.int .i64 0, .int .i64 0, .int .i64 0, .int .i64 0, .int .i64 0, .int .i64 0, .int .i64 0, .int .i8 0, .int .i8 0, .slice none 0 0, .slice none 0 0, .int .i32 0, .int .i64 0, .int .i8 0, .int .i32 0, .int .i64 0, .int .i8 0, .int .i8 0, .int .i8 0] 32)) (Nat.lt_succ_self _))
  have ht4 := Kit.there_new (w.alloc (.cells #[x0, x1, x2, .int .i64 (kk : Int), .int .i64 S, .int .i64 P, .int .i64 O, .int .i8 Z, x8, .slice WA nW cW, .slice BA nB cB, x11, x12, x13, x14, x15, x16, x17, x18] 32)) (cs := #[.int .i64 0, .int .i64 0, .int .i64 0, .int .i64 0, .int .i64 0, .int .i64 0, .int .i64 0, .int .i8 0, .int .i8 0, .slice none 0 0, .slice none 0 0, .int .i32 0, .int .i64 0, .int .i8 0, .int .i32 0, .int .i64 0, .int .i8 0, .int .i8 0, .int .i8 0]) 32 (n := 19) rfl
  rw [World.size_alloc] at ht4
  have HT4 := Lib.hid ht4
  have HB := Lib.hid (((Below.refl w.heap.size w).alloc (Nat.le_refl _) (.cells #[x0, x1, x2, .int .i64 (kk : Int), .int .i64 S, .int .i64 P, .int .i64 O, .int .i8 Z, x8, .slice WA nW cW, .slice BA nB cB, x11, x12, x13, x14, x15, x16, x17, x18] 32)).alloc (by simp) (.cells #[.int .i64 0, .int .i64 0, .int .i64 0, .int .i64 0, .int .i64 0, .int .i64 0, .int .i64 0, .int .i8 0, .int .i8 0, .slice none 0 0, .slice none 0 0, .int .i32 0, .int .i64 0, .int .i8 0, .int .i32 0, .int .i64 0, .int .i8 0, .int .i8 0, .int .i8 0] 32))
  have zz : w.heap.size + 2 ≤ ((w.alloc (.cells #[x0, x1, x2, .int .i64 (kk : Int), .int .i64 S, .int .i64 P, .int .i64 O, .int .i8 Z, x8, .slice WA nW cW, .slice BA nB cB, x11, x12, x13, x14, x15, x16, x17, x18] 32)).alloc (.cells #[.int .i64 0, .int .i64 0, .int .i64 0, .int .i64 0, .int .i64 0, .int .i64 0, .int .i64 0, .int .i8 0, .int .i8 0, .slice none 0 0, .slice none 0 0, .int .i32 0, .int .i64 0, .int .i8 0, .int .i32 0, .int .i64 0, .int .i8 0, .int .i8 0, .int .i8 0] 32)).heap.size := by simp
  clear ht4
  generalize (w.alloc (.cells #[x0, x1, x2, .int .i64 (kk : Int), .int .i64 S, .int .i64 P, .int .i64 O, .int .i8 Z, x8, .slice WA nW cW, .slice BA nB cB, x11, x12, x13, x14, x15, x16, x17, x18] 32)).alloc (.cells #[.int .i64 0, .int .i64 0, .int .i64 0, .int .i64 0, .int .i64 0, .int .i64 0, .int .i64 0, .int .i8 0, .int .i8 0, .slice none 0 0, .slice none 0 0, .int .i32 0, .int .i64 0, .int .i8 0, .int .i32 0, .int .i64 0, .int .i8 0, .int .i8 0, .int .i8 0] 32) = Wm at TN HT HT4 HB zz ⊢
  have n3 := TN.out.at 3 _ rfl
  have n9 := TN.out.at 9 _ rfl
  have n10 := TN.out.at 10 _ rfl
  go_upto_region 6 with fail
  have m0 := TN.out.at 0 _ rfl
  have m6 := TN.out.at 6 _ rfl
  have fm0 := there_at HT.out (i := 0) (by decide)
  have fm6 := there_at HT.out (i := 6) (by decide)
  go_upto_region 7 with fail
  have hs0 : (Wm.cell? ⟨w.heap.size, 0, none⟩).isSome = true := by rw [m0]; rfl
  have T1 := there_set HT.out ⟨w.heap.size, 0, none⟩ (.int .i64 1) hs0
  have N1 := NodeAt.set0 TN.out (.int .i64 1)
  have q6 := N1.at 6 _ rfl
  have hs6 : ((Wm.setCell ⟨w.heap.size, 0, none⟩ (.int .i64 1)).cell? ⟨w.heap.size, 6, none⟩).isSome = true := by rw [q6]; rfl
  replace HT := Lib.hid (there_set T1 ⟨w.heap.size, 6, none⟩ (.int .i64 (ch : Int)) hs6)
  replace TN := Lib.hid (N1.set6 (ch : Int))
  have hs40 : ∀ i : Nat, w.heap.size + 1 ≠ w.heap.size := fun _ => by omega
  have hb0 : Below w.heap.size w ((Wm.setCell ⟨w.heap.size, 0, none⟩ (.int .i64 1)).setCell ⟨w.heap.size, 6, none⟩ (.int .i64 (ch : Int))) := (HB.out.setCell (p := ⟨w.heap.size, 0, none⟩) (Nat.le_refl _) _).setCell (p := ⟨w.heap.size, 6, none⟩) (Nat.le_refl _) _
  have ht9 : ((Wm.setCell ⟨w.heap.size, 0, none⟩ (.int .i64 1)).setCell ⟨w.heap.size, 6, none⟩ (.int .i64 (ch : Int))).there (w.heap.size + 1) 0 19 := there_set (there_set HT4.out _ _ hs0) _ _ hs6
  have zz9 : w.heap.size + 2 ≤ ((Wm.setCell ⟨w.heap.size, 0, none⟩ (.int .i64 1)).setCell ⟨w.heap.size, 6, none⟩ (.int .i64 (ch : Int))).heap.size := by simpa using zz
  replace HT4 := Lib.hid ht9
  replace HB := Lib.hid hb0
  clear n3 n9 n10 m0 m6 fm0 fm6 hs0 hs6 hs40 q6 T1 N1 hb0 ht9 zz e1 e2 f1 f2 f3 f4 f6 f7
  generalize (Wm.setCell ⟨w.heap.size, 0, none⟩ (.int .i64 1)).setCell ⟨w.heap.size, 6, none⟩ (.int .i64 (ch : Int)) = Wn at TN HT HT4 HB zz9 ⊢
  refine wp_region_any (by kernel_rfl) ?_
  rw [show ({ Wn with drawn := Wn.drawn + 1 } : World) = Wn.drew from rfl]
  have hdr : Below Wn.heap.size Wn Wn.drew := (Below.refl _ _).drew
  have hdr2 : Below (w.heap.size + 2) Wn Wn.drew := (Below.refl _ _).drew
  replace TN := Lib.hid (TN.out.below (B' := w.heap.size + 2) (by omega) hdr2)
  replace HT := Lib.hid (Kit.there_below HT.out hdr2 (by omega))
  replace HT4 := Lib.hid (Kit.there_below HT4.out hdr2 (by omega))
  replace HB := Lib.hid HB.out.drew
  replace zz9 : w.heap.size + 2 ≤ Wn.drew.heap.size := zz9
  clear hdr hdr2
  generalize Wn.drew = V at TN HT HT4 HB zz9 ⊢
  have n9 := TN.out.at 9 _ rfl
  have n10 := TN.out.at 10 _ rfl
  refine wpAny_take (i := 0) (oi := ({ dst := some 55, op := Op.fieldAddr 32 (Operand.tmp 2) 9, type := 0, pos := "depth.go:73", after := #[], guard := none } : Oper)) (v := ?_) rfl (by kernel_rfl) (by kernel_rfl) (by kernel_rfl) (fun _ _ _ h => h) (Or.inl ⟨by rfl, ?_⟩) ?_
  rotate_left
  · intro wS
    first
      | (go_simp; done)
      | (go_simp; with_reducible rfl)
  try simp only [Act.put, List.setIfInBounds_toArray, List.set_cons_zero, List.set_cons_succ]
  refine wpAny_take (i := 2) (oi := ({ dst := some 57, op := Op.move (Operand.tmp 6), type := 3, pos := "depth.go:73", after := #[], guard := none } : Oper)) (v := ?_) rfl (by kernel_rfl) (by kernel_rfl) (by kernel_rfl) (fun _ _ _ h => h) (Or.inl ⟨by rfl, ?_⟩) ?_
  rotate_left
  · intro wS
    first
      | (go_simp; done)
      | (go_simp; with_reducible rfl)
  try simp only [Act.put, List.setIfInBounds_toArray, List.set_cons_zero, List.set_cons_succ]
  refine wpAny_take (i := 3) (oi := ({ dst := some 58, op := Op.move (Operand.tmp 1), type := 3, pos := "depth.go:73", after := #[], guard := none } : Oper)) (v := ?_) rfl (by kernel_rfl) (by kernel_rfl) (by kernel_rfl) (fun _ _ _ h => h) (Or.inl ⟨by rfl, ?_⟩) ?_
  rotate_left
  · intro wS
    first
      | (go_simp; done)
      | (go_simp; with_reducible rfl)
  try simp only [Act.put, List.setIfInBounds_toArray, List.set_cons_zero, List.set_cons_succ]
  refine wpAny_take (i := 5) (oi := ({ dst := some 60, op := Op.fieldAddr 32 (Operand.tmp 2) 10, type := 0, pos := "depth.go:73", after := #[], guard := none } : Oper)) (v := ?_) rfl (by kernel_rfl) (by kernel_rfl) (by kernel_rfl) (fun _ _ _ h => h) (Or.inl ⟨by rfl, ?_⟩) ?_
  rotate_left
  · intro wS
    first
      | (go_simp; done)
      | (go_simp; with_reducible rfl)
  try simp only [Act.put, List.setIfInBounds_toArray, List.set_cons_zero, List.set_cons_succ]
  refine wpAny_ready (rs := [1, 6]) (by kernel_rfl) (by simp) ?_
  refine AllReady.cons (o := ({ dst := some 56, op := Op.load 24 (Operand.tmp 55), type := 24, pos := "depth.go:73", after := #[{ on := 0, ground := Ground.data }], guard := none } : Oper)) rfl (fun Kq hK => ?_) ?_
  · go_simp
    refine hK _ _ ?_
    clear hK Kq
    try simp only [Act.put, List.setIfInBounds_toArray, List.set_cons_zero, List.set_cons_succ]
    refine wpAny_ready (rs := [4, 6]) (by kernel_rfl) (by simp) ?_
    refine AllReady.cons (o := ({ dst := some 59, op := Op.call { callee := Callee.value (Operand.func 22), args := #[Operand.tmp 56, Operand.tmp 57, Operand.tmp 58], argTypes := #[24, 3, 3] }, type := 24, pos := "depth.go:73", after := #[{ on := 1, ground := Ground.data }, { on := 2, ground := Ground.data }, { on := 3, ground := Ground.data }], guard := none } : Oper)) rfl (fun Kq hK => ?_) ?_
    · go_simp
      go_at_call 22
      refine (HSP.out _ ((HR.out.below HB.out).more HB.out.size)).mono ?_
      rintro e Vb ⟨vW, rfl, hoW, hbW⟩
      have OWW := Lib.hid (Kit.own_base hoW (show w.heap.size + 2 ≤ _ from zz9))
      replace TN := Lib.hid (TN.out.below (B' := V.heap.size) (by omega) hbW)
      replace HT := Lib.hid (Kit.there_below HT.out hbW (by omega))
      replace HT4 := Lib.hid (Kit.there_below HT4.out hbW (by omega))
      replace HB := Lib.hid (HB.out.trans (hbW.mono HB.out.size))
      replace zz9 := Nat.le_trans zz9 hbW.size
      clear n9 n10
      have n9 := TN.out.at 9 _ rfl
      have n10 := TN.out.at 10 _ rfl
      clear hoW hbW
      dsimp only
      refine hK _ _ ?_
      clear hK Kq
      try simp only [Act.put, List.setIfInBounds_toArray, List.set_cons_zero, List.set_cons_succ]
      refine wpAny_ready (rs := [6]) (by kernel_rfl) (by simp) ?_
      refine AllReady.cons (o := ({ dst := some 61, op := Op.load 28 (Operand.tmp 60), type := 28, pos := "depth.go:73", after := #[{ on := 5, ground := Ground.data }], guard := none } : Oper)) rfl (fun Kq hK => ?_) (fun j hj => by cases hj)
      go_simp
      refine hK _ _ ?_
      clear hK Kq
      try simp only [Act.put, List.setIfInBounds_toArray, List.set_cons_zero, List.set_cons_succ]
      refine wpAny_take (i := 8) (oi := ({ dst := some 63, op := Op.fieldAddr 32 (Operand.tmp 2) 9, type := 0, pos := "depth.go:73", after := #[{ on := 0, ground := Ground.phase }, { on := 1, ground := Ground.phase }, { on := 2, ground := Ground.phase }, { on := 3, ground := Ground.phase }, { on := 4, ground := Ground.phase }, { on := 5, ground := Ground.phase }, { on := 6, ground := Ground.phase }, { on := 7, ground := Ground.textOnly Departure.lateStoresUnsure }], guard := none } : Oper)) (v := ?_) rfl (by kernel_rfl) (by kernel_rfl) (by kernel_rfl) (fun _ _ _ h => h) (Or.inl ⟨by rfl, ?_⟩) ?_
      rotate_left
      · intro wS
        first
          | (go_simp; done)
          | (go_simp; with_reducible rfl)
      try simp only [Act.put, List.setIfInBounds_toArray, List.set_cons_zero, List.set_cons_succ]
      refine wpAny_ready (rs := [7]) (by kernel_rfl) (by simp) ?_
      refine AllReady.cons (o := ({ dst := some 62, op := Op.call { callee := Callee.value (Operand.func 23), args := #[Operand.tmp 61], argTypes := #[28] }, type := 28, pos := "depth.go:73", after := #[{ on := 6, ground := Ground.data }, { on := 4, ground := Ground.chain }], guard := none } : Oper)) rfl (fun Kq hK => ?_) (fun j hj => by cases hj)
      go_simp
      go_at_call 23
      refine (HCL.out _ ((HRB.out.below HB.out).more HB.out.size)).mono ?_
      rintro e Vc ⟨vB, rfl, hoB, hbB⟩
      have OWB := Lib.hid (Kit.own_base hoB (show w.heap.size + 2 ≤ _ from zz9))
      replace OWW := Lib.hid (Kit.own_below OWW.out hbB)
      replace TN := Lib.hid (TN.out.below (B' := Vb.heap.size) (by omega) hbB)
      replace HT := Lib.hid (Kit.there_below HT.out hbB (by omega))
      replace HT4 := Lib.hid (Kit.there_below HT4.out hbB (by omega))
      replace HB := Lib.hid (HB.out.trans (hbB.mono HB.out.size))
      replace zz9 := Nat.le_trans zz9 hbB.size
      clear n9 n10
      have n9 := TN.out.at 9 _ rfl
      have n10 := TN.out.at 10 _ rfl
      clear hoB hbB
      dsimp only
      refine hK _ _ ?_
      clear hK Kq
      try simp only [Act.put, List.setIfInBounds_toArray, List.set_cons_zero, List.set_cons_succ]
      obtain ⟨A5, k5, rfl, -, -, -⟩ := Kit.own_rd OWW.out
      obtain ⟨A6, k6, rfl, -, -, -⟩ := Kit.own_rd OWB.out
      have fm9 := there_at HT.out (i := 9) (by decide)
      refine wpAny_ready (rs := [9]) (by kernel_rfl) (by simp) ?_
      refine AllReady.cons (o := ({ dst := none, op := Op.store 24 (Operand.tmp 63) (Operand.tmp 59), type := 0, pos := "depth.go:73", after := #[{ on := 8, ground := Ground.data }, { on := 4, ground := Ground.data }, { on := 7, ground := Ground.chain }, { on := 0, ground := Ground.phase }, { on := 1, ground := Ground.phase }, { on := 2, ground := Ground.phase }, { on := 3, ground := Ground.phase }, { on := 4, ground := Ground.phase }, { on := 5, ground := Ground.phase }, { on := 6, ground := Ground.phase }, { on := 7, ground := Ground.textOnly Departure.lateStoresUnsure }], guard := none } : Oper)) rfl (fun Kq hK => ?_) (fun j hj => by cases hj)
      go_simp
      refine hK _ _ ?_
      clear hK Kq
      try simp only [Act.put, List.setIfInBounds_toArray, List.set_cons_zero, List.set_cons_succ]
      have hs9 : (Vc.cell? ⟨w.heap.size, 9, none⟩).isSome = true := by rw [n9]; rfl
      replace TN := Lib.hid (TN.out.set9 A5 N k5)
      replace HT := Lib.hid (there_set HT.out ⟨w.heap.size, 9, none⟩ (.slice A5 N k5) hs9)
      replace HT4 := Lib.hid (there_set HT4.out ⟨w.heap.size, 9, none⟩ (.slice A5 N k5) hs9)
      replace HB := Lib.hid (HB.out.setCell (p := ⟨w.heap.size, 9, none⟩) (Nat.le_refl _) (.slice A5 N k5))
      replace OWW := Lib.hid (own_set OWW.out ⟨w.heap.size, 9, none⟩ (.slice A5 N k5) (show w.heap.size < w.heap.size + 2 by omega))
      replace OWB := Lib.hid (own_set OWB.out ⟨w.heap.size, 9, none⟩ (.slice A5 N k5) (show w.heap.size < w.heap.size + 2 by omega))
      clear n9 n10 fm9 hs9
      generalize Vc.setCell ⟨w.heap.size, 9, none⟩ (.slice A5 N k5) = Vd at TN HT HT4 HB OWW OWB ⊢
      have n10 := TN.out.at 10 _ rfl
      have fm10 := there_at HT.out (i := 10) (by decide)
      refine wpAny_take (i := 10) (oi := ({ dst := some 64, op := Op.fieldAddr 32 (Operand.tmp 2) 10, type := 0, pos := "depth.go:73", after := #[{ on := 0, ground := Ground.phase }, { on := 1, ground := Ground.phase }, { on := 2, ground := Ground.phase }, { on := 3, ground := Ground.phase }, { on := 4, ground := Ground.phase }, { on := 5, ground := Ground.phase }, { on := 6, ground := Ground.phase }, { on := 7, ground := Ground.phase }, { on := 8, ground := Ground.phase }, { on := 9, ground := Ground.phase }], guard := none } : Oper)) (v := ?_) rfl (by kernel_rfl) (by kernel_rfl) (by kernel_rfl) (fun _ _ _ h => h) (Or.inl ⟨by rfl, ?_⟩) ?_
      rotate_left
      · intro wS
        first
          | (go_simp; done)
          | (go_simp; with_reducible rfl)
      try simp only [Act.put, List.setIfInBounds_toArray, List.set_cons_zero, List.set_cons_succ]
      refine wpAny_ready (rs := [11]) (by kernel_rfl) (by simp) ?_
      refine AllReady.cons (o := ({ dst := none, op := Op.store 28 (Operand.tmp 64) (Operand.tmp 62), type := 0, pos := "depth.go:73", after := #[{ on := 10, ground := Ground.data }, { on := 7, ground := Ground.data }, { on := 9, ground := Ground.chain }, { on := 0, ground := Ground.phase }, { on := 1, ground := Ground.phase }, { on := 2, ground := Ground.phase }, { on := 3, ground := Ground.phase }, { on := 4, ground := Ground.phase }, { on := 5, ground := Ground.phase }, { on := 6, ground := Ground.phase }, { on := 7, ground := Ground.phase }, { on := 8, ground := Ground.phase }, { on := 9, ground := Ground.phase }], guard := none } : Oper)) rfl (fun Kq hK => ?_) (fun j hj => by cases hj)
      go_simp
      refine hK _ _ ?_
      clear hK Kq
      try simp only [Act.put, List.setIfInBounds_toArray, List.set_cons_zero, List.set_cons_succ]
      have hs10 : (Vd.cell? ⟨w.heap.size, 10, none⟩).isSome = true := by rw [n10]; rfl
      replace TN := Lib.hid (TN.out.set10 A6 nB k6)
      replace HT4 := Lib.hid (there_set HT4.out ⟨w.heap.size, 10, none⟩ (.slice A6 nB k6) hs10)
      replace HB := Lib.hid (HB.out.setCell (p := ⟨w.heap.size, 10, none⟩) (Nat.le_refl _) (.slice A6 nB k6))
      replace OWW := Lib.hid (own_set OWW.out ⟨w.heap.size, 10, none⟩ (.slice A6 nB k6) (show w.heap.size < w.heap.size + 2 by omega))
      replace OWB := Lib.hid (own_set OWB.out ⟨w.heap.size, 10, none⟩ (.slice A6 nB k6) (show w.heap.size < w.heap.size + 2 by omega))
      clear n10 fm10 hs10 HT
      generalize Vd.setCell ⟨w.heap.size, 10, none⟩ (.slice A6 nB k6) = Ve at TN HT4 HB OWW OWB ⊢
      refine wpAny_done (by kernel_rfl) ?_ _
      go_wp2_with (first
        | (refine wpList_load_mid rfl 32 (.tmp 2) rfl w.heap.size 0 rfl [.int .i64 1, x1, x2, .int .i64 (kk : Int), .int .i64 S, .int .i64 P, .int .i64 (ch : Int), .int .i8 Z, x8, .slice A5 N k5, .slice A6 nB k6, x11, x12, x13, x14, x15, x16, x17, x18] _ TN.out Try.underlying32 rfl (by kernel_rfl) ?_)
        | (refine wpList_store_mid rfl 32 (.tmp 4) (.tmp 65) rfl (w.heap.size + 1) 0 #[.int .i64 1, x1, x2, .int .i64 (kk : Int), .int .i64 S, .int .i64 P, .int .i64 (ch : Int), .int .i8 Z, x8, .slice A5 N k5, .slice A6 nB k6, x11, x12, x13, x14, x15, x16, x17, x18] rfl rfl HT4.out (by kernel_rfl) (all_oneCell_toArray (cs := [.int .i64 1, x1, x2, .int .i64 (kk : Int), .int .i64 S, .int .i64 P, .int .i64 (ch : Int), .int .i8 Z, x8, .slice A5 N k5, .slice A6 nB k6, x11, x12, x13, x14, x15, x16, x17, x18]) (fun v hv => by
      simp only [List.mem_cons, List.not_mem_nil, or_false] at hv
      rcases hv with rfl | rfl | rfl | rfl | rfl | rfl | rfl | rfl | rfl | rfl | rfl | rfl | rfl | rfl | rfl | rfl | rfl | rfl | rfl <;> first | rfl | exact HONE.out _ (by simp))) ?_; have TR := Lib.hid (NodeAt.stored HT4.out (.int .i64 1) x1 x2 x8 x11 x12 x13 x14 x15 x16 x17 x18 (kk : Int) S P (ch : Int) Z A5 A6 N k5 nB k6); have HBZ := Lib.hid (Kit.below_cells (show w.heap.size ≤ w.heap.size + 1 by omega) [.int .i64 1, x1, x2, .int .i64 (kk : Int), .int .i64 S, .int .i64 P, .int .i64 (ch : Int), .int .i8 Z, x8, .slice A5 N k5, .slice A6 nB k6, x11, x12, x13, x14, x15, x16, x17, x18] 0 _ HB.out); have OZ1 := Lib.hid (own_setCells (show w.heap.size + 1 < w.heap.size + 2 by omega) [.int .i64 1, x1, x2, .int .i64 (kk : Int), .int .i64 S, .int .i64 P, .int .i64 (ch : Int), .int .i8 Z, x8, .slice A5 N k5, .slice A6 nB k6, x11, x12, x13, x14, x15, x16, x17, x18] 0 _ OWW.out); have OZ2 := Lib.hid (own_setCells (show w.heap.size + 1 < w.heap.size + 2 by omega) [.int .i64 1, x1, x2, .int .i64 (kk : Int), .int .i64 S, .int .i64 P, .int .i64 (ch : Int), .int .i8 Z, x8, .slice A5 N k5, .slice A6 nB k6, x11, x12, x13, x14, x15, x16, x17, x18] 0 _ OWB.out); generalize Ve.setCells (w.heap.size + 1) 0 [.int .i64 1, x1, x2, .int .i64 (kk : Int), .int .i64 S, .int .i64 P, .int .i64 (ch : Int), .int .i8 Z, x8, .slice A5 N k5, .slice A6 nB k6, x11, x12, x13, x14, x15, x16, x17, x18] = Wz at TR HBZ OZ1 OZ2 ⊢))
      refine bodyPost_ret (Kit.results_ct rfl _ _ (w.heap.size + 1) 0 [.int .i64 1, x1, x2, .int .i64 (kk : Int), .int .i64 S, .int .i64 P, .int .i64 (ch : Int), .int .i8 Z, x8, .slice A5 N k5, .slice A6 nB k6, x11, x12, x13, x14, x15, x16, x17, x18] _ rfl TR.out Try.underlying32 rfl (by kernel_rfl)) rfl ?_
      exact ⟨_, _, rfl, Kit.own_base OZ1.out (by omega), Kit.own_base OZ2.out (by omega), HBZ.out⟩
    refine AllReady.cons (o := ({ dst := some 61, op := Op.load 28 (Operand.tmp 60), type := 28, pos := "depth.go:73", after := #[{ on := 5, ground := Ground.data }], guard := none } : Oper)) rfl (fun Kq hK => ?_) ?_
    · go_simp
      refine hK _ _ ?_
      clear hK Kq
      try simp only [Act.put, List.setIfInBounds_toArray, List.set_cons_zero, List.set_cons_succ]
      refine wpAny_ready (rs := [4]) (by kernel_rfl) (by simp) ?_
      refine AllReady.cons (o := ({ dst := some 59, op := Op.call { callee := Callee.value (Operand.func 22), args := #[Operand.tmp 56, Operand.tmp 57, Operand.tmp 58], argTypes := #[24, 3, 3] }, type := 24, pos := "depth.go:73", after := #[{ on := 1, ground := Ground.data }, { on := 2, ground := Ground.data }, { on := 3, ground := Ground.data }], guard := none } : Oper)) rfl (fun Kq hK => ?_) (fun j hj => by cases hj)
      go_simp
      go_at_call 22
      refine (HSP.out _ ((HR.out.below HB.out).more HB.out.size)).mono ?_
      rintro e Vb ⟨vW, rfl, hoW, hbW⟩
      have OWW := Lib.hid (Kit.own_base hoW (show w.heap.size + 2 ≤ _ from zz9))
      replace TN := Lib.hid (TN.out.below (B' := V.heap.size) (by omega) hbW)
      replace HT := Lib.hid (Kit.there_below HT.out hbW (by omega))
      replace HT4 := Lib.hid (Kit.there_below HT4.out hbW (by omega))
      replace HB := Lib.hid (HB.out.trans (hbW.mono HB.out.size))
      replace zz9 := Nat.le_trans zz9 hbW.size
      clear n9 n10
      have n9 := TN.out.at 9 _ rfl
      have n10 := TN.out.at 10 _ rfl
      clear hoW hbW
      dsimp only
      refine hK _ _ ?_
      clear hK Kq
      try simp only [Act.put, List.setIfInBounds_toArray, List.set_cons_zero, List.set_cons_succ]
      refine wpAny_take (i := 8) (oi := ({ dst := some 63, op := Op.fieldAddr 32 (Operand.tmp 2) 9, type := 0, pos := "depth.go:73", after := #[{ on := 0, ground := Ground.phase }, { on := 1, ground := Ground.phase }, { on := 2, ground := Ground.phase }, { on := 3, ground := Ground.phase }, { on := 4, ground := Ground.phase }, { on := 5, ground := Ground.phase }, { on := 6, ground := Ground.phase }, { on := 7, ground := Ground.textOnly Departure.lateStoresUnsure }], guard := none } : Oper)) (v := ?_) rfl (by kernel_rfl) (by kernel_rfl) (by kernel_rfl) (fun _ _ _ h => h) (Or.inl ⟨by rfl, ?_⟩) ?_
      rotate_left
      · intro wS
        first
          | (go_simp; done)
          | (go_simp; with_reducible rfl)
      try simp only [Act.put, List.setIfInBounds_toArray, List.set_cons_zero, List.set_cons_succ]
      refine wpAny_ready (rs := [7]) (by kernel_rfl) (by simp) ?_
      refine AllReady.cons (o := ({ dst := some 62, op := Op.call { callee := Callee.value (Operand.func 23), args := #[Operand.tmp 61], argTypes := #[28] }, type := 28, pos := "depth.go:73", after := #[{ on := 6, ground := Ground.data }, { on := 4, ground := Ground.chain }], guard := none } : Oper)) rfl (fun Kq hK => ?_) (fun j hj => by cases hj)
      go_simp
      go_at_call 23
      refine (HCL.out _ ((HRB.out.below HB.out).more HB.out.size)).mono ?_
      rintro e Vc ⟨vB, rfl, hoB, hbB⟩
      have OWB := Lib.hid (Kit.own_base hoB (show w.heap.size + 2 ≤ _ from zz9))
      replace OWW := Lib.hid (Kit.own_below OWW.out hbB)
      replace TN := Lib.hid (TN.out.below (B' := Vb.heap.size) (by omega) hbB)
      replace HT := Lib.hid (Kit.there_below HT.out hbB (by omega))
      replace HT4 := Lib.hid (Kit.there_below HT4.out hbB (by omega))
      replace HB := Lib.hid (HB.out.trans (hbB.mono HB.out.size))
      replace zz9 := Nat.le_trans zz9 hbB.size
      clear n9 n10
      have n9 := TN.out.at 9 _ rfl
      have n10 := TN.out.at 10 _ rfl
      clear hoB hbB
      dsimp only
      refine hK _ _ ?_
      clear hK Kq
      try simp only [Act.put, List.setIfInBounds_toArray, List.set_cons_zero, List.set_cons_succ]
      obtain ⟨A5, k5, rfl, -, -, -⟩ := Kit.own_rd OWW.out
      obtain ⟨A6, k6, rfl, -, -, -⟩ := Kit.own_rd OWB.out
      have fm9 := there_at HT.out (i := 9) (by decide)
      refine wpAny_ready (rs := [9]) (by kernel_rfl) (by simp) ?_
      refine AllReady.cons (o := ({ dst := none, op := Op.store 24 (Operand.tmp 63) (Operand.tmp 59), type := 0, pos := "depth.go:73", after := #[{ on := 8, ground := Ground.data }, { on := 4, ground := Ground.data }, { on := 7, ground := Ground.chain }, { on := 0, ground := Ground.phase }, { on := 1, ground := Ground.phase }, { on := 2, ground := Ground.phase }, { on := 3, ground := Ground.phase }, { on := 4, ground := Ground.phase }, { on := 5, ground := Ground.phase }, { on := 6, ground := Ground.phase }, { on := 7, ground := Ground.textOnly Departure.lateStoresUnsure }], guard := none } : Oper)) rfl (fun Kq hK => ?_) (fun j hj => by cases hj)
      go_simp
      refine hK _ _ ?_
      clear hK Kq
      try simp only [Act.put, List.setIfInBounds_toArray, List.set_cons_zero, List.set_cons_succ]
      have hs9 : (Vc.cell? ⟨w.heap.size, 9, none⟩).isSome = true := by rw [n9]; rfl
      replace TN := Lib.hid (TN.out.set9 A5 N k5)
      replace HT := Lib.hid (there_set HT.out ⟨w.heap.size, 9, none⟩ (.slice A5 N k5) hs9)
      replace HT4 := Lib.hid (there_set HT4.out ⟨w.heap.size, 9, none⟩ (.slice A5 N k5) hs9)
      replace HB := Lib.hid (HB.out.setCell (p := ⟨w.heap.size, 9, none⟩) (Nat.le_refl _) (.slice A5 N k5))
      replace OWW := Lib.hid (own_set OWW.out ⟨w.heap.size, 9, none⟩ (.slice A5 N k5) (show w.heap.size < w.heap.size + 2 by omega))
      replace OWB := Lib.hid (own_set OWB.out ⟨w.heap.size, 9, none⟩ (.slice A5 N k5) (show w.heap.size < w.heap.size + 2 by omega))
      clear n9 n10 fm9 hs9
      generalize Vc.setCell ⟨w.heap.size, 9, none⟩ (.slice A5 N k5) = Vd at TN HT HT4 HB OWW OWB ⊢
      have n10 := TN.out.at 10 _ rfl
      have fm10 := there_at HT.out (i := 10) (by decide)
      refine wpAny_take (i := 10) (oi := ({ dst := some 64, op := Op.fieldAddr 32 (Operand.tmp 2) 10, type := 0, pos := "depth.go:73", after := #[{ on := 0, ground := Ground.phase }, { on := 1, ground := Ground.phase }, { on := 2, ground := Ground.phase }, { on := 3, ground := Ground.phase }, { on := 4, ground := Ground.phase }, { on := 5, ground := Ground.phase }, { on := 6, ground := Ground.phase }, { on := 7, ground := Ground.phase }, { on := 8, ground := Ground.phase }, { on := 9, ground := Ground.phase }], guard := none } : Oper)) (v := ?_) rfl (by kernel_rfl) (by kernel_rfl) (by kernel_rfl) (fun _ _ _ h => h) (Or.inl ⟨by rfl, ?_⟩) ?_
      rotate_left
      · intro wS
        first
          | (go_simp; done)
          | (go_simp; with_reducible rfl)
      try simp only [Act.put, List.setIfInBounds_toArray, List.set_cons_zero, List.set_cons_succ]
      refine wpAny_ready (rs := [11]) (by kernel_rfl) (by simp) ?_
      refine AllReady.cons (o := ({ dst := none, op := Op.store 28 (Operand.tmp 64) (Operand.tmp 62), type := 0, pos := "depth.go:73", after := #[{ on := 10, ground := Ground.data }, { on := 7, ground := Ground.data }, { on := 9, ground := Ground.chain }, { on := 0, ground := Ground.phase }, { on := 1, ground := Ground.phase }, { on := 2, ground := Ground.phase }, { on := 3, ground := Ground.phase }, { on := 4, ground := Ground.phase }, { on := 5, ground := Ground.phase }, { on := 6, ground := Ground.phase }, { on := 7, ground := Ground.phase }, { on := 8, ground := Ground.phase }, { on := 9, ground := Ground.phase }], guard := none } : Oper)) rfl (fun Kq hK => ?_) (fun j hj => by cases hj)
      go_simp
      refine hK _ _ ?_
      clear hK Kq
      try simp only [Act.put, List.setIfInBounds_toArray, List.set_cons_zero, List.set_cons_succ]
      have hs10 : (Vd.cell? ⟨w.heap.size, 10, none⟩).isSome = true := by rw [n10]; rfl
      replace TN := Lib.hid (TN.out.set10 A6 nB k6)
      replace HT4 := Lib.hid (there_set HT4.out ⟨w.heap.size, 10, none⟩ (.slice A6 nB k6) hs10)
      replace HB := Lib.hid (HB.out.setCell (p := ⟨w.heap.size, 10, none⟩) (Nat.le_refl _) (.slice A6 nB k6))
      replace OWW := Lib.hid (own_set OWW.out ⟨w.heap.size, 10, none⟩ (.slice A6 nB k6) (show w.heap.size < w.heap.size + 2 by omega))
      replace OWB := Lib.hid (own_set OWB.out ⟨w.heap.size, 10, none⟩ (.slice A6 nB k6) (show w.heap.size < w.heap.size + 2 by omega))
      clear n10 fm10 hs10 HT
      generalize Vd.setCell ⟨w.heap.size, 10, none⟩ (.slice A6 nB k6) = Ve at TN HT4 HB OWW OWB ⊢
      refine wpAny_done (by kernel_rfl) ?_ _
      go_wp2_with (first
        | (refine wpList_load_mid rfl 32 (.tmp 2) rfl w.heap.size 0 rfl [.int .i64 1, x1, x2, .int .i64 (kk : Int), .int .i64 S, .int .i64 P, .int .i64 (ch : Int), .int .i8 Z, x8, .slice A5 N k5, .slice A6 nB k6, x11, x12, x13, x14, x15, x16, x17, x18] _ TN.out Try.underlying32 rfl (by kernel_rfl) ?_)
        | (refine wpList_store_mid rfl 32 (.tmp 4) (.tmp 65) rfl (w.heap.size + 1) 0 #[.int .i64 1, x1, x2, .int .i64 (kk : Int), .int .i64 S, .int .i64 P, .int .i64 (ch : Int), .int .i8 Z, x8, .slice A5 N k5, .slice A6 nB k6, x11, x12, x13, x14, x15, x16, x17, x18] rfl rfl HT4.out (by kernel_rfl) (all_oneCell_toArray (cs := [.int .i64 1, x1, x2, .int .i64 (kk : Int), .int .i64 S, .int .i64 P, .int .i64 (ch : Int), .int .i8 Z, x8, .slice A5 N k5, .slice A6 nB k6, x11, x12, x13, x14, x15, x16, x17, x18]) (fun v hv => by
      simp only [List.mem_cons, List.not_mem_nil, or_false] at hv
      rcases hv with rfl | rfl | rfl | rfl | rfl | rfl | rfl | rfl | rfl | rfl | rfl | rfl | rfl | rfl | rfl | rfl | rfl | rfl | rfl <;> first | rfl | exact HONE.out _ (by simp))) ?_; have TR := Lib.hid (NodeAt.stored HT4.out (.int .i64 1) x1 x2 x8 x11 x12 x13 x14 x15 x16 x17 x18 (kk : Int) S P (ch : Int) Z A5 A6 N k5 nB k6); have HBZ := Lib.hid (Kit.below_cells (show w.heap.size ≤ w.heap.size + 1 by omega) [.int .i64 1, x1, x2, .int .i64 (kk : Int), .int .i64 S, .int .i64 P, .int .i64 (ch : Int), .int .i8 Z, x8, .slice A5 N k5, .slice A6 nB k6, x11, x12, x13, x14, x15, x16, x17, x18] 0 _ HB.out); have OZ1 := Lib.hid (own_setCells (show w.heap.size + 1 < w.heap.size + 2 by omega) [.int .i64 1, x1, x2, .int .i64 (kk : Int), .int .i64 S, .int .i64 P, .int .i64 (ch : Int), .int .i8 Z, x8, .slice A5 N k5, .slice A6 nB k6, x11, x12, x13, x14, x15, x16, x17, x18] 0 _ OWW.out); have OZ2 := Lib.hid (own_setCells (show w.heap.size + 1 < w.heap.size + 2 by omega) [.int .i64 1, x1, x2, .int .i64 (kk : Int), .int .i64 S, .int .i64 P, .int .i64 (ch : Int), .int .i8 Z, x8, .slice A5 N k5, .slice A6 nB k6, x11, x12, x13, x14, x15, x16, x17, x18] 0 _ OWB.out); generalize Ve.setCells (w.heap.size + 1) 0 [.int .i64 1, x1, x2, .int .i64 (kk : Int), .int .i64 S, .int .i64 P, .int .i64 (ch : Int), .int .i8 Z, x8, .slice A5 N k5, .slice A6 nB k6, x11, x12, x13, x14, x15, x16, x17, x18] = Wz at TR HBZ OZ1 OZ2 ⊢))
      refine bodyPost_ret (Kit.results_ct rfl _ _ (w.heap.size + 1) 0 [.int .i64 1, x1, x2, .int .i64 (kk : Int), .int .i64 S, .int .i64 P, .int .i64 (ch : Int), .int .i8 Z, x8, .slice A5 N k5, .slice A6 nB k6, x11, x12, x13, x14, x15, x16, x17, x18] _ rfl TR.out Try.underlying32 rfl (by kernel_rfl)) rfl ?_
      exact ⟨_, _, rfl, Kit.own_base OZ1.out (by omega), Kit.own_base OZ2.out (by omega), HBZ.out⟩
    exact fun j hj => by cases hj
  refine AllReady.cons (o := ({ dst := some 61, op := Op.load 28 (Operand.tmp 60), type := 28, pos := "depth.go:73", after := #[{ on := 5, ground := Ground.data }], guard := none } : Oper)) rfl (fun Kq hK => ?_) ?_
  · go_simp
    refine hK _ _ ?_
    clear hK Kq
    try simp only [Act.put, List.setIfInBounds_toArray, List.set_cons_zero, List.set_cons_succ]
    refine wpAny_ready (rs := [1]) (by kernel_rfl) (by simp) ?_
    refine AllReady.cons (o := ({ dst := some 56, op := Op.load 24 (Operand.tmp 55), type := 24, pos := "depth.go:73", after := #[{ on := 0, ground := Ground.data }], guard := none } : Oper)) rfl (fun Kq hK => ?_) (fun j hj => by cases hj)
    go_simp
    refine hK _ _ ?_
    clear hK Kq
    try simp only [Act.put, List.setIfInBounds_toArray, List.set_cons_zero, List.set_cons_succ]
    refine wpAny_ready (rs := [4]) (by kernel_rfl) (by simp) ?_
    refine AllReady.cons (o := ({ dst := some 59, op := Op.call { callee := Callee.value (Operand.func 22), args := #[Operand.tmp 56, Operand.tmp 57, Operand.tmp 58], argTypes := #[24, 3, 3] }, type := 24, pos := "depth.go:73", after := #[{ on := 1, ground := Ground.data }, { on := 2, ground := Ground.data }, { on := 3, ground := Ground.data }], guard := none } : Oper)) rfl (fun Kq hK => ?_) (fun j hj => by cases hj)
    go_simp
    go_at_call 22
    refine (HSP.out _ ((HR.out.below HB.out).more HB.out.size)).mono ?_
    rintro e Vb ⟨vW, rfl, hoW, hbW⟩
    have OWW := Lib.hid (Kit.own_base hoW (show w.heap.size + 2 ≤ _ from zz9))
    replace TN := Lib.hid (TN.out.below (B' := V.heap.size) (by omega) hbW)
    replace HT := Lib.hid (Kit.there_below HT.out hbW (by omega))
    replace HT4 := Lib.hid (Kit.there_below HT4.out hbW (by omega))
    replace HB := Lib.hid (HB.out.trans (hbW.mono HB.out.size))
    replace zz9 := Nat.le_trans zz9 hbW.size
    clear n9 n10
    have n9 := TN.out.at 9 _ rfl
    have n10 := TN.out.at 10 _ rfl
    clear hoW hbW
    dsimp only
    refine hK _ _ ?_
    clear hK Kq
    try simp only [Act.put, List.setIfInBounds_toArray, List.set_cons_zero, List.set_cons_succ]
    refine wpAny_take (i := 8) (oi := ({ dst := some 63, op := Op.fieldAddr 32 (Operand.tmp 2) 9, type := 0, pos := "depth.go:73", after := #[{ on := 0, ground := Ground.phase }, { on := 1, ground := Ground.phase }, { on := 2, ground := Ground.phase }, { on := 3, ground := Ground.phase }, { on := 4, ground := Ground.phase }, { on := 5, ground := Ground.phase }, { on := 6, ground := Ground.phase }, { on := 7, ground := Ground.textOnly Departure.lateStoresUnsure }], guard := none } : Oper)) (v := ?_) rfl (by kernel_rfl) (by kernel_rfl) (by kernel_rfl) (fun _ _ _ h => h) (Or.inl ⟨by rfl, ?_⟩) ?_
    rotate_left
    · intro wS
      first
        | (go_simp; done)
        | (go_simp; with_reducible rfl)
    try simp only [Act.put, List.setIfInBounds_toArray, List.set_cons_zero, List.set_cons_succ]
    refine wpAny_ready (rs := [7]) (by kernel_rfl) (by simp) ?_
    refine AllReady.cons (o := ({ dst := some 62, op := Op.call { callee := Callee.value (Operand.func 23), args := #[Operand.tmp 61], argTypes := #[28] }, type := 28, pos := "depth.go:73", after := #[{ on := 6, ground := Ground.data }, { on := 4, ground := Ground.chain }], guard := none } : Oper)) rfl (fun Kq hK => ?_) (fun j hj => by cases hj)
    go_simp
    go_at_call 23
    refine (HCL.out _ ((HRB.out.below HB.out).more HB.out.size)).mono ?_
    rintro e Vc ⟨vB, rfl, hoB, hbB⟩
    have OWB := Lib.hid (Kit.own_base hoB (show w.heap.size + 2 ≤ _ from zz9))
    replace OWW := Lib.hid (Kit.own_below OWW.out hbB)
    replace TN := Lib.hid (TN.out.below (B' := Vb.heap.size) (by omega) hbB)
    replace HT := Lib.hid (Kit.there_below HT.out hbB (by omega))
    replace HT4 := Lib.hid (Kit.there_below HT4.out hbB (by omega))
    replace HB := Lib.hid (HB.out.trans (hbB.mono HB.out.size))
    replace zz9 := Nat.le_trans zz9 hbB.size
    clear n9 n10
    have n9 := TN.out.at 9 _ rfl
    have n10 := TN.out.at 10 _ rfl
    clear hoB hbB
    dsimp only
    refine hK _ _ ?_
    clear hK Kq
    try simp only [Act.put, List.setIfInBounds_toArray, List.set_cons_zero, List.set_cons_succ]
    obtain ⟨A5, k5, rfl, -, -, -⟩ := Kit.own_rd OWW.out
    obtain ⟨A6, k6, rfl, -, -, -⟩ := Kit.own_rd OWB.out
    have fm9 := there_at HT.out (i := 9) (by decide)
    refine wpAny_ready (rs := [9]) (by kernel_rfl) (by simp) ?_
    refine AllReady.cons (o := ({ dst := none, op := Op.store 24 (Operand.tmp 63) (Operand.tmp 59), type := 0, pos := "depth.go:73", after := #[{ on := 8, ground := Ground.data }, { on := 4, ground := Ground.data }, { on := 7, ground := Ground.chain }, { on := 0, ground := Ground.phase }, { on := 1, ground := Ground.phase }, { on := 2, ground := Ground.phase }, { on := 3, ground := Ground.phase }, { on := 4, ground := Ground.phase }, { on := 5, ground := Ground.phase }, { on := 6, ground := Ground.phase }, { on := 7, ground := Ground.textOnly Departure.lateStoresUnsure }], guard := none } : Oper)) rfl (fun Kq hK => ?_) (fun j hj => by cases hj)
    go_simp
    refine hK _ _ ?_
    clear hK Kq
    try simp only [Act.put, List.setIfInBounds_toArray, List.set_cons_zero, List.set_cons_succ]
    have hs9 : (Vc.cell? ⟨w.heap.size, 9, none⟩).isSome = true := by rw [n9]; rfl
    replace TN := Lib.hid (TN.out.set9 A5 N k5)
    replace HT := Lib.hid (there_set HT.out ⟨w.heap.size, 9, none⟩ (.slice A5 N k5) hs9)
    replace HT4 := Lib.hid (there_set HT4.out ⟨w.heap.size, 9, none⟩ (.slice A5 N k5) hs9)
    replace HB := Lib.hid (HB.out.setCell (p := ⟨w.heap.size, 9, none⟩) (Nat.le_refl _) (.slice A5 N k5))
    replace OWW := Lib.hid (own_set OWW.out ⟨w.heap.size, 9, none⟩ (.slice A5 N k5) (show w.heap.size < w.heap.size + 2 by omega))
    replace OWB := Lib.hid (own_set OWB.out ⟨w.heap.size, 9, none⟩ (.slice A5 N k5) (show w.heap.size < w.heap.size + 2 by omega))
    clear n9 n10 fm9 hs9
    generalize Vc.setCell ⟨w.heap.size, 9, none⟩ (.slice A5 N k5) = Vd at TN HT HT4 HB OWW OWB ⊢
    have n10 := TN.out.at 10 _ rfl
    have fm10 := there_at HT.out (i := 10) (by decide)
    refine wpAny_take (i := 10) (oi := ({ dst := some 64, op := Op.fieldAddr 32 (Operand.tmp 2) 10, type := 0, pos := "depth.go:73", after := #[{ on := 0, ground := Ground.phase }, { on := 1, ground := Ground.phase }, { on := 2, ground := Ground.phase }, { on := 3, ground := Ground.phase }, { on := 4, ground := Ground.phase }, { on := 5, ground := Ground.phase }, { on := 6, ground := Ground.phase }, { on := 7, ground := Ground.phase }, { on := 8, ground := Ground.phase }, { on := 9, ground := Ground.phase }], guard := none } : Oper)) (v := ?_) rfl (by kernel_rfl) (by kernel_rfl) (by kernel_rfl) (fun _ _ _ h => h) (Or.inl ⟨by rfl, ?_⟩) ?_
    rotate_left
    · intro wS
      first
        | (go_simp; done)
        | (go_simp; with_reducible rfl)
    try simp only [Act.put, List.setIfInBounds_toArray, List.set_cons_zero, List.set_cons_succ]
    refine wpAny_ready (rs := [11]) (by kernel_rfl) (by simp) ?_
    refine AllReady.cons (o := ({ dst := none, op := Op.store 28 (Operand.tmp 64) (Operand.tmp 62), type := 0, pos := "depth.go:73", after := #[{ on := 10, ground := Ground.data }, { on := 7, ground := Ground.data }, { on := 9, ground := Ground.chain }, { on := 0, ground := Ground.phase }, { on := 1, ground := Ground.phase }, { on := 2, ground := Ground.phase }, { on := 3, ground := Ground.phase }, { on := 4, ground := Ground.phase }, { on := 5, ground := Ground.phase }, { on := 6, ground := Ground.phase }, { on := 7, ground := Ground.phase }, { on := 8, ground := Ground.phase }, { on := 9, ground := Ground.phase }], guard := none } : Oper)) rfl (fun Kq hK => ?_) (fun j hj => by cases hj)
    go_simp
    refine hK _ _ ?_
    clear hK Kq
    try simp only [Act.put, List.setIfInBounds_toArray, List.set_cons_zero, List.set_cons_succ]
    have hs10 : (Vd.cell? ⟨w.heap.size, 10, none⟩).isSome = true := by rw [n10]; rfl
    replace TN := Lib.hid (TN.out.set10 A6 nB k6)
    replace HT4 := Lib.hid (there_set HT4.out ⟨w.heap.size, 10, none⟩ (.slice A6 nB k6) hs10)
    replace HB := Lib.hid (HB.out.setCell (p := ⟨w.heap.size, 10, none⟩) (Nat.le_refl _) (.slice A6 nB k6))
    replace OWW := Lib.hid (own_set OWW.out ⟨w.heap.size, 10, none⟩ (.slice A6 nB k6) (show w.heap.size < w.heap.size + 2 by omega))
    replace OWB := Lib.hid (own_set OWB.out ⟨w.heap.size, 10, none⟩ (.slice A6 nB k6) (show w.heap.size < w.heap.size + 2 by omega))
    clear n10 fm10 hs10 HT
    generalize Vd.setCell ⟨w.heap.size, 10, none⟩ (.slice A6 nB k6) = Ve at TN HT4 HB OWW OWB ⊢
    refine wpAny_done (by kernel_rfl) ?_ _
    go_wp2_with (first
      | (refine wpList_load_mid rfl 32 (.tmp 2) rfl w.heap.size 0 rfl [.int .i64 1, x1, x2, .int .i64 (kk : Int), .int .i64 S, .int .i64 P, .int .i64 (ch : Int), .int .i8 Z, x8, .slice A5 N k5, .slice A6 nB k6, x11, x12, x13, x14, x15, x16, x17, x18] _ TN.out Try.underlying32 rfl (by kernel_rfl) ?_)
      | (refine wpList_store_mid rfl 32 (.tmp 4) (.tmp 65) rfl (w.heap.size + 1) 0 #[.int .i64 1, x1, x2, .int .i64 (kk : Int), .int .i64 S, .int .i64 P, .int .i64 (ch : Int), .int .i8 Z, x8, .slice A5 N k5, .slice A6 nB k6, x11, x12, x13, x14, x15, x16, x17, x18] rfl rfl HT4.out (by kernel_rfl) (all_oneCell_toArray (cs := [.int .i64 1, x1, x2, .int .i64 (kk : Int), .int .i64 S, .int .i64 P, .int .i64 (ch : Int), .int .i8 Z, x8, .slice A5 N k5, .slice A6 nB k6, x11, x12, x13, x14, x15, x16, x17, x18]) (fun v hv => by
      simp only [List.mem_cons, List.not_mem_nil, or_false] at hv
      rcases hv with rfl | rfl | rfl | rfl | rfl | rfl | rfl | rfl | rfl | rfl | rfl | rfl | rfl | rfl | rfl | rfl | rfl | rfl | rfl <;> first | rfl | exact HONE.out _ (by simp))) ?_; have TR := Lib.hid (NodeAt.stored HT4.out (.int .i64 1) x1 x2 x8 x11 x12 x13 x14 x15 x16 x17 x18 (kk : Int) S P (ch : Int) Z A5 A6 N k5 nB k6); have HBZ := Lib.hid (Kit.below_cells (show w.heap.size ≤ w.heap.size + 1 by omega) [.int .i64 1, x1, x2, .int .i64 (kk : Int), .int .i64 S, .int .i64 P, .int .i64 (ch : Int), .int .i8 Z, x8, .slice A5 N k5, .slice A6 nB k6, x11, x12, x13, x14, x15, x16, x17, x18] 0 _ HB.out); have OZ1 := Lib.hid (own_setCells (show w.heap.size + 1 < w.heap.size + 2 by omega) [.int .i64 1, x1, x2, .int .i64 (kk : Int), .int .i64 S, .int .i64 P, .int .i64 (ch : Int), .int .i8 Z, x8, .slice A5 N k5, .slice A6 nB k6, x11, x12, x13, x14, x15, x16, x17, x18] 0 _ OWW.out); have OZ2 := Lib.hid (own_setCells (show w.heap.size + 1 < w.heap.size + 2 by omega) [.int .i64 1, x1, x2, .int .i64 (kk : Int), .int .i64 S, .int .i64 P, .int .i64 (ch : Int), .int .i8 Z, x8, .slice A5 N k5, .slice A6 nB k6, x11, x12, x13, x14, x15, x16, x17, x18] 0 _ OWB.out); generalize Ve.setCells (w.heap.size + 1) 0 [.int .i64 1, x1, x2, .int .i64 (kk : Int), .int .i64 S, .int .i64 P, .int .i64 (ch : Int), .int .i8 Z, x8, .slice A5 N k5, .slice A6 nB k6, x11, x12, x13, x14, x15, x16, x17, x18] = Wz at TR HBZ OZ1 OZ2 ⊢))
    refine bodyPost_ret (Kit.results_ct rfl _ _ (w.heap.size + 1) 0 [.int .i64 1, x1, x2, .int .i64 (kk : Int), .int .i64 S, .int .i64 P, .int .i64 (ch : Int), .int .i8 Z, x8, .slice A5 N k5, .slice A6 nB k6, x11, x12, x13, x14, x15, x16, x17, x18] _ rfl TR.out Try.underlying32 rfl (by kernel_rfl)) rfl ?_
    exact ⟨_, _, rfl, Kit.own_base OZ1.out (by omega), Kit.own_base OZ2.out (by omega), HBZ.out⟩
  exact fun j hj => by cases hj
end Go.Proofs.Ytkbgfglipepmpaa.CDepth
