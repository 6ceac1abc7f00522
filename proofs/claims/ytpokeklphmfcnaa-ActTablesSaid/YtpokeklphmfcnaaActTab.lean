/- Layer 21 (act): a table of all numbers: the code. -/
import Derived.Test.YtpokeklphmfcnaaActBy
import Derived.Test.YtpokeklphmfcnaaNodeCopy
import Derived.Laws.MakeOwn
import Derived.Deep.CutRange
namespace Go.Proofs.Ytpokeklphmfcnaa.CAct
open Go Go.ChangeShapes Go.WideShapes Go.ChangeAt Go.RowKit Go.Deep
open Plain CSat CFix CShape CTensor CConv
set_option linter.unusedVariables false

/-- the values of a table. -/
def tabL (T : Nat → Int) : List Value := (List.range 256).map fun k => .int .i8 (T k)
theorem tabL_len (T : Nat → Int) : (tabL T).length = 256 := by simp [tabL]
theorem tabL_at (T : Nat → Int) {k : Nat} (h : k < 256) : (tabL T)[k]? = some (.int .i8 (T k)) := by simp [tabL, h]
theorem tabL_one (T : Nat → Int) : ∀ v ∈ tabL T, v.oneCell' = true := fun v hv => by
  simp only [tabL, List.mem_map] at hv
  obtain ⟨k, _, rfl⟩ := hv
  rfl
theorem tabL_v (T : Nat → Int) : TableV (tabL T).toArray T := ⟨by simp [tabL], fun k hk => by simpa using tabL_at T hk⟩
theorem tabL_same {F G : Nat → Int} (h : ∀ k, k < 256 → F k = G k) : tabL F = tabL G := List.map_congr_left fun k hk => by rw [h k (by simpa using hk)]
theorem tabL_of {tv : Array Value} {T : Nat → Int} (h : TableV tv T) : tv = (tabL T).toArray := by
  apply Array.ext_getElem?
  intro k
  by_cases hk : k < 256
  · rw [h.2 k hk]; simpa using (tabL_at T hk).symm
  · rw [Array.getElem?_eq_none (by have := h.1; omega), Array.getElem?_eq_none (by simp [tabL]; omega)]
def zeroF (k : Nat) : Int := 0
theorem info41 : (Try.prog.info? 41).map (fun i => (i.zero, i.size, i.bytes)) = some (some (.agg (tabL zeroF).toArray), 256, 256) := by kernel_rfl
theorem zero41 (w : World) : (zeroValue 41).run Try.prog w = .ok (.agg (tabL zeroF).toArray) w := by
  obtain ⟨i, hi, hz, -, -⟩ := info_parts32 info41
  simp [zeroValue, typeInfo, hi, hz]
theorem TableAt.range {B : Nat} {T : Nat → Int} {w : World} (h : TableAt B T w) : w.rangeAt B 0 (tabL T) := fun j v hv => by
  have hj : j < 256 := by
    rcases Nat.lt_or_ge j 256 with h1 | h1
    · exact h1
    · rw [List.getElem?_eq_none (by rw [tabL_len]; exact h1)] at hv; cases hv
  rw [tabL_at T hj] at hv
  cases hv
  rw [Nat.zero_add]
  exact h j hj
theorem TableAt.of_range {B : Nat} {T : Nat → Int} {w : World} (h : w.rangeAt B 0 (tabL T)) : TableAt B T w := fun k hk => by
  have := h k _ (tabL_at T hk)
  rwa [Nat.zero_add] at this
/-- a table that may be written. -/
def TabW (B : Nat) (T : Nat → Int) (w : World) : Prop := TableAt B T w ∧ ∀ k, k < 256 → w.frozen? ⟨B, k, none⟩ = false
theorem TabW.below {B B' : Nat} {T : Nat → Int} {w w' : World} (h : TabW B T w) (hB : B < B') (hb : Below B' w w') : TabW B T w' := ⟨h.1.below hB hb, fun k hk => (hb.frozen (p := ⟨B, k, none⟩) hB).trans (h.2 k hk)⟩
theorem TabW.there {B : Nat} {T : Nat → Int} {w : World} (h : TabW B T w) : w.there B 0 256 := fun j hj => by
  rw [Nat.zero_add, h.1 j hj]; exact ⟨rfl, h.2 j hj⟩
theorem tabA_size (T : Nat → Int) : (tabL T).toArray.size = 256 := by rw [List.size_toArray, tabL_len]
theorem TabW.thereA {B : Nat} {T : Nat → Int} {w : World} (h : TabW B T w) (F : Nat → Int) : w.there B 0 (tabL F).toArray.size := by rw [tabA_size]; exact h.there
theorem info41_size (T : Nat → Int) : (Try.prog.info? 41).map (·.size) = some (tabL T).toArray.size := by rw [tabA_size]; kernel_rfl
theorem info41_len (T : Nat → Int) : (Try.prog.info? 41).map (·.size) = some (tabL T).length := by rw [tabL_len]; kernel_rfl
theorem TabW.new (T : Nat → Int) (ty : TypeId) (w : World) : TabW w.heap.size T (w.alloc (.cells (tabL T).toArray ty)) := ⟨tableNew _ T (tabL_v T) ty w, fun k hk => World.frozen?_alloc_at _ _ _ _ rfl⟩
theorem TabW.set {B : Nat} {F : Nat → Int} {w : World} {k : Nat} (h : TabW B (madeA F k) w) (hk : k < 256) (v : Int) (hv : F k = v) : TabW B (madeA F (k + 1)) (w.setCell ⟨B, k, none⟩ (.int .i8 v)) := by
  refine ⟨fun j hj => ?_, fun j hj => (World.frozen?_setCell _ _ _ _).trans (h.2 j hj)⟩
  by_cases e : j = k
  · subst e
    rw [World.cell?_setCell_same _ _ _ (h.1 j hj)]
    simp [madeA, hv]
  · rw [World.cell?_setCell_other _ _ _ _ (fun e2 => e (by injection e2; omega)), h.1 j hj]
    have : madeA F k j = madeA F (k + 1) j := by
      unfold madeA
      by_cases h1 : j < k
      · rw [if_pos h1, if_pos (by omega)]
      · rw [if_neg h1, if_neg (by omega)]
    rw [this]
theorem madeA_none (F : Nat → Int) : madeA F 0 = zeroF := by
  funext k; unfold madeA; rw [if_neg (by omega)]; rfl
theorem below_row {B g : Nat} {a w : World} (hg : B ≤ g) (vs : List Value) (h : Below B a w) : Below B a (w.setCells g 0 vs) := Kit.below_cells hg vs 0 w h
set_option maxRecDepth 100000 in
set_option maxHeartbeats 4000000 in
theorem atable_no (x0 x1 x2 : Value) (K S P O Z Y : Int) (WA BA : Option Addr) (nW cW nB cB : Nat) (m1 s1 z1 m2 s2 z2 lo hi : Int) (hq : rightB m1 s1 = false) (w : World) :
    Calls Try.prog 10 #[.agg #[x0, x1, x2, .int .i64 K, .int .i64 S, .int .i64 P, .int .i64 O, .int .i8 Z, .int .i8 Y, .slice WA nW cW, .slice BA nB cB, .int .i32 m1, .int .i64 s1, .int .i8 z1, .int .i32 m2, .int .i64 s2, .int .i8 z2, .int .i8 lo, .int .i8 hi]] w fun e w' => e = .returned (.tuple #[.agg (tabL zeroF).toArray, .int .i64 7]) ∧ Below w.heap.size w w' := by
  have HQ := Lib.hid hq
  have TN0 : Hid (NodeAt w.heap.size x0 x1 x2 (.int .i8 Y) (.int .i32 m1) (.int .i64 s1) (.int .i8 z1) (.int .i32 m2) (.int .i64 s2) (.int .i8 z2) (.int .i8 lo) (.int .i8 hi) K S P O Z WA BA nW cW nB cB (((w.alloc (.cells #[x0, x1, x2, .int .i64 K, .int .i64 S, .int .i64 P, .int .i64 O, .int .i8 Z, .int .i8 Y, .slice WA nW cW, .slice BA nB cB, .int .i32 m1, .int .i64 s1, .int .i8 z1, .int .i32 m2, .int .i64 s2, .int .i8 z2, .int .i8 lo, .int .i8 hi] 32)).alloc (.cells (tabL zeroF).toArray 41)).alloc (.cells (tabL zeroF).toArray 41))) := Lib.hid ((NodeAt.new x0 x1 x2 (.int .i8 Y) (.int .i32 m1) (.int .i64 s1) (.int .i8 z1) (.int .i32 m2) (.int .i64 s2) (.int .i8 z2) (.int .i8 lo) (.int .i8 hi) K S P O Z WA BA nW cW nB cB 32 w).below (B' := w.heap.size + 1) (by omega) (((Below.refl _ _).alloc (by simp) _).alloc (by first | (simp; done) | (simp; omega)) _))
  have TR0 : Hid (TabW (w.heap.size + 1) zeroF (((w.alloc (.cells #[x0, x1, x2, .int .i64 K, .int .i64 S, .int .i64 P, .int .i64 O, .int .i8 Z, .int .i8 Y, .slice WA nW cW, .slice BA nB cB, .int .i32 m1, .int .i64 s1, .int .i8 z1, .int .i32 m2, .int .i64 s2, .int .i8 z2, .int .i8 lo, .int .i8 hi] 32)).alloc (.cells (tabL zeroF).toArray 41)).alloc (.cells (tabL zeroF).toArray 41))) := by
    have h := TabW.new zeroF 41 (w.alloc (.cells #[x0, x1, x2, .int .i64 K, .int .i64 S, .int .i64 P, .int .i64 O, .int .i8 Z, .int .i8 Y, .slice WA nW cW, .slice BA nB cB, .int .i32 m1, .int .i64 s1, .int .i8 z1, .int .i32 m2, .int .i64 s2, .int .i8 z2, .int .i8 lo, .int .i8 hi] 32))
    rw [World.size_alloc] at h
    exact Lib.hid (h.below (B' := w.heap.size + 2) (by omega) ((Below.refl _ _).alloc (by simp) _))
  have TL0 : Hid (TabW (w.heap.size + 2) zeroF (((w.alloc (.cells #[x0, x1, x2, .int .i64 K, .int .i64 S, .int .i64 P, .int .i64 O, .int .i8 Z, .int .i8 Y, .slice WA nW cW, .slice BA nB cB, .int .i32 m1, .int .i64 s1, .int .i8 z1, .int .i32 m2, .int .i64 s2, .int .i8 z2, .int .i8 lo, .int .i8 hi] 32)).alloc (.cells (tabL zeroF).toArray 41)).alloc (.cells (tabL zeroF).toArray 41))) := by
    have h := TabW.new zeroF 41 ((w.alloc (.cells #[x0, x1, x2, .int .i64 K, .int .i64 S, .int .i64 P, .int .i64 O, .int .i8 Z, .int .i8 Y, .slice WA nW cW, .slice BA nB cB, .int .i32 m1, .int .i64 s1, .int .i8 z1, .int .i32 m2, .int .i64 s2, .int .i8 z2, .int .i8 lo, .int .i8 hi] 32)).alloc (.cells (tabL zeroF).toArray 41))
    simp only [World.size_alloc] at h
    exact Lib.hid h
  have HB0 : Hid (Below w.heap.size w (((w.alloc (.cells #[x0, x1, x2, .int .i64 K, .int .i64 S, .int .i64 P, .int .i64 O, .int .i8 Z, .int .i8 Y, .slice WA nW cW, .slice BA nB cB, .int .i32 m1, .int .i64 s1, .int .i8 z1, .int .i32 m2, .int .i64 s2, .int .i8 z2, .int .i8 lo, .int .i8 hi] 32)).alloc (.cells (tabL zeroF).toArray 41)).alloc (.cells (tabL zeroF).toArray 41))) := Lib.hid ((((Below.refl _ _).alloc (Nat.le_refl _) _).alloc (by simp) _).alloc (by simp; omega) _)
  have hs0 : (((w.alloc (.cells #[x0, x1, x2, .int .i64 K, .int .i64 S, .int .i64 P, .int .i64 O, .int .i8 Z, .int .i8 Y, .slice WA nW cW, .slice BA nB cB, .int .i32 m1, .int .i64 s1, .int .i8 z1, .int .i32 m2, .int .i64 s2, .int .i8 z2, .int .i8 lo, .int .i8 hi] 32)).alloc (.cells (tabL zeroF).toArray 41)).alloc (.cells (tabL zeroF).toArray 41)).heap.size = w.heap.size + 3 := by simp
  have hz41 := zero41
  clear hq
  go_enter Try.func10, Try.ntmps10
  go_upto_region 2 with fail
  generalize (((w.alloc (.cells #[x0, x1, x2, .int .i64 K, .int .i64 S, .int .i64 P, .int .i64 O, .int .i8 Z, .int .i8 Y, .slice WA nW cW, .slice BA nB cB, .int .i32 m1, .int .i64 s1, .int .i8 z1, .int .i32 m2, .int .i64 s2, .int .i8 z2, .int .i8 lo, .int .i8 hi] 32)).alloc (.cells (tabL zeroF).toArray 41)).alloc (.cells (tabL zeroF).toArray 41)) = W0 at TN0 TR0 TL0 HB0 hs0 ⊢
  have n11 := TN0.out.at 11 _ rfl
  have n12 := TN0.out.at 12 _ rfl
  have n13 := TN0.out.at 13 _ rfl
  go_wp2_with (first
    | (go_at_call 19; (refine (isRight_to _ _ _ _).mono ?_); rintro e w1 ⟨rfl, hb⟩; (rw [HQ.out]); (have TN := Lib.hid (TN0.out.below (by omega) hb)); (have TR := Lib.hid (TR0.out.below (by omega) hb)); (have TL := Lib.hid (TL0.out.below (by omega) hb)); (have HBW := Lib.hid (HB0.out.trans (hb.mono HB0.out.size))); (have hs1 : w.heap.size + 3 ≤ w1.heap.size := by have := hb.size; omega); clear hb TN0 TR0 TL0 HB0 n11 n12 n13)
    | (refine wpList_load_mid rfl 41 (.tmp 4) rfl (w.heap.size + 2) 0 rfl (tabL zeroF) _ (TL.out.1.range) Try.underlying41 rfl (info41_len _) ?_)
    | (refine wpList_store_mid rfl 41 (.tmp 2) (.tmp 10) rfl (w.heap.size + 1) 0 (tabL zeroF).toArray rfl rfl (TR.out.thereA _) (info41_size _) (all_oneCell_toArray (tabL_one _)) ?_))
  refine bodyPost_ret (Kit.results_ct rfl _ _ (w.heap.size + 1) 0 (tabL zeroF) _ rfl (World.rangeAt_setCells_same _ _ _ _ (by rw [tabL_len]; exact TR.out.there)) Try.underlying41 rfl (info41_len _)) rfl ?_
  exact ⟨rfl, below_row (by omega) _ HBW.out⟩
set_option maxRecDepth 100000 in
set_option maxHeartbeats 4000000 in
theorem atable_yes (x0 x1 x2 : Value) (K S P O Z Y : Int) (WA BA : Option Addr) (nW cW nB cB : Nat) (m1 s1 z1 m2 s2 z2 lo hi : Int) (hnb : NBd Z Y m1 z1 m2 z2 lo hi) (hq : rightB m1 s1 = true) (F : Nat → Int) (hF : ∀ k : Nat, F k = heldZ ((k : Int) - 128 - Z) m1 s1 z1 lo hi) (w : World) :
    Calls Try.prog 10 #[.agg #[x0, x1, x2, .int .i64 K, .int .i64 S, .int .i64 P, .int .i64 O, .int .i8 Z, .int .i8 Y, .slice WA nW cW, .slice BA nB cB, .int .i32 m1, .int .i64 s1, .int .i8 z1, .int .i32 m2, .int .i64 s2, .int .i8 z2, .int .i8 lo, .int .i8 hi]] w fun e w' => e = .returned (.tuple #[.agg (tabL F).toArray, .int .i64 0]) ∧ Below w.heap.size w w' := by
  have HQ := Lib.hid hq
  have HF := Lib.hid hF
  have HNB := Lib.hid hnb
  have TN0 : Hid (NodeAt w.heap.size x0 x1 x2 (.int .i8 Y) (.int .i32 m1) (.int .i64 s1) (.int .i8 z1) (.int .i32 m2) (.int .i64 s2) (.int .i8 z2) (.int .i8 lo) (.int .i8 hi) K S P O Z WA BA nW cW nB cB (((w.alloc (.cells #[x0, x1, x2, .int .i64 K, .int .i64 S, .int .i64 P, .int .i64 O, .int .i8 Z, .int .i8 Y, .slice WA nW cW, .slice BA nB cB, .int .i32 m1, .int .i64 s1, .int .i8 z1, .int .i32 m2, .int .i64 s2, .int .i8 z2, .int .i8 lo, .int .i8 hi] 32)).alloc (.cells (tabL zeroF).toArray 41)).alloc (.cells (tabL zeroF).toArray 41))) := Lib.hid ((NodeAt.new x0 x1 x2 (.int .i8 Y) (.int .i32 m1) (.int .i64 s1) (.int .i8 z1) (.int .i32 m2) (.int .i64 s2) (.int .i8 z2) (.int .i8 lo) (.int .i8 hi) K S P O Z WA BA nW cW nB cB 32 w).below (B' := w.heap.size + 1) (by omega) (((Below.refl _ _).alloc (by simp) _).alloc (by first | (simp; done) | (simp; omega)) _))
  have TR0 : Hid (TabW (w.heap.size + 1) zeroF (((w.alloc (.cells #[x0, x1, x2, .int .i64 K, .int .i64 S, .int .i64 P, .int .i64 O, .int .i8 Z, .int .i8 Y, .slice WA nW cW, .slice BA nB cB, .int .i32 m1, .int .i64 s1, .int .i8 z1, .int .i32 m2, .int .i64 s2, .int .i8 z2, .int .i8 lo, .int .i8 hi] 32)).alloc (.cells (tabL zeroF).toArray 41)).alloc (.cells (tabL zeroF).toArray 41))) := by
    have h := TabW.new zeroF 41 (w.alloc (.cells #[x0, x1, x2, .int .i64 K, .int .i64 S, .int .i64 P, .int .i64 O, .int .i8 Z, .int .i8 Y, .slice WA nW cW, .slice BA nB cB, .int .i32 m1, .int .i64 s1, .int .i8 z1, .int .i32 m2, .int .i64 s2, .int .i8 z2, .int .i8 lo, .int .i8 hi] 32))
    rw [World.size_alloc] at h
    exact Lib.hid (h.below (B' := w.heap.size + 2) (by omega) ((Below.refl _ _).alloc (by simp) _))
  have TL0 : Hid (TabW (w.heap.size + 2) zeroF (((w.alloc (.cells #[x0, x1, x2, .int .i64 K, .int .i64 S, .int .i64 P, .int .i64 O, .int .i8 Z, .int .i8 Y, .slice WA nW cW, .slice BA nB cB, .int .i32 m1, .int .i64 s1, .int .i8 z1, .int .i32 m2, .int .i64 s2, .int .i8 z2, .int .i8 lo, .int .i8 hi] 32)).alloc (.cells (tabL zeroF).toArray 41)).alloc (.cells (tabL zeroF).toArray 41))) := by
    have h := TabW.new zeroF 41 ((w.alloc (.cells #[x0, x1, x2, .int .i64 K, .int .i64 S, .int .i64 P, .int .i64 O, .int .i8 Z, .int .i8 Y, .slice WA nW cW, .slice BA nB cB, .int .i32 m1, .int .i64 s1, .int .i8 z1, .int .i32 m2, .int .i64 s2, .int .i8 z2, .int .i8 lo, .int .i8 hi] 32)).alloc (.cells (tabL zeroF).toArray 41))
    simp only [World.size_alloc] at h
    exact Lib.hid h
  have HB0 : Hid (Below w.heap.size w (((w.alloc (.cells #[x0, x1, x2, .int .i64 K, .int .i64 S, .int .i64 P, .int .i64 O, .int .i8 Z, .int .i8 Y, .slice WA nW cW, .slice BA nB cB, .int .i32 m1, .int .i64 s1, .int .i8 z1, .int .i32 m2, .int .i64 s2, .int .i8 z2, .int .i8 lo, .int .i8 hi] 32)).alloc (.cells (tabL zeroF).toArray 41)).alloc (.cells (tabL zeroF).toArray 41))) := Lib.hid ((((Below.refl _ _).alloc (Nat.le_refl _) _).alloc (by simp) _).alloc (by simp; omega) _)
  have hs0 : (((w.alloc (.cells #[x0, x1, x2, .int .i64 K, .int .i64 S, .int .i64 P, .int .i64 O, .int .i8 Z, .int .i8 Y, .slice WA nW cW, .slice BA nB cB, .int .i32 m1, .int .i64 s1, .int .i8 z1, .int .i32 m2, .int .i64 s2, .int .i8 z2, .int .i8 lo, .int .i8 hi] 32)).alloc (.cells (tabL zeroF).toArray 41)).alloc (.cells (tabL zeroF).toArray 41)).heap.size = w.heap.size + 3 := by simp
  have hz41 := zero41
  clear hq hF hnb
  go_enter Try.func10, Try.ntmps10
  go_upto_region 2 with fail
  generalize (((w.alloc (.cells #[x0, x1, x2, .int .i64 K, .int .i64 S, .int .i64 P, .int .i64 O, .int .i8 Z, .int .i8 Y, .slice WA nW cW, .slice BA nB cB, .int .i32 m1, .int .i64 s1, .int .i8 z1, .int .i32 m2, .int .i64 s2, .int .i8 z2, .int .i8 lo, .int .i8 hi] 32)).alloc (.cells (tabL zeroF).toArray 41)).alloc (.cells (tabL zeroF).toArray 41)) = W0 at TN0 TR0 TL0 HB0 hs0 ⊢
  have n11 := TN0.out.at 11 _ rfl
  have n12 := TN0.out.at 12 _ rfl
  have n13 := TN0.out.at 13 _ rfl
  go_wp2_with (first
    | (go_at_call 19; (refine (isRight_to _ _ _ _).mono ?_); rintro e w1 ⟨rfl, hb⟩; (rw [HQ.out]); (have TN := Lib.hid (TN0.out.below (by omega) hb)); (have TR := Lib.hid (TR0.out.below (by omega) hb)); (have TL := Lib.hid (TL0.out.below (by omega) hb)); (have HBW := Lib.hid (HB0.out.trans (hb.mono HB0.out.size))); (have hs1 : w.heap.size + 3 ≤ w1.heap.size := by have := hb.size; omega); clear hb TN0 TR0 TL0 HB0 n11 n12 n13))
  rw [← madeA_none F] at TL
  clear hs0
  go_loopw [11] (fun u wr => ∃ k : Nat, k ≤ 256 ∧ u = .int .i64 k ∧ Hid (TabW (w.heap.size + 2) (madeA F k) wr) ∧ Hid (Below (w.heap.size + 2) w1 wr)) (fun u _ => 256 - (intOf u).toNat)
  case atStart => exact ⟨0, Nat.zero_le _, rfl, TL, Lib.hid (Below.refl _ _)⟩
  case round =>
    obtain ⟨k, hk, rfl, HT, HB⟩ := hrel
    clear TL
    by_cases hlt : k < 256
    · have k0 : (0 : Int) ≤ (k : Int) := by omega
      have k1 : (k : Int) < 256 := by omega
      obtain ⟨x, hx⟩ : ∃ x, (k : Int) - 128 = x := ⟨_, rfl⟩
      have e1 : IntKind.i64.wrap ((k : Int) - 128) = x := by rw [IntWalk.i64_in _ (by omega), hx]
      have e2 : IntKind.i8.wrap x = x := IntWalk.i8_in _ (by omega)
      have xl : -128 ≤ x := by omega
      have xu : x ≤ 127 := by omega
      have hf := HF.out k
      rw [hx] at hf
      obtain ⟨R, hR⟩ : ∃ R, F k = R := ⟨_, rfl⟩
      rw [hR] at hf
      have HFX := Lib.hid hR
      have HRR := Lib.hid hf.symm
      have TNW := Lib.hid (TN.out.below (show w.heap.size < w.heap.size + 2 by omega) HB.out)
      have hsz : w.heap.size + 2 < wr.heap.size := by have := HB.out.size; omega
      clear hR hf hx
      go_wp2_with (first
        | (refine wpList_load_mid rfl 32 (.tmp 1) rfl w.heap.size 0 rfl [x0, x1, x2, .int .i64 K, .int .i64 S, .int .i64 P, .int .i64 O, .int .i8 Z, .int .i8 Y, .slice WA nW cW, .slice BA nB cB, .int .i32 m1, .int .i64 s1, .int .i8 z1, .int .i32 m2, .int .i64 s2, .int .i8 z2, .int .i8 lo, .int .i8 hi] _ TNW.out Try.underlying32 rfl (by kernel_rfl) ?_)
        | (go_at_call 13; (refine (aone_to x xl xu x0 x1 x2 K S P O Z Y WA BA nW cW nB cB m1 s1 z1 m2 s2 z2 lo hi HNB.out R HRR.out _).mono ?_); rintro e w3 ⟨rfl, hb⟩; (have ht3 := HT.out.below hsz hb); (have ks := ht3.1 k hlt); (have fs := ht3.2 k hlt); (have HST := Lib.hid (ht3.set hlt R HFX.out)); (have HB3 := Lib.hid (HB.out.trans (hb.mono (by omega)))); clear ht3 hb))
      go_roundw
      case rel => exact ⟨k + 1, by omega, by go_num, HST, Lib.hid (HB3.out.setCell (p := ⟨w.heap.size + 2, k, none⟩) (Nat.le_refl _) _)⟩
      case measure => simp [intOf]; omega
    · obtain rfl : k = 256 := by omega
      have hfin : TableAt (w.heap.size + 2) F wr := fun j hj => by
        have := HT.out.1 j hj
        simpa [madeA, hj] using this
      have HFI := Lib.hid hfin
      have TRW := Lib.hid (TR.out.below (show w.heap.size + 1 < w.heap.size + 2 by omega) HB.out)
      have HBW9 := Lib.hid (HBW.out.trans (HB.out.mono (by omega)))
      clear hfin HT HB
      go_wp2_with (first
        | (refine wpList_load_mid rfl 41 (.tmp 4) rfl (w.heap.size + 2) 0 rfl (tabL F) _ (HFI.out.range) Try.underlying41 rfl (info41_len _) ?_)
        | (refine wpList_store_mid rfl 41 (.tmp 2) (.tmp 22) rfl (w.heap.size + 1) 0 (tabL F).toArray rfl rfl (TRW.out.thereA _) (info41_size _) (all_oneCell_toArray (tabL_one _)) ?_))
      refine bodyPost_ret (Kit.results_ct rfl _ _ (w.heap.size + 1) 0 (tabL F) _ rfl (World.rangeAt_setCells_same _ _ _ _ (by rw [tabL_len]; exact TRW.out.there)) Try.underlying41 rfl (info41_len _)) rfl ?_
      exact ⟨rfl, below_row (by omega) _ HBW9.out⟩
theorem atable_to (x0 x1 x2 : Value) (K S P O Z Y : Int) (WA BA : Option Addr) (nW cW nB cB : Nat) (m1 s1 z1 m2 s2 z2 lo hi : Int) (hnb : NBd Z Y m1 z1 m2 z2 lo hi) (F : Nat → Int) (hF : ∀ k : Nat, F k = heldZ ((k : Int) - 128 - Z) m1 s1 z1 lo hi) (er : Int) (her : er = if rightB m1 s1 then 0 else 7) (w : World) :
    Calls Try.prog 10 #[.agg #[x0, x1, x2, .int .i64 K, .int .i64 S, .int .i64 P, .int .i64 O, .int .i8 Z, .int .i8 Y, .slice WA nW cW, .slice BA nB cB, .int .i32 m1, .int .i64 s1, .int .i8 z1, .int .i32 m2, .int .i64 s2, .int .i8 z2, .int .i8 lo, .int .i8 hi]] w fun e w' => e = .returned (.tuple #[.agg (tabL F).toArray, .int .i64 er]) ∧ Below w.heap.size w w' := by
  cases hq : rightB m1 s1
  · rw [hq] at her
    have e : tabL F = tabL zeroF := tabL_same fun k hk => by rw [hF]; unfold heldZ; rw [hq]; rfl
    subst her
    rw [e]
    exact atable_no x0 x1 x2 K S P O Z Y WA BA nW cW nB cB m1 s1 z1 m2 s2 z2 lo hi hq w
  · rw [hq] at her
    subst her
    exact atable_yes x0 x1 x2 K S P O Z Y WA BA nW cW nB cB m1 s1 z1 m2 s2 z2 lo hi hnb hq F hF w
end Go.Proofs.Ytpokeklphmfcnaa.CAct
