/- Layer 21 (act), the code: each number by a closure. -/
import Derived.Test.YtpokeklphmfcnaaActOne
import Derived.Laws.MakeOwn
import Derived.Deep.CutRange
namespace Go.Proofs.Ytpokeklphmfcnaa.CAct
open Go Go.ChangeShapes Go.WideShapes Go.ChangeAt Go.RowKit Go.Deep
open Plain CSat CFix CShape CTensor CConv
set_option linter.unusedVariables false

/-- a tensor of the call's own, handed back with an error's number. -/
def MadeT (w : World) (H W C : Int) (n : Nat) (zs : List Int) (x : Value) (e : Ending) (w' : World) : Prop :=
  ∃ v, e = .returned (.tuple #[.agg #[.int .i64 H, .int .i64 W, .int .i64 C, v], x]) ∧ w'.ownsRow w.heap.size 27 1 v n (I8s zs) ∧ Below w.heap.size w w'
/-- the same without one. -/
def MadeE (w : World) (H W C : Int) (n : Nat) (zs : List Int) (e : Ending) (w' : World) : Prop :=
  ∃ v, e = .returned (.agg #[.int .i64 H, .int .i64 W, .int .i64 C, v]) ∧ w'.ownsRow w.heap.size 27 1 v n (I8s zs) ∧ Below w.heap.size w w'
theorem rowL_same {F G : Nat → Int} {n : Nat} (h : ∀ i, i < n → F i = G i) : rowL F n = rowL G n := by
  unfold rowL
  exact List.map_congr_left fun i hi => h i (by simpa using hi)
theorem i8_at (F : Nat → Int) {d r : Nat} (h : r < d) : (I8s (rowL F d))[r]? = some (.int .i8 (F r)) := by simp [I8s, rowL, h]
/-- a row of which the first o are made. -/
def madeA (F : Nat → Int) (o i : Nat) : Int := if i < o then F i else 0
theorem madeA_zero (F : Nat → Int) (N : Nat) : I8s (rowL (madeA F 0) N) = List.replicate N (.int .i8 0) := by
  refine List.ext_getElem (by simp [I8s, rowL]) fun i h1 h2 => ?_
  simp [I8s, rowL, madeA]
theorem madeA_all (F : Nat → Int) (N : Nat) : rowL (madeA F N) N = rowL F N := rowL_same (fun i hi => by unfold madeA; rw [if_pos hi])
theorem madeA_set (F : Nat → Int) {N o : Nat} (v : Int) (hv : F o = v) : (I8s (rowL (madeA F o) N)).set o (.int .i8 v) = I8s (rowL (madeA F (o + 1)) N) := by
  refine List.ext_getElem (by simp [I8s, rowL]) fun i h1 h2 => ?_
  rw [List.getElem_set]
  by_cases e : o = i
  · subst e
    rw [if_pos rfl]
    simp [I8s, rowL, madeA, hv]
  · rw [if_neg e]
    simp only [I8s, rowL, List.map_map, List.getElem_map, List.getElem_range, Function.comp, madeA]
    by_cases h : i < o
    · rw [if_pos h, if_pos (by omega)]
    · rw [if_neg h, if_neg (by omega)]
theorem info_i8a : (Try.prog.info? 27).map (fun i => (i.zero, i.size, i.bytes)) = some (some (.int .i8 0), 1, 1) := by kernel_rfl
set_option maxRecDepth 100000 in
set_option maxHeartbeats 2000000 in
theorem ofc_to (x : Int) (hx1 : -128 ≤ x) (hx2 : x ≤ 127) (x0 x1 x2 : Value) (K S P O Z Y : Int) (WA BA : Option Addr) (nW cW nB cB : Nat) (m1 s1 z1 m2 s2 z2 lo hi : Int) (hnb : NBd Z Y m1 z1 m2 z2 lo hi) (R : Int) (hR : heldZ (x - Z) m1 s1 z1 lo hi = R) (bn : Nat) (w : World) (hN : NodeAt bn x0 x1 x2 (.int .i8 Y) (.int .i32 m1) (.int .i64 s1) (.int .i8 z1) (.int .i32 m2) (.int .i64 s2) (.int .i8 z2) (.int .i8 lo) (.int .i8 hi) K S P O Z WA BA nW cW nB cB w) :
    Calls Try.prog 21 #[.int .i8 x, .pointer (some ⟨bn, 0, none⟩)] w fun e w' => e = .returned (.int .i8 R) ∧ Below w.heap.size w w' := by
  have HR := Lib.hid hR
  have TN := Lib.hid hN
  have HNB := Lib.hid hnb
  clear hR hN hnb
  go_enter Try.func21, Try.ntmps21
  go_wp2_with (first
    | (refine wpList_load_mid rfl 32 (.tmp 1) rfl bn 0 rfl [x0, x1, x2, .int .i64 K, .int .i64 S, .int .i64 P, .int .i64 O, .int .i8 Z, .int .i8 Y, .slice WA nW cW, .slice BA nB cB, .int .i32 m1, .int .i64 s1, .int .i8 z1, .int .i32 m2, .int .i64 s2, .int .i8 z2, .int .i8 lo, .int .i8 hi] _ TN.out Try.underlying32 rfl (by kernel_rfl) ?_)
    | (go_at_call 13; (refine (aone_to x hx1 hx2 x0 x1 x2 K S P O Z Y WA BA nW cW nB cB m1 s1 z1 m2 s2 z2 lo hi HNB.out R HR.out _).mono ?_); rintro e w1 ⟨rfl, hb⟩))
  go_ret
  exact ⟨rfl, hb⟩
set_option maxHeartbeats 2000000 in
theorem byc_to (x : Int) (k : Nat) (hk : x + 128 = k) (hx1 : -128 ≤ x) (hx2 : x ≤ 127) (R : Int) (bt : Nat) (w : World) (hT : w.cell? ⟨bt, k, none⟩ = some (.int .i8 R)) :
    Calls Try.prog 24 #[.int .i8 x, .pointer (some ⟨bt, 0, none⟩)] w fun e w' => e = .returned (.int .i8 R) ∧ Below w.heap.size w w' := by
  have e1 : IntKind.i64.wrap x = x := IntWalk.i64_in _ (by omega)
  have e2 : IntKind.i64.wrap (x + 128) = (k : Int) := by rw [IntWalk.i64_in _ (by omega), hk]
  have k1 : (k : Int) < 256 := by omega
  have k0 : (0 : Int) ≤ (k : Int) := by omega
  clear hk
  go_enter Try.func24, Try.ntmps24
  go_wp2_with fail
  go_ret
  exact ⟨rfl, Below.refl _ _⟩
set_option maxRecDepth 100000 in
set_option maxHeartbeats 4000000 in
theorem each_of (H W C : Int) (A : Option Addr) (zs : List Int) (n c : Nat) (hn : zs.length = n) (hn2 : n ≤ 1000000) (hz : I8b zs) (g0 : Nat) (x0 x1 x2 : Value) (K S P O Z Y : Int) (WA BA : Option Addr) (nW cW nB cB : Nat) (m1 s1 z1 m2 s2 z2 lo hi : Int) (hnb : NBd Z Y m1 z1 m2 z2 lo hi) (F : Nat → Int) (hF : ∀ k, F k = heldZ (zs.getD k 0 - Z) m1 s1 z1 lo hi) (w : World) (hN : NodeAt g0 x0 x1 x2 (.int .i8 Y) (.int .i32 m1) (.int .i64 s1) (.int .i8 z1) (.int .i32 m2) (.int .i64 s2) (.int .i8 z2) (.int .i8 lo) (.int .i8 hi) K S P O Z WA BA nW cW nB cB w) (hg0 : g0 < w.heap.size) (hr : Kit.Rd w w.heap.size A (I8s zs)) :
    Calls Try.prog 20 #[.agg #[.int .i64 H, .int .i64 W, .int .i64 C, .slice A n c], .func (.func 21) #[] #[.pointer (some ⟨g0, 0, none⟩)]] w (MadeE w H W C n (rowL F n)) := by
  have HN := Lib.hid hn
  have HZ := Lib.hid hz
  have HF := Lib.hid hF
  have HR := Lib.hid hr
  have HNB := Lib.hid hnb
  have HND := Lib.hid hN
  have hal : Below w.heap.size w ((w.alloc (.cells #[.int .i64 H, .int .i64 W, .int .i64 C, .slice A n c] 26)).alloc (.cells #[.int .i64 0, .int .i64 0, .int .i64 0, .slice none 0 0] 26)) := ((Below.refl _ _).alloc (Nat.le_refl _) _).alloc (by simp) _
  have tb0 : BoxAt w.heap.size H W C A n c ((w.alloc (.cells #[.int .i64 H, .int .i64 W, .int .i64 C, .slice A n c] 26)).alloc (.cells #[.int .i64 0, .int .i64 0, .int .i64 0, .slice none 0 0] 26)) := (boxNew H W C A n c 26 w).below (B' := w.heap.size + 1) (by omega) ((Below.refl _ _).alloc (by simp) _)
  have fr0 : FreshT (w.heap.size + 1) ((w.alloc (.cells #[.int .i64 H, .int .i64 W, .int .i64 C, .slice A n c] 26)).alloc (.cells #[.int .i64 0, .int .i64 0, .int .i64 0, .slice none 0 0] 26)) := by
    have h := freshNew 26 (w.alloc (.cells #[.int .i64 H, .int .i64 W, .int .i64 C, .slice A n c] 26))
    rw [World.size_alloc] at h
    exact h
  have hs0 : ((w.alloc (.cells #[.int .i64 H, .int .i64 W, .int .i64 C, .slice A n c] 26)).alloc (.cells #[.int .i64 0, .int .i64 0, .int .i64 0, .slice none 0 0] 26)).heap.size = w.heap.size + 2 := by simp
  have HAL := Lib.hid hal
  have TB0 := Lib.hid tb0
  have FR0 := Lib.hid fr0
  have HS0 := Lib.hid hs0
  obtain ⟨i0, hi0, hi1, hi2, hi3⟩ := info_parts32 info_i8a
  have HI := Lib.hid (And.intro hi0 (And.intro hi1 (And.intro hi2 hi3)))
  clear hn hz hF hr hal tb0 fr0 hs0 hi0 hi1 hi2 hi3 hnb hN
  go_enter Try.func20, Try.ntmps20
  go_wp2_with (at_make; refine wpList_make_full _ rfl (.tmp 10) (.tmp 10) _ rfl (w.heap.size + 2) 27 i0 (.int .i8 0) 1 Try.underlying24 HI.out.1 HI.out.2.1 HI.out.2.2.1 .i64 .i64 _ _ n rfl rfl rfl rfl (by rw [HI.out.2.2.2]; omega) (by unfold maxLen; omega) (by have := HS0.out; omega) ?_; (intro w2 hown hg2); (have hb2 : Below (w.heap.size + 2) ((w.alloc (.cells #[.int .i64 H, .int .i64 W, .int .i64 C, .slice A n c] 26)).alloc (.cells #[.int .i64 0, .int .i64 0, .int .i64 0, .slice none 0 0] 26)) w2 := (Below.refl _ _).grown hg2 (by have := HS0.out; omega) (fun q hq => by cases hq)); (rw [show (madeCells (Value.int IntKind.i8 0).cells (n * 1)).toList = List.replicate n (.int .i8 0) by rw [Nat.mul_one]; exact toList_madeCells_one _ _] at hown); (rw [← madeA_zero F n] at hown); (simp only [World.size_alloc] at hown); (have HOWN := Lib.hid hown); (have TB := Lib.hid (TB0.out.below (by omega) hb2)); (have FR := Lib.hid (FR0.out.below (by omega) hb2)); (have HB0 := Lib.hid (HAL.out.trans (hb2.mono (by omega)))); (have hs2 : w.heap.size + 2 ≤ w2.heap.size := by have := hb2.size; have := HS0.out; omega); (obtain ⟨t0, t1, t2, t3⟩ := TB.out); clear hown hg2 hb2 HAL TB0 FR0)
  clear t0 t1 t2 t3
  go_loopw [15] (fun u wr => ∃ k : Nat, k ≤ n ∧ u = .int .i64 k ∧ Hid (wr.ownsRow (w.heap.size + 2) 27 1 (.slice (some ⟨w.heap.size + 1 + 1, 0, none⟩) n n) n (I8s (rowL (madeA F k) n))) ∧ Hid (Below (w.heap.size + 2) w2 wr)) (fun u _ => n - (intOf u).toNat)
  case atStart => exact ⟨0, Nat.zero_le _, rfl, HOWN, Lib.hid (Below.refl _ _)⟩
  case round =>
    obtain ⟨k, hk, rfl, HO, HB⟩ := hrel
    clear HOWN
    by_cases hlt : k < n
    · have hk0 : (0 : Int) ≤ (k : Int) := by omega
      have hkn : (k : Int) < (n : Int) := by omega
      obtain ⟨ba, oa, rfl, hba, hca⟩ := ints_getD HR.out (j := 0) (by have := HN.out; omega)
      have hbw := HB0.out.trans (HB.out.mono (show w.heap.size ≤ w.heap.size + 2 by omega))
      have hcx := (hbw.cell (p := ⟨ba, oa + k, none⟩) hba).trans (hca k (by have := HN.out; omega))
      obtain ⟨xl, xu⟩ := HZ.out k
      have hf := HF.out k
      generalize zs.getD k 0 = x at hcx xl xu hf
      obtain ⟨R, hR⟩ : ∃ R, F k = R := ⟨_, rfl⟩
      rw [hR] at hf
      have HFX := Lib.hid hR
      have HRR := Lib.hid hf.symm
      have HBW := Lib.hid hbw
      have hsz : w.heap.size + 1 + 1 < wr.heap.size := Kit.block_lt_of_own HO.out
      clear hR hf hca hbw
      have TNW := Lib.hid (HND.out.below hg0 HBW.out)
      go_wp2_with (go_at_call 21; (refine (ofc_to x xl xu x0 x1 x2 K S P O Z Y WA BA nW cW nB cB m1 s1 z1 m2 s2 z2 lo hi HNB.out R HRR.out g0 wr TNW.out).mono ?_); rintro e w3 ⟨rfl, hb⟩; (have ho3 := Kit.own_below HO.out hb); (have ks : w3.cell? ⟨w.heap.size + 1 + 1, k, none⟩ = some (.int .i8 (madeA F k k)) := (ho3.cellAt k (by omega)).trans (i8_at _ hlt)); (have fs : w3.frozen? ⟨w.heap.size + 1 + 1, k, none⟩ = false := ho3.frozenAt k); (have hst := (ho3.stored k (.int .i8 R)).1); (rw [madeA_set F R HFX.out] at hst); (have HST := Lib.hid hst); (have HB3 := Lib.hid (HB.out.trans (hb.mono (by omega)))); clear hst hb ho3)
      go_roundw
      case rel => exact ⟨k + 1, by omega, by go_num, Lib.hid HST.out, Lib.hid (HB3.out.setCell (p := ⟨w.heap.size + 1 + 1, k, none⟩) (by show w.heap.size + 2 ≤ w.heap.size + 1 + 1; omega) _)⟩
      case measure => simp [intOf]; omega
    · obtain rfl : k = n := by omega
      have hfin := HO.out
      rw [madeA_all] at hfin
      have HFI := Lib.hid hfin
      obtain ⟨t0, t1, t2, t3⟩ := TB.out.below (by omega) HB.out
      obtain ⟨⟨z0, z1', z2', z3⟩, z4, z5, z6, z7⟩ := FR.out.below (show w.heap.size + 1 < w.heap.size + 2 by omega) HB.out
      have HBW9 := Lib.hid (HB0.out.trans (HB.out.mono (by omega)))
      clear hfin HO HB
      go_wp2_with fail
      refine bodyPost_ret (Kit.results_c rfl _ _ (w.heap.size + 1) 0 [.int .i64 H, .int .i64 W, .int .i64 C, .slice (some ⟨w.heap.size + 1 + 1, 0, none⟩) k k] _ rfl (range_4 (by go_cell) (by go_cell) (by go_cell) (by go_cell)) Try.underlying26 rfl (by kernel_rfl)) rfl ?_
      refine ⟨_, rfl, Kit.own_base (own_set4 HFI.out ?_) ?_, ?_⟩
      any_goals (first | omega | (simp; done) | (simp; omega))
      exact (((HBW9.out.setCell (p := ⟨w.heap.size + 1, 0, none⟩) (by simp) _).setCell (p := ⟨w.heap.size + 1, 1, none⟩) (by simp) _).setCell (p := ⟨w.heap.size + 1, 2, none⟩) (by simp) _).setCell (p := ⟨w.heap.size + 1, 3, none⟩) (by simp) _
set_option maxRecDepth 100000 in
set_option maxHeartbeats 4000000 in
theorem each_by (H W C : Int) (A : Option Addr) (zs : List Int) (n c : Nat) (hn : zs.length = n) (hn2 : n ≤ 1000000) (hz : I8b zs) (g0 : Nat) (T : Nat → Int) (F : Nat → Int) (hF : ∀ k, F k = T (zs.getD k 0 + 128).toNat) (w : World) (hT : ∀ k, k < 256 → w.cell? ⟨g0, k, none⟩ = some (.int .i8 (T k))) (hg0 : g0 < w.heap.size) (hr : Kit.Rd w w.heap.size A (I8s zs)) :
    Calls Try.prog 20 #[.agg #[.int .i64 H, .int .i64 W, .int .i64 C, .slice A n c], .func (.func 24) #[] #[.pointer (some ⟨g0, 0, none⟩)]] w (MadeE w H W C n (rowL F n)) := by
  have HN := Lib.hid hn
  have HZ := Lib.hid hz
  have HF := Lib.hid hF
  have HR := Lib.hid hr
  have HTT := Lib.hid hT
  have hal : Below w.heap.size w ((w.alloc (.cells #[.int .i64 H, .int .i64 W, .int .i64 C, .slice A n c] 26)).alloc (.cells #[.int .i64 0, .int .i64 0, .int .i64 0, .slice none 0 0] 26)) := ((Below.refl _ _).alloc (Nat.le_refl _) _).alloc (by simp) _
  have tb0 : BoxAt w.heap.size H W C A n c ((w.alloc (.cells #[.int .i64 H, .int .i64 W, .int .i64 C, .slice A n c] 26)).alloc (.cells #[.int .i64 0, .int .i64 0, .int .i64 0, .slice none 0 0] 26)) := (boxNew H W C A n c 26 w).below (B' := w.heap.size + 1) (by omega) ((Below.refl _ _).alloc (by simp) _)
  have fr0 : FreshT (w.heap.size + 1) ((w.alloc (.cells #[.int .i64 H, .int .i64 W, .int .i64 C, .slice A n c] 26)).alloc (.cells #[.int .i64 0, .int .i64 0, .int .i64 0, .slice none 0 0] 26)) := by
    have h := freshNew 26 (w.alloc (.cells #[.int .i64 H, .int .i64 W, .int .i64 C, .slice A n c] 26))
    rw [World.size_alloc] at h
    exact h
  have hs0 : ((w.alloc (.cells #[.int .i64 H, .int .i64 W, .int .i64 C, .slice A n c] 26)).alloc (.cells #[.int .i64 0, .int .i64 0, .int .i64 0, .slice none 0 0] 26)).heap.size = w.heap.size + 2 := by simp
  have HAL := Lib.hid hal
  have TB0 := Lib.hid tb0
  have FR0 := Lib.hid fr0
  have HS0 := Lib.hid hs0
  obtain ⟨i0, hi0, hi1, hi2, hi3⟩ := info_parts32 info_i8a
  have HI := Lib.hid (And.intro hi0 (And.intro hi1 (And.intro hi2 hi3)))
  clear hn hz hF hr hal tb0 fr0 hs0 hi0 hi1 hi2 hi3 hT
  go_enter Try.func20, Try.ntmps20
  go_wp2_with (at_make; refine wpList_make_full _ rfl (.tmp 10) (.tmp 10) _ rfl (w.heap.size + 2) 27 i0 (.int .i8 0) 1 Try.underlying24 HI.out.1 HI.out.2.1 HI.out.2.2.1 .i64 .i64 _ _ n rfl rfl rfl rfl (by rw [HI.out.2.2.2]; omega) (by unfold maxLen; omega) (by have := HS0.out; omega) ?_; (intro w2 hown hg2); (have hb2 : Below (w.heap.size + 2) ((w.alloc (.cells #[.int .i64 H, .int .i64 W, .int .i64 C, .slice A n c] 26)).alloc (.cells #[.int .i64 0, .int .i64 0, .int .i64 0, .slice none 0 0] 26)) w2 := (Below.refl _ _).grown hg2 (by have := HS0.out; omega) (fun q hq => by cases hq)); (rw [show (madeCells (Value.int IntKind.i8 0).cells (n * 1)).toList = List.replicate n (.int .i8 0) by rw [Nat.mul_one]; exact toList_madeCells_one _ _] at hown); (rw [← madeA_zero F n] at hown); (simp only [World.size_alloc] at hown); (have HOWN := Lib.hid hown); (have TB := Lib.hid (TB0.out.below (by omega) hb2)); (have FR := Lib.hid (FR0.out.below (by omega) hb2)); (have HB0 := Lib.hid (HAL.out.trans (hb2.mono (by omega)))); (have hs2 : w.heap.size + 2 ≤ w2.heap.size := by have := hb2.size; have := HS0.out; omega); (obtain ⟨t0, t1, t2, t3⟩ := TB.out); clear hown hg2 hb2 HAL TB0 FR0)
  clear t0 t1 t2 t3
  go_loopw [15] (fun u wr => ∃ k : Nat, k ≤ n ∧ u = .int .i64 k ∧ Hid (wr.ownsRow (w.heap.size + 2) 27 1 (.slice (some ⟨w.heap.size + 1 + 1, 0, none⟩) n n) n (I8s (rowL (madeA F k) n))) ∧ Hid (Below (w.heap.size + 2) w2 wr)) (fun u _ => n - (intOf u).toNat)
  case atStart => exact ⟨0, Nat.zero_le _, rfl, HOWN, Lib.hid (Below.refl _ _)⟩
  case round =>
    obtain ⟨k, hk, rfl, HO, HB⟩ := hrel
    clear HOWN
    by_cases hlt : k < n
    · have hk0 : (0 : Int) ≤ (k : Int) := by omega
      have hkn : (k : Int) < (n : Int) := by omega
      obtain ⟨ba, oa, rfl, hba, hca⟩ := ints_getD HR.out (j := 0) (by have := HN.out; omega)
      have hbw := HB0.out.trans (HB.out.mono (show w.heap.size ≤ w.heap.size + 2 by omega))
      have hcx := (hbw.cell (p := ⟨ba, oa + k, none⟩) hba).trans (hca k (by have := HN.out; omega))
      obtain ⟨xl, xu⟩ := HZ.out k
      have hf := HF.out k
      generalize zs.getD k 0 = x at hcx xl xu hf
      obtain ⟨R, hR⟩ : ∃ R, F k = R := ⟨_, rfl⟩
      rw [hR] at hf
      have HFX := Lib.hid hR
      have HRR := Lib.hid hf.symm
      have HBW := Lib.hid hbw
      have hsz : w.heap.size + 1 + 1 < wr.heap.size := Kit.block_lt_of_own HO.out
      clear hR hf hca hbw
      obtain ⟨q, hq⟩ : ∃ q : Nat, x + 128 = q := ⟨(x + 128).toNat, by omega⟩
      have hqt := (HBW.out.cell (p := ⟨g0, q, none⟩) hg0).trans (HTT.out q (by omega))
      have hTR : T q = R := by rw [← HRR.out]; congr 1; omega
      rw [hTR] at hqt
      have HQ := Lib.hid hq
      have HQT := Lib.hid hqt
      clear hq hqt hTR
      go_wp2_with (go_at_call 24; (refine (byc_to x q HQ.out xl xu R g0 wr HQT.out).mono ?_); rintro e w3 ⟨rfl, hb⟩; (have ho3 := Kit.own_below HO.out hb); (have ks : w3.cell? ⟨w.heap.size + 1 + 1, k, none⟩ = some (.int .i8 (madeA F k k)) := (ho3.cellAt k (by omega)).trans (i8_at _ hlt)); (have fs : w3.frozen? ⟨w.heap.size + 1 + 1, k, none⟩ = false := ho3.frozenAt k); (have hst := (ho3.stored k (.int .i8 R)).1); (rw [madeA_set F R HFX.out] at hst); (have HST := Lib.hid hst); (have HB3 := Lib.hid (HB.out.trans (hb.mono (by omega)))); clear hst hb ho3)
      go_roundw
      case rel => exact ⟨k + 1, by omega, by go_num, Lib.hid HST.out, Lib.hid (HB3.out.setCell (p := ⟨w.heap.size + 1 + 1, k, none⟩) (by show w.heap.size + 2 ≤ w.heap.size + 1 + 1; omega) _)⟩
      case measure => simp [intOf]; omega
    · obtain rfl : k = n := by omega
      have hfin := HO.out
      rw [madeA_all] at hfin
      have HFI := Lib.hid hfin
      obtain ⟨t0, t1, t2, t3⟩ := TB.out.below (by omega) HB.out
      obtain ⟨⟨z0, z1', z2', z3⟩, z4, z5, z6, z7⟩ := FR.out.below (show w.heap.size + 1 < w.heap.size + 2 by omega) HB.out
      have HBW9 := Lib.hid (HB0.out.trans (HB.out.mono (by omega)))
      clear hfin HO HB
      go_wp2_with fail
      refine bodyPost_ret (Kit.results_c rfl _ _ (w.heap.size + 1) 0 [.int .i64 H, .int .i64 W, .int .i64 C, .slice (some ⟨w.heap.size + 1 + 1, 0, none⟩) k k] _ rfl (range_4 (by go_cell) (by go_cell) (by go_cell) (by go_cell)) Try.underlying26 rfl (by kernel_rfl)) rfl ?_
      refine ⟨_, rfl, Kit.own_base (own_set4 HFI.out ?_) ?_, ?_⟩
      any_goals (first | omega | (simp; done) | (simp; omega))
      exact (((HBW9.out.setCell (p := ⟨w.heap.size + 1, 0, none⟩) (by simp) _).setCell (p := ⟨w.heap.size + 1, 1, none⟩) (by simp) _).setCell (p := ⟨w.heap.size + 1, 2, none⟩) (by simp) _).setCell (p := ⟨w.heap.size + 1, 3, none⟩) (by simp) _
end Go.Proofs.Ytpokeklphmfcnaa.CAct
