/- Layer 19 (pool): the mean of each channel (code). -/
import Derived.Test.YtccngjgbhbeobaaPoolChan
namespace Go.Proofs.Ytccngjgbhbeobaa.CPool
open Go Go.ChangeShapes Go.WideShapes Go.ChangeAt Go.RowKit
open Plain CSat CShape CTensor CConv
set_option linter.unusedVariables false

def I64v (zs : List Int) : List Value := zs.map (.int .i64)
theorem i64_at (F : Nat → Int) {d r : Nat} (h : r < d) : (I64v (rowL F d))[r]? = some (.int .i64 (F r)) := by simp [I64v, rowL, h]
theorem i8_at (F : Nat → Int) {d r : Nat} (h : r < d) : (I8s (rowL F d))[r]? = some (.int .i8 (F r)) := by simp [I8s, rowL, h]
/-- each channel's sum, of the first k numbers. -/
def sumsF (zs : List Int) (d k c : Nat) : Int := sumL (chanK zs d c k)
theorem sums_hit (zs : List Int) {d k c : Nat} (h : k % d = c) : sumsF zs d (k + 1) c = sumsF zs d k c + zs.getD k 0 := by
  unfold sumsF
  show sumL (if k % d = c then chanK zs d c k ++ [zs.getD k 0] else chanK zs d c k) = _
  rw [if_pos h, sumL_snoc]
theorem sums_miss (zs : List Int) {d k c : Nat} (h : ¬ k % d = c) : sumsF zs d (k + 1) c = sumsF zs d k c := by
  unfold sumsF
  show sumL (if k % d = c then chanK zs d c k ++ [zs.getD k 0] else chanK zs d c k) = _
  rw [if_neg h]
theorem sums_set (zs : List Int) (d k r : Nat) (v : Int) (hr : k % d = r) (hv : sumsF zs d k r + zs.getD k 0 = v) : (I64v (rowL (sumsF zs d k) d)).set r (.int .i64 v) = I64v (rowL (sumsF zs d (k + 1)) d) := by
  refine List.ext_getElem (by simp [I64v, rowL]) fun i h1 h2 => ?_
  rw [List.getElem_set]
  by_cases e : r = i
  · subst e
    rw [if_pos rfl]
    simp only [I64v, rowL, List.getElem_map, List.getElem_range]
    rw [sums_hit zs hr, hv]
  · rw [if_neg e]
    simp only [I64v, rowL, List.getElem_map, List.getElem_range]
    rw [sums_miss zs (by omega)]
theorem sums_zero (zs : List Int) (d : Nat) : I64v (rowL (sumsF zs d 0) d) = List.replicate d (.int .i64 0) := by
  refine List.ext_getElem (by simp [I64v, rowL]) fun i h1 h2 => ?_
  simp [I64v, rowL, sumsF, chanK, sumL]
theorem sums_bd (zs : List Int) (h : I8b zs) (d k c : Nat) : -(128 * (k : Int)) ≤ sumsF zs d k c ∧ sumsF zs d k c ≤ 128 * (k : Int) := by
  have h1 := sumL_bd _ (chanK_mem zs h d c k)
  have h2 := chanK_len zs d c k
  unfold sumsF
  omega
def madeE (F : Nat → Int) (o i : Nat) : Int := if i < o then F i else 0
theorem madeE_zero (F : Nat → Int) (N : Nat) : I8s (rowL (madeE F 0) N) = List.replicate N (.int .i8 0) := by
  refine List.ext_getElem (by simp [I8s, rowL]) fun i h1 h2 => ?_
  simp [I8s, rowL, madeE]
theorem madeE_all (F : Nat → Int) (N : Nat) : rowL (madeE F N) N = rowL F N := rowL_congr (fun i hi => by unfold madeE; rw [if_pos hi])
theorem madeE_set (F : Nat → Int) {N o : Nat} (v : Int) (hv : F o = v) : (I8s (rowL (madeE F o) N)).set o (.int .i8 v) = I8s (rowL (madeE F (o + 1)) N) := by
  refine List.ext_getElem (by simp [I8s, rowL]) fun i h1 h2 => ?_
  rw [List.getElem_set]
  by_cases e : o = i
  · subst e
    rw [if_pos rfl]
    simp [I8s, rowL, madeE, hv]
  · rw [if_neg e]
    simp only [I8s, rowL, List.getElem_map, List.getElem_range, madeE]
    congr 1
    by_cases h : i < o
    · rw [if_pos h, if_pos (by omega)]
    · rw [if_neg h, if_neg (by omega)]
theorem info_i64p : (Try.prog.info? 3).map (fun i => (i.zero, i.size, i.bytes)) = some (some (.int .i64 0), 1, 8) := by kernel_rfl
/-- a list of the call's own, handed back with an error's number. -/
def MadeL (w : World) (m : Nat) (xs : List Int) (x : Value) (e : Ending) (w' : World) : Prop :=
  ∃ v, e = .returned (.tuple #[v, x]) ∧ w'.ownsRow w.heap.size 30 1 v m (I8s xs) ∧ Below w.heap.size w w'
set_option maxHeartbeats 2000000 in
theorem all_bad (H W C : Int) (A : Option Addr) (n c : Nat) (ht : tensB H W C n = false) (w : World) :
    Calls Try.prog 14 #[.agg #[.int .i64 H, .int .i64 W, .int .i64 C, .slice A n c]] w fun e w' => e = .returned (.tuple #[.slice none 0 0, .int .i64 5]) ∧ Below w.heap.size w w' := by
  have HT := Lib.hid ht
  clear ht
  go_enter Try.func14, Try.ntmps14
  go_wp2_with (go_at_call 25; (refine (right_to H W C A n c false HT.out _).mono ?_); (rintro e w1 ⟨rfl, hb⟩))
  go_ret2
  exact ⟨rfl, ((Below.refl _ _).alloc (Nat.le_refl _) _).trans (hb.mono (by simp))⟩
set_option maxRecDepth 100000 in
set_option maxHeartbeats 8000000 in
theorem all_yes (H W : Int) (d hw : Nat) (A : Option Addr) (zs : List Int) (n c : Nat) (hn : zs.length = n) (hz : I8b zs) (ht : tensB H W (d : Int) n = true) (hn2 : n ≤ 1024) (hhw : H * W = (hw : Int)) (F : Nat → Int) (hF : ∀ q, F q = IntKind.i8.wrap (nearZ (sumsF zs d n q) (hw : Int)))
    (w : World) (hr : Kit.Rd w w.heap.size A (I8s zs)) :
    Calls Try.prog 14 #[.agg #[.int .i64 H, .int .i64 W, .int .i64 (d : Int), .slice A n c]] w (MadeL w d (rowL F d) (.int .i64 0)) := by
  obtain ⟨hs, hN⟩ : shapeB H W (d : Int) = true ∧ (n : Int) = H * W * (d : Int) := by simpa [tensB] using ht
  obtain ⟨g1, g2, g3, g4, g5, g6, g7⟩ := shapeB_yes hs
  have hn1 : 0 < n := by
    have : 0 < H * W * (d : Int) := Int.mul_pos (Int.mul_pos (by omega) (by omega)) (by omega)
    omega
  have hw1 : (1 : Int) ≤ (hw : Int) := by
    have : 0 < H * W := Int.mul_pos (by omega) (by omega)
    omega
  have hw2 : (hw : Int) ≤ 1048576 := by
    rw [← hhw]
    exact Int.le_trans (Int.mul_le_mul (show H ≤ 1024 by omega) (show W ≤ 1024 by omega) (by omega) (by omega)) (by omega)
  obtain ⟨bb, ob, rfl, hbb, hcb⟩ := ints_getD hr (j := 0) (by omega)
  obtain ⟨i0, hi0, hi1, hi2, hi3⟩ := info_parts32 info_i64p
  obtain ⟨j0, hj0, hj1, hj2, hj3⟩ := info_parts32 info_i8p
  have hmul : IntKind.i64.wrap (H * W) = (hw : Int) := by rw [hhw]; exact IntWalk.i64_in _ (by omega)
  have HT := Lib.hid ht
  have HN := Lib.hid hn
  have HZ := Lib.hid hz
  have HF := Lib.hid hF
  have HCB := Lib.hid hcb
  have HI := Lib.hid (And.intro hi0 (And.intro hi1 (And.intro hi2 hi3)))
  have HJ := Lib.hid (And.intro hj0 (And.intro hj1 (And.intro hj2 hj3)))
  have hd1 : 1 ≤ d := by omega
  have hd2 : d ≤ 1024 := by omega
  have hd0 : ¬ (d : Int) = 0 := by omega
  have hdz : ((d : Int) == 0) = false := by simp; omega
  have hdp : (0 : Int) ≤ (d : Int) := by omega
  clear hcb ht hn hz hF hr hs hN g7 hhw hi0 hi1 hi2 hi3 hj0 hj1 hj2 hj3
  go_enter Try.func14, Try.ntmps14
  go_wp2_with (first
    | (go_at_call 25
       have hal : Below w.heap.size w (w.alloc (.cells #[.int .i64 H, .int .i64 W, .int .i64 (d : Int), .slice (some ⟨bb, ob, none⟩) n c] 29)) := (Below.refl _ _).alloc (by first | exact Nat.le_refl _ | (simp; done) | (simp; omega)) _
       refine (right_to H W (d : Int) (some ⟨bb, ob, none⟩) n c true HT.out _).mono ?_
       rintro e w1 ⟨rfl, hb⟩
       have hh : Below w.heap.size w w1 := hal.trans (hb.mono hal.size)
       have qTB := (boxNew H W (d : Int) (some ⟨bb, ob, none⟩) n c 29) w
       try simp only [World.size_alloc] at qTB
       have TB := Lib.hid (qTB.below (by first | (simp; done) | (simp; omega)) hb)
       have yTB : w.heap.size < w1.heap.size := by have := hb.size; simp at this; omega
       clear qTB
       have HBW : Hid (Below w.heap.size w w1) := Lib.hid hh
       obtain ⟨tbp0, tbp1, tbp2, tbp3⟩ := TB.out
       clear hb hh hal)
    | (at_make; refine wpList_make_full _ rfl (.tmp 15) (.tmp 15) _ rfl w1.heap.size 3 i0 (.int .i64 0) 1 Try.underlying58 HI.out.1 HI.out.2.1 HI.out.2.2.1 .i64 .i64 _ _ d rfl rfl rfl rfl (by rw [HI.out.2.2.2]; omega) (by unfold maxLen; omega) (Nat.le_refl _) ?_; (intro w2 hown hg2; have hb2 : Below w1.heap.size w1 w2 := (Below.refl _ _).grown hg2 (Nat.le_refl _) (fun q hq => by cases hq); rw [show (madeCells (Value.int IntKind.i64 0).cells (d * 1)).toList = List.replicate d (.int .i64 0) by rw [Nat.mul_one]; exact toList_madeCells_one _ _] at hown; rw [← sums_zero zs d] at hown; have HOWN := Lib.hid hown; replace TB := Lib.hid (TB.out.below yTB hb2); replace HBW := Lib.hid (HBW.out.trans (hb2.mono HBW.out.size)); have hs2 := hb2.size; clear hown hg2 hb2 tbp0 tbp1 tbp2 tbp3; obtain ⟨tbp0, tbp1, tbp2, tbp3⟩ := TB.out)))
  generalize w1.heap.size = q1 at HOWN TB HBW hs2 yTB ⊢
  go_loopw [20] (fun u wr => ∃ k : Nat, k ≤ n ∧ u = .int .i64 k ∧ Hid (wr.ownsRow q1 3 1 (.slice (some ⟨q1, 0, none⟩) d d) d (I64v (rowL (sumsF zs d k) d))) ∧ Hid (Below q1 w2 wr) ∧ q1 ≤ wr.heap.size) (fun u _ => n - (intOf u).toNat)
  case atStart => exact ⟨0, Nat.zero_le _, rfl, HOWN, Lib.hid (Below.refl _ _), hs2⟩
  case round =>
    obtain ⟨k, hk, rfl, HO, HB, hsz⟩ := hrel
    clear HOWN tbp0 tbp1 tbp2 tbp3
    by_cases hlt : k < n
    · have hkI : (k : Int) < (n : Int) := by omega
      have hk0 : (0 : Int) ≤ (k : Int) := by omega
      have hbw := HBW.out.trans (HB.out.mono (show w.heap.size ≤ q1 by omega))
      have hcx := (hbw.cell (p := ⟨bb, ob + k, none⟩) hbb).trans (HCB.out k (by rw [HN.out]; exact hlt))
      obtain ⟨r, hrm⟩ : ∃ r, k % d = r := ⟨_, rfl⟩
      have hrd : r < d := by rw [← hrm]; exact Nat.mod_lt _ (by omega)
      have htm : (k : Int).tmod (d : Int) = (r : Int) := by rw [Int.tmod_eq_emod_of_nonneg hk0, ← hrm]; simp
      have hwr : IntKind.i64.wrap (r : Int) = (r : Int) := IntWalk.i64_in _ (by omega)
      have hr0 : (0 : Int) ≤ (r : Int) := by omega
      have hrI : (r : Int) < (d : Int) := by omega
      have ks : wr.cell? ⟨q1, r, none⟩ = some (.int .i64 (sumsF zs d k r)) := (HO.out.cellAt r (by omega)).trans (i64_at _ hrd)
      have fs : wr.frozen? ⟨q1, r, none⟩ = false := HO.out.frozenAt r
      obtain ⟨b1, b2⟩ := sums_bd zs HZ.out d k r
      obtain ⟨y1, y2⟩ := HZ.out k
      obtain ⟨v, hv⟩ : ∃ v, sumsF zs d k r + zs.getD k 0 = v := ⟨_, rfl⟩
      have hst := (HO.out.stored r (.int .i64 v)).1
      rw [sums_set zs d k r v hrm hv] at hst
      have HST := Lib.hid hst
      generalize zs.getD k 0 = y at hcx y1 y2 hv
      generalize sumsF zs d k r = s0 at ks b1 b2 hv
      have e1 : IntKind.i64.wrap y = y := IntWalk.i64_in _ (by omega)
      have e2 : IntKind.i64.wrap (s0 + y) = v := by rw [IntWalk.i64_in _ (by omega), hv]
      clear hst hrm hbw
      go_wp2_with fail
      go_roundw
      case rel => exact ⟨k + 1, by omega, by go_num, HST, Lib.hid (HB.out.setCell (p := ⟨q1, r, none⟩) (Nat.le_refl _) _), by simp; exact hsz⟩
      case measure => simp [intOf]; omega
    · obtain rfl : k = n := by omega
      go_wp2_with (at_make; refine wpList_make_full _ rfl (.tmp 38) (.tmp 38) _ rfl wr.heap.size 30 j0 (.int .i8 0) 1 Try.underlying27 HJ.out.1 HJ.out.2.1 HJ.out.2.2.1 .i64 .i64 _ _ d rfl rfl rfl rfl (by rw [HJ.out.2.2.2]; omega) (by unfold maxLen; omega) (Nat.le_refl _) ?_; (intro w3 hown hg3; have hb3 : Below wr.heap.size wr w3 := (Below.refl _ _).grown hg3 (Nat.le_refl _) (fun q hq => by cases hq); rw [show (madeCells (Value.int IntKind.i8 0).cells (d * 1)).toList = List.replicate d (.int .i8 0) by rw [Nat.mul_one]; exact toList_madeCells_one _ _] at hown; rw [← madeE_zero F d] at hown; have HOWN3 := Lib.hid hown; have HO3 := Lib.hid (Kit.own_below HO.out hb3); have HBW3 := Lib.hid ((HBW.out.trans (HB.out.mono (show w.heap.size ≤ q1 by omega))).trans (hb3.mono (show w.heap.size ≤ wr.heap.size by omega))); have TB3 := Lib.hid ((TB.out.below (show w.heap.size < q1 by omega) HB.out).below (show w.heap.size < wr.heap.size by omega) hb3); have hs3 := hb3.size; have q1g : q1 < wr.heap.size := Kit.block_lt_of_own HO.out; clear hown hg3 hb3))
      generalize wr.heap.size = q2 at HOWN3 q1g hs3 hsz ⊢
      go_loopw [42] (fun u wr => ∃ o : Nat, o ≤ d ∧ u = .int .i64 o ∧ Hid (wr.ownsRow q2 30 1 (.slice (some ⟨q2, 0, none⟩) d d) d (I8s (rowL (madeE F o) d))) ∧ Hid (Below q2 w3 wr)) (fun u _ => d - (intOf u).toNat)
      case atStart => exact ⟨0, Nat.zero_le _, rfl, HOWN3, Lib.hid (Below.refl _ _)⟩
      case round =>
        obtain ⟨o, ho, rfl, HP, HB2⟩ := hrel
        clear HOWN3
        by_cases hlto : o < d
        · have ho0 : (0 : Int) ≤ (o : Int) := by omega
          have hoI : (o : Int) < (d : Int) := by omega
          have ks := (HB2.out.cell (p := ⟨q1, o, none⟩) q1g).trans ((HO3.out.cellAt o (by omega)).trans (i64_at _ hlto))
          obtain ⟨t0, t1, t2, t3⟩ := TB3.out.below (show w.heap.size < q2 by omega) HB2.out
          obtain ⟨b1, b2⟩ := sums_bd zs HZ.out d k o
          have hFo := HF.out o
          generalize sumsF zs d k o = s0 at ks b1 b2 hFo
          obtain ⟨R, hR⟩ : ∃ R, nearZ s0 (hw : Int) = R := ⟨_, rfl⟩
          rw [hR] at hFo
          obtain ⟨v, hv⟩ : ∃ v, IntKind.i8.wrap R = v := ⟨_, rfl⟩
          rw [hv] at hFo
          have fs : wr.frozen? ⟨q2, o, none⟩ = false := HP.out.frozenAt o
          have kp : wr.cell? ⟨q2, o, none⟩ = some (.int .i8 (madeE F o o)) := (HP.out.cellAt o (by omega)).trans (i8_at _ hlto)
          have HRR := Lib.hid hR
          have hst := fun qn => (Kit.own_below HP.out (Kit.below_drewN (Below.refl wr.heap.size wr) qn)).stored o (.int .i8 v)
          rw [madeE_set F v hFo] at hst
          have HST := Lib.hid hst
          clear hst hR hFo
          go_wp2_with (go_at_call 7; (refine (near_to s0 (hw : Int) (by omega) (by omega) (by omega) R HRR.out _).mono ?_); rintro e w5 ⟨rfl, qn, rfl⟩)
          go_roundw
          case rel => exact ⟨o + 1, by omega, by go_num, Lib.hid (HST.out qn).1, Lib.hid ((Kit.below_drewN HB2.out qn).setCell (p := ⟨q2, o, none⟩) (Nat.le_refl _) _)⟩
          case measure => simp [intOf]; omega
        · obtain rfl : o = d := by omega
          have hfin := HP.out
          rw [madeE_all] at hfin
          have HFI := Lib.hid hfin
          clear hfin
          go_wp2_with fail
          go_ret2
          exact ⟨_, rfl, Kit.own_base HFI.out (by omega), HBW3.out.trans (HB2.out.mono (by omega))⟩
end Go.Proofs.Ytccngjgbhbeobaa.CPool
