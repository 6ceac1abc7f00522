/- Layer 15 (wheel): the contract of the code's sums of rows that are equally long and have places. -/
import Derived.Test.YtceejjliboiciaaWheelAdded
namespace Go.Proofs.Ytceejjliboiciaa.CWheel
open Go Go.ChangeShapes Go.WideShapes Go.ChangeAt Go.RowKit
open FloatNum CFour
set_option linter.unusedVariables false

/-- three cells of block g. -/
def Three (g : Nat) (a b c : Value) (w : World) : Prop := w.cell? ⟨g, 0, none⟩ = some a ∧ w.cell? ⟨g, 1, none⟩ = some b ∧ w.cell? ⟨g, 2, none⟩ = some c ∧ g < w.heap.size
def set3 (g : Nat) (a b c : Value) (w : World) : World := ((w.setCell ⟨g, 0, none⟩ a).setCell ⟨g, 1, none⟩ b).setCell ⟨g, 2, none⟩ c
theorem there3 (w : World) (v : Value) (T : TypeId) : (w.alloc (.cells #[v, v, v] T)).there w.heap.size 0 3 := fun j hj => by
  rw [Nat.zero_add]
  rcases j with _ | _ | _ | j
  · exact ⟨by go_cell, by go_cell⟩
  · exact ⟨by go_cell, by go_cell⟩
  · exact ⟨by go_cell, by go_cell⟩
  · omega
theorem Three.new (w : World) (v a b c : Value) (T : TypeId) : Three w.heap.size a b c (set3 w.heap.size a b c (w.alloc (.cells #[v, v, v] T))) := by
  have h := there3 w v T
  unfold set3
  refine ⟨?_, ?_, ?_, by simp⟩
  · rw [World.cell?_setCell_other _ _ _ _ (by intro q; cases q), World.cell?_setCell_other _ _ _ _ (by intro q; cases q)]
    exact World.cell?_setCell_same' _ _ _ (h 0 (by omega)).1
  · rw [World.cell?_setCell_other _ _ _ _ (by intro q; cases q)]
    refine World.cell?_setCell_same' _ _ _ ?_
    rw [World.cell?_setCell_other _ _ _ _ (by intro q; cases q)]; exact (h 1 (by omega)).1
  · refine World.cell?_setCell_same' _ _ _ ?_
    rw [World.cell?_setCell_other _ _ _ _ (by intro q; cases q), World.cell?_setCell_other _ _ _ _ (by intro q; cases q)]; exact (h 2 (by omega)).1
theorem below_set3 {B g : Nat} {a w : World} (h : Below B a w) (hg : B ≤ g) (x y z : Value) : Below B a (set3 g x y z w) := ((h.setCell (p := ⟨g, 0, none⟩) hg x).setCell (p := ⟨g, 1, none⟩) hg y).setCell (p := ⟨g, 2, none⟩) hg z
theorem one3 (a b c : Int) : (#[Value.int .i8 a, .int .i8 b, .int .i8 c].all (·.oneCell')) = true :=
  all_oneCell_toArray (cs := [Value.int .i8 a, .int .i8 b, .int .i8 c]) (by intro v hv; simp at hv; rcases hv with rfl | rfl | rfl <;> rfl)
theorem one2 (a b : Int) : (#[Value.int .i64 a, .int .i64 b].all (·.oneCell')) = true :=
  all_oneCell_toArray (cs := [Value.int .i64 a, .int .i64 b]) (by intro v hv; simp at hv; rcases hv with rfl | rfl <;> rfl)
theorem oneL {S : Nat → Value} {p : Nat → G} (h : ∀ i, i < 4 → IsC (S i) (p i)) : ∀ u ∈ [S 0, S 1, S 2, S 3], u.oneCell' = true := by
  have := oneC h
  simp at this
  intro u hu
  simp at hu
  rcases hu with rfl | rfl | rfl | rfl
  · exact this.1
  · exact this.2.1
  · exact this.2.2.1
  · exact this.2.2.2
theorem Two.rd {g : Nat} {a b : Value} {w : World} (h : Two g a b w) : Kit.Rd w w.heap.size (some ⟨g, 0, none⟩) [a, b] := fun j v hj => by
  refine ⟨_, rfl, h.2.2.2, ?_⟩
  rw [Go.WideShapes.add_plain]
  match j, hj with
  | 0, hj => simpa [← hj] using h.1
  | 1, hj => simpa [← hj] using h.2.1
theorem own_block_sums {w : World} {e : TypeId} {g c n : Nat} {xs : List Value} (h : w.ownsRow g e 1 (.slice (some ⟨g, 0, none⟩) n c) n xs) : g < w.heap.size := Kit.block_lt_of_own h

set_option maxRecDepth 100000 in
set_option maxHeartbeats 8000000 in
theorem added_yes (A : Option Addr) (rows : List (List Int)) (n cA : Nat) (AW : Option Addr) (cW : Nat) (W : Nat → Nat → Int) (L m : Nat) (hn : rows.length = n) (h1 : 1 ≤ n) (hN : n ≤ 1024) (hL : ∀ row ∈ rows, row.length = L) (hm : m + 2 = L) (hm1 : 1 ≤ m) (hL6 : L ≤ 1000000)
    (hX : ∀ k i, In16 (XR rows k i)) (hW : ∀ k i, InW (W k i)) (F : Nat → Int) (hF : F = mnAt (XR rows) W n) (w : World) (hr : Kit.RowsAt w w.heap.size .i16 A rows) (hw : Wts w w.heap.size AW n W) :
    Calls Try.prog 37 #[.slice A n cA, .slice AW n cW] w (Own64 w m (nums F m)) := by
  obtain ⟨ba, oa, Ak, m0, ck, rfl, hba, hca, e1, e2, e3, hrd⟩ := hr.row (i := 0) (by omega)
  have hmL : m0 = L := by rw [← e1]; exact hL _ (List.getElem_mem _)
  subst hmL
  have k1 : (0 : Int) < (n : Int) := by omega
  have k2 : IntKind.i64.wrap ((m0 : Int) - 3) = (m0 : Int) - 3 := IntWalk.i64_in _ (by omega)
  have k3 : IntKind.i64.wrap ((m0 : Int) - 3 + 1) = (m : Int) := by rw [IntWalk.i64_in _ (by omega)]; omega
  have k4 : ¬ (m : Int) < 1 := by omega
  have hm6 : m ≤ 1000000 := by omega
  rw [Nat.add_zero] at hca
  have HN := Lib.hid hn
  have HL := Lib.hid hL
  have HXX := Lib.hid hX
  have HWW := Lib.hid hW
  have HR := Lib.hid hr
  have HW := Lib.hid hw
  have HCA := Lib.hid hca
  have HMM := Lib.hid hm
  have HFF := Lib.hid hF
  obtain ⟨i0, hi0, hi1, hi2, hi3⟩ := info_parts info_i64
  obtain ⟨i4, hj0, hj1, hj2, hj3⟩ := info_parts info_c4
  have HI := Lib.hid (And.intro hi0 (And.intro hi1 (And.intro hi2 hi3)))
  have HJ := Lib.hid (And.intro hj0 (And.intro hj1 (And.intro hj2 hj3)))
  clear hrd e1 hL hr hn e3 hX hW hw hm hF hi0 hi1 hi2 hi3 hj0 hj1 hj2 hj3
  go_enter Try.func37, Try.ntmps37
  go_wp2
  refine Kit.wp_scope_once 0 rfl ?_
  go_upto_region 6 with (at_make; refine wpList_make_own _ rfl _ _ 54 rfl w.heap.size 2 i0 (.int .i64 0) 1 Try.underlying54 HI.out.1 HI.out.2.1 HI.out.2.2.1 _ _ _ m rfl rfl (by omega) (by rw [HI.out.2.2.2]; omega) (by unfold maxLen; omega) (Nat.le_refl _) ?_; intro w1 hown1 hg1)
  have HO1 := Lib.hid hown1
  have hlt1 : w.heap.size < w1.heap.size := own_block_sums hown1
  have HB1 : Hid (Below w.heap.size w w1) := Lib.hid ((Below.refl w.heap.size w).grown hg1 (Nat.le_refl _) (fun q hq => by cases hq))
  clear hown1 hg1 hca
  go_wp2_with fail
  go_loopw [6, 24] (fun v u wr => ∃ (k : Nat) (Fl : List Value), k ≤ n ∧ u = .int .i64 k ∧ Hid (WF W k Fl) ∧ Hid (wr.ownsRow (w.heap.size + 1) 101 4 v k Fl) ∧ Hid (wr.ownsRow w.heap.size 2 1 (.slice (some ⟨w.heap.size, 0, none⟩) 0 m) 0 (I64v (nums F 0))) ∧ Hid (Below w.heap.size w wr)) (fun _ u _ => n - (intOf u).toNat)
  case atStart => exact ⟨0, [], Nat.zero_le _, rfl, Lib.hid (WF.start W), Lib.hid (own_nil _ _ _ _), HO1, HB1⟩
  case round =>
    clear HO1 HB1 hlt1
    obtain ⟨k, Fl, hk, rfl, HF, HO, HS, HB⟩ := hrel
    by_cases hlt : k < n
    · have hkI : (k : Int) < (n : Int) := by omega
      have hk0 : (0 : Int) ≤ (k : Int) := by omega
      obtain ⟨bw, ow, rfl, hbw, hcw⟩ := HW.out k hlt
      have HRW := Lib.hid (range_below hcw HB.out hbw)
      have hz0 : w.heap.size < wr.heap.size := own_block_sums HS.out
      have HZ0 := Lib.hid hz0
      have hx0 := HWW.out k 0
      have hx1 := HWW.out k 1
      have hx2 := HWW.out k 2
      generalize hq0 : W k 0 = x0 at hx0 HRW
      generalize hq1 : W k 1 = x1 at hx1 HRW
      generalize hq2 : W k 2 = x2 at hx2 HRW
      have HQ := Lib.hid (And.intro hq0 (And.intro hq1 hq2))
      have HXI := Lib.hid (And.intro hx0 (And.intro hx1 hx2))
      clear hcw hq0 hq1 hq2 hx0 hx1 hx2
      go_upto_region 9 with (first
        | (refine wpList_load_mid rfl 82 (.tmp 26) rfl bw (ow + k * 3) rfl [.int .i8 x0, .int .i8 x1, .int .i8 x2] _ HRW.out Try.underlying82 rfl (by kernel_rfl) ?_)
        | (refine wpList_store_mid rfl 82 (.tmp 9) (.tmp 27) rfl wr.heap.size 0 #[.int .i8 x0, .int .i8 x1, .int .i8 x2] rfl rfl (there3 wr (.int .i8 0) 82) (by kernel_rfl) (one3 _ _ _) ?_; change wpList _ _ _ _ _ (set3 wr.heap.size (.int .i8 x0) (.int .i8 x1) (.int .i8 x2) (wr.alloc (.cells #[.int .i8 0, .int .i8 0, .int .i8 0] 82)))))
      have hal : Below wr.heap.size wr (set3 wr.heap.size (.int .i8 x0) (.int .i8 x1) (.int .i8 x2) (wr.alloc (.cells #[.int .i8 0, .int .i8 0, .int .i8 0] 82))) := below_set3 ((Below.refl wr.heap.size wr).alloc (Nat.le_refl _) (.cells #[.int .i8 0, .int .i8 0, .int .i8 0] 82)) (Nat.le_refl _) _ _ _
      obtain ⟨c0, c1, c2, hg3⟩ := Three.new wr (.int .i8 0) (.int .i8 x0) (.int .i8 x1) (.int .i8 x2) 82
      replace HO := Lib.hid (Kit.own_below HO.out hal)
      replace HS := Lib.hid (Kit.own_below HS.out hal)
      replace HB := Lib.hid (HB.out.trans (hal.mono HB.out.size))
      generalize set3 wr.heap.size (.int .i8 x0) (.int .i8 x1) (.int .i8 x2) (wr.alloc (.cells #[.int .i8 0, .int .i8 0, .int .i8 0] 82)) = w2 at c0 c1 c2 hg3 HO HS HB ⊢
      clear hal HRW hz0
      go_wp2_with (first
        | (go_at_call 54; refine (rolled_to x0 x1 x2 HXI.out.1 HXI.out.2.1 HXI.out.2.2 _).mono ?_; rintro e w3' ⟨⟨S, rfl, hS⟩, hb⟩; have HSS := Lib.hid hS; replace HO := Lib.hid (Kit.own_below HO.out hb); replace HS := Lib.hid (Kit.own_below HS.out hb); replace HB := Lib.hid (HB.out.trans (hb.mono HB.out.size)); clear hb hS)
        | (at_builtin; refine Kit.wpList_append_rd _ rfl (.tmp 28) (.tmp 31) _ rfl (w.heap.size + 1) 101 i4 (.agg #[z0, z0, z0, z0]) 4 64 Try.underlying99 HJ.out.1 HJ.out.2.1 HJ.out.2.2.1 HJ.out.2.2.2 rfl (by decide) _ k Fl rfl (Kit.own_below HO.out ((Below.refl _ _).alloc (Nat.le_refl _) _)) _ _ 1 1 [S 0, S 1, S 2, S 3] rfl rfl (Kit.Rd.new _ _ _ (Nat.lt_succ_self _)) ?_ ?_ ?_ ?_ ?_; (exact oneL HSS.out); (unfold maxLen; omega); (omega); (have := own_block_sums HS.out; simp; omega); intro v2 w4 hown2 hg2 hat2; have hS4 := (Kit.own_below HS.out ((Below.refl w3'.heap.size w3').alloc (Nat.le_refl _) (.cells #[S 0, S 1, S 2, S 3] 101))).kept hg2 (.inr (fun e => absurd (Kit.own_block_ge HO.out w.heap.size e.symm) (Nat.not_succ_le_self _))); have hB4 : Below w.heap.size w w4 := (HB.out.alloc HB.out.size _).grown hg2 (by have := HB.out.size; simp; omega) (fun q hq => by have := Kit.own_block_ge HO.out q hq; omega); have HF2 := Lib.hid (HF.out.step (S := S) (by rw [HQ.out.1, HQ.out.2.1, HQ.out.2.2]; exact HSS.out)); have HO4 := Lib.hid hown2; have HS4 := Lib.hid hS4; have HB4 := Lib.hid hB4; clear hS4 hB4 hown2 hg2 hat2 c0 c1 c2 hg3))
      go_roundw
      case rel => exact ⟨k + 1, _, by omega, by go_num, HF2, HO4, HS4, HB4⟩
      case measure => simp [intOf]; omega
    · obtain rfl : k = n := by omega
      obtain ⟨gW, capW, rfl, hgW, hc1, hc2, hrw⟩ := Kit.own_form HO.out (by omega)
      have hwa := WhAt.of HF.out hrw (Kit.block_lt_of_own HO.out)
      have HWA := Lib.hid hwa
      have hnw : ¬ w.heap.size = gW := by omega
      have hca := (HB.out.cell (p := ⟨ba, oa, none⟩) hba).trans HCA.out
      obtain ⟨Bn, hBn⟩ : ∃ Bn, (m0 - 1) / 2 = Bn := ⟨_, rfl⟩
      have hBi : (Bn : Int) = if (m0 : Int) < 3 then 0 else ((m0 : Int) - 1) / 2 := by have := HMM.out; rw [if_neg (by omega)]; omega
      have HBI := Lib.hid hBi
      have hBb : 2 * Bn ≤ m + 1 ∧ m ≤ 2 * Bn := by have := HMM.out; omega
      have HBN := Lib.hid hBb
      clear hrw hwa hBi HF HO hBn hBb hc1 hc2
      go_wp2_with (go_at_call 55; refine (blocks_to (m0 : Int) (by omega) (by omega) (Bn : Int) HBI.out _).mono ?_; rintro e w2 ⟨rfl, rfl⟩)
      clear hca
      go_loopw [5, 39] (fun v u wx => ∃ (b s : Nat), b ≤ Bn ∧ u = .int .i64 b ∧ s = min (b * 2) m ∧ Hid (wx.ownsRow w.heap.size 2 1 v s (I64v (nums F s))) ∧ Hid (WhAt wx gW k W) ∧ Hid (v.ownBlock ≠ some gW) ∧ Hid (Below w.heap.size w wx)) (fun _ u _ => Bn - (intOf u).toNat)
      case atStart => exact ⟨0, 0, Nat.zero_le _, rfl, by simp, HS, HWA, Lib.hid (fun e => hnw (Option.some.inj e)), HB⟩
      case round =>
        clear HS HWA HB
        obtain ⟨b, s, hb, rfl, hs, HO, HWA, HNE, HB⟩ := hrel
        have hB2 := HBN.out
        by_cases hlt2 : b < Bn
        · obtain ⟨f, hf⟩ : ∃ f, b * 2 = f := ⟨_, rfl⟩
          obtain rfl : s = f := by omega
          have k5 : IntKind.i64.wrap ((b : Int) * 2) = (s : Int) := by rw [IntWalk.i64_in _ (by omega)]; omega
          have k6 : (b : Int) < (Bn : Int) := by omega
          have hsm : s < m := by omega
          obtain ⟨As, cs, rfl, hs1, hs2, hs3⟩ := Kit.own_rd HO.out
          obtain ⟨y0, hy0⟩ : ∃ y, F s = y := ⟨_, rfl⟩
          obtain ⟨y1, hy1⟩ : ∃ y, F (s + 1) = y := ⟨_, rfl⟩
          have HY0 := Lib.hid hy0
          have HY1 := Lib.hid hy1
          have HSB := Lib.hid (And.intro hf hs)
          have HFM : Hid (s + 3 ≤ m0) := Lib.hid (by have := HMM.out; omega)
          clear hs3 hy0 hy1 hf hs
          go_upto_region 15 with (first
            | (go_at_call 57; refine (turned_to (some ⟨ba, oa, none⟩) rows k cA (some ⟨gW, 0, none⟩) capW W m0 s HN.out hN HL.out HFM.out HXX.out HWW.out _ ((HR.out.below HB.out).more HB.out.size) HWA.out.wheels).mono ?_; rintro e w2 ⟨⟨S, p, rfl, hS, hT⟩, hbb⟩; have HSS := Lib.hid hS; have HTT := Lib.hid hT; replace HO := Lib.hid (Kit.own_below HO.out hbb); replace HWA := Lib.hid (HWA.out.below hbb HWA.out.1); replace HB := Lib.hid (HB.out.trans (hbb.mono HB.out.size)); clear hbb hS hT)
            | (go_at_call 56; refine (unrolled_to S p (k * 134217728) (by omega) HSS.out HTT.out.bound _ HTT.out.back y0 y1 (by rw [← HY0.out, HFF.out]; rfl) (by rw [← HY1.out, HFF.out]; rfl) _).mono ?_; rintro e w3' ⟨rfl, hbb⟩; replace HO := Lib.hid (Kit.own_below HO.out hbb); replace HWA := Lib.hid (HWA.out.below hbb HWA.out.1); replace HB := Lib.hid (HB.out.trans (hbb.mono HB.out.size)); clear hbb)
            | (refine wpList_store_mid rfl 103 (.tmp 11) (.tmp 47) rfl w3'.heap.size 0 #[.int .i64 y0, .int .i64 y1] rfl rfl (Two.new w3' (.int .i64 0) (.int .i64 0) 103).there (by kernel_rfl) (one2 _ _) ?_; change wpList _ _ _ _ _ (CFour.set2 w3'.heap.size (.int .i64 y0) (.int .i64 y1) (w3'.alloc (.cells #[.int .i64 0, .int .i64 0] 103)))))
          have hal : Below w3'.heap.size w3' (CFour.set2 w3'.heap.size (.int .i64 y0) (.int .i64 y1) (w3'.alloc (.cells #[.int .i64 0, .int .i64 0] 103))) := below_set2 ((Below.refl w3'.heap.size w3').alloc (Nat.le_refl _) (.cells #[.int .i64 0, .int .i64 0] 103)) (Nat.le_refl _) _ _
          have h103 := (Two.new w3' (.int .i64 0) (.int .i64 0) 103).set2 (.int .i64 y0) (.int .i64 y1)
          replace HO := Lib.hid (Kit.own_below HO.out hal)
          replace HWA := Lib.hid (HWA.out.below hal HWA.out.1)
          replace HB := Lib.hid (HB.out.trans (hal.mono HB.out.size))
          generalize CFour.set2 w3'.heap.size (.int .i64 y0) (.int .i64 y1) (w3'.alloc (.cells #[.int .i64 0, .int .i64 0] 103)) = w4 at h103 HO HWA HB ⊢
          have H103 := Lib.hid (Two.rd h103)
          clear hal h103
          by_cases h2 : s + 2 ≤ m
          · have q1 : IntKind.i64.wrap ((m : Int) - (s : Int)) = (m : Int) - (s : Int) := IntWalk.i64_in _ (by omega)
            have q2 : (2 : Int) ≤ (m : Int) - (s : Int) := by omega
            have q3 : ¬ (m : Int) - (s : Int) < 2 := by omega
            go_wp2_with (at_builtin; refine Kit.wpList_append_rd _ rfl (.tmp 48) (.tmp 54) _ rfl w.heap.size 2 i0 (.int .i64 0) 1 8 Try.underlying54 HI.out.1 HI.out.2.1 HI.out.2.2.1 HI.out.2.2.2 rfl (by decide) _ s (I64v (nums F s)) rfl HO.out _ _ 2 2 [.int .i64 y0, .int .i64 y1] rfl rfl H103.out ?_ ?_ ?_ ?_ ?_; (exact (Kit.ints_one .i64 [y0, y1])); (unfold maxLen; omega); (omega); (exact HB.out.size); intro v2 w5 hown2 hg2 hat2)
            have hne2 : v2.ownBlock ≠ some gW := by
              rcases hat2 with h | h
              · rw [h]; exact HNE.out
              · rw [h]; intro e; have := HWA.out.1; have e2 := Option.some.inj e; omega
            have HWA5 := Lib.hid (HWA.out.grown hg2 HNE.out)
            have HB5 : Hid (Below w.heap.size w w5) := Lib.hid (HB.out.grown hg2 HB.out.size (fun q hq => Kit.own_block_ge HO.out q hq))
            have e5 : I64v (nums F s) ++ [.int .i64 y0, .int .i64 y1] = I64v (nums F (s + 2)) := by rw [show s + 2 = s + 1 + 1 from rfl]; simp only [nums_succ, List.map_append, List.append_assoc]; rw [HY0.out, HY1.out]; rfl
            rw [e5] at hown2
            have HO5 := Lib.hid hown2
            have HNE5 := Lib.hid hne2
            clear hown2 hg2 hat2 hne2 e5
            go_roundw
            case rel => exact ⟨b + 1, s + 2, by omega, by go_num, by have := HSB.out; omega, HO5, HWA5, HNE5, HB5⟩
            case measure => simp [intOf]; omega
          · have q1 : IntKind.i64.wrap ((m : Int) - (s : Int)) = 1 := by rw [IntWalk.i64_in _ (by omega)]; omega
            go_wp2_with (at_builtin; refine Kit.wpList_append_rd _ rfl (.tmp 48) (.tmp 54) _ rfl w.heap.size 2 i0 (.int .i64 0) 1 8 Try.underlying54 HI.out.1 HI.out.2.1 HI.out.2.2.1 HI.out.2.2.2 rfl (by decide) _ s (I64v (nums F s)) rfl HO.out _ _ 1 2 [.int .i64 y0] rfl rfl (H103.out.take 1) ?_ ?_ ?_ ?_ ?_; (exact (Kit.ints_one .i64 [y0])); (unfold maxLen; omega); (omega); (exact HB.out.size); intro v2 w5 hown2 hg2 hat2)
            have hne2 : v2.ownBlock ≠ some gW := by
              rcases hat2 with h | h
              · rw [h]; exact HNE.out
              · rw [h]; intro e; have := HWA.out.1; have e2 := Option.some.inj e; omega
            have HWA5 := Lib.hid (HWA.out.grown hg2 HNE.out)
            have HB5 : Hid (Below w.heap.size w w5) := Lib.hid (HB.out.grown hg2 HB.out.size (fun q hq => Kit.own_block_ge HO.out q hq))
            have e5 : I64v (nums F s) ++ [.int .i64 y0] = I64v (nums F (s + 1)) := by rw [nums_succ, HY0.out]; show _ = (nums F s ++ [y0]).map _; rw [List.map_append]; rfl
            rw [e5] at hown2
            have HO5 := Lib.hid hown2
            have HNE5 := Lib.hid hne2
            clear hown2 hg2 hat2 hne2 e5
            go_roundw
            case rel => exact ⟨b + 1, s + 1, by omega, by go_num, by have := HSB.out; omega, HO5, HWA5, HNE5, HB5⟩
            case measure => simp [intOf]; omega
        · obtain rfl : b = Bn := by omega
          obtain rfl : s = m := by omega
          obtain ⟨As, cs, rfl, -, -, -⟩ := Kit.own_rd HO.out
          go_wp2
          go_step3
          go_wp2
          go_ret
          exact ⟨_, rfl, HO.out, HB.out⟩
end Go.Proofs.Ytceejjliboiciaa.CWheel
