/- For every two rows of numbers of 16 bits and all three weights: the law WheelTwice answers true (a row that is twice another one makes twice its numbers; rows one behind the other make theirs, but where they meet; and the fixed calls answer as they must), and nothing that was there before the call has turned. No conditions. -/
import Derived.Test.YtbegabagokapoaaWheelTwiceNum
import Derived.Deep.RegionHeld3
import Derived.Deep.CutRange
import Derived.BigQuiet
import Derived.Deep.QuietTactic
namespace Go.Proofs.Ytbegabagokapoaa.lawWheelTwice
open Go Go.ChangeShapes Go.WideShapes Go.ChangeAt Go.RowKit
open FloatNum CFour CWheel
set_option linter.unusedVariables false

set_option maxHeartbeats 8000000 in
theorem walk {w : World} (A : Option Addr) (xs : List Int) (cp : Nat) (hc : xs.length ≤ cp) (hcm : cp ≤ maxLen) (hw8 : ∀ n ∈ xs, (Lit.int .i16 n).wf = true) (hr : Kit.Rd w w.heap.size A (xs.map (.int .i16)))
    (AY : Option Addr) (ys : List Int) (cy : Nat) (hcy : ys.length ≤ cy) (hcmy : cy ≤ maxLen) (hw8y : ∀ n ∈ ys, (Lit.int .i16 n).wf = true) (hry : Kit.Rd w w.heap.size AY (ys.map (.int .i16)))
    (x : Int) (wx : (Lit.int .i8 x).wf = true) (y : Int) (wy : (Lit.int .i8 y).wf = true) (z : Int) (wz : (Lit.int .i8 z).wf = true) :
    Calls Try.prog 5 #[.slice A xs.length cp, .slice AY ys.length cy, .agg #[.int .i8 x, .int .i8 y, .int .i8 z]] w fun e w' => e = .returned (.bool true) ∧ Below w.heap.size w w' := by
  obtain ⟨N, hN⟩ : ∃ N, xs.length = N := ⟨_, rfl⟩
  obtain ⟨M, hM⟩ : ∃ M, ys.length = M := ⟨_, rfl⟩
  rw [hN] at hc ⊢
  rw [hM] at hcy ⊢
  by_cases hl : N ≤ 200
  · have hli : ¬ (N : Int) > 200 := by omega
    by_cases hl2 : M ≤ 200
    · have hli2 : ¬ (M : Int) > 200 := by omega
      have HN := Lib.hid hN
      have HM := Lib.hid hM
      have HWX := Lib.hid hw8
      have HWY := Lib.hid hw8y
      have HX := Lib.hid (inW wx)
      have HY := Lib.hid (inW wy)
      have HZ := Lib.hid (inW wz)
      have HCM := Lib.hid (And.intro hcm hcmy)
      have HR0 := Lib.hid hr
      have HRY0 := Lib.hid hry
      obtain ⟨i0, hi0, hi1, hi2, hi3⟩ := info_parts info_i16
      have HI := Lib.hid (And.intro hi0 (And.intro hi1 (And.intro hi2 hi3)))
      clear hN hM hw8 hw8y wx wy wz hcm hcmy hr hry hi0 hi1 hi2 hi3
      go_enter Try.func5, Try.ntmps5
      go_upto_region 3 with fail
      have hT : Three w.heap.size (.int .i8 x) (.int .i8 y) (.int .i8 z) (w.alloc (.cells #[.int .i8 x, .int .i8 y, .int .i8 z] 24)) := ⟨by go_cell, by go_cell, by go_cell, by simp⟩
      have HT := Lib.hid hT
      have HB : Hid (Below w.heap.size w (w.alloc (.cells #[.int .i8 x, .int .i8 y, .int .i8 z] 24))) := Lib.hid ((Below.refl _ _).alloc (Nat.le_refl _) _)
      have HR := Lib.hid ((HR0.out.below HB.out).more HB.out.size)
      have HRY := Lib.hid ((HRY0.out.below HB.out).more HB.out.size)
      clear hT HR0 HRY0
      generalize (w.alloc (.cells #[.int .i8 x, .int .i8 y, .int .i8 z] 24)) = w1 at HT HB HR HRY ⊢
      go_wp2_with fail
      go_loopw [7, 8] (fun v u wr => ∃ k : Nat, k ≤ N ∧ u = .int .i64 k ∧ Hid (wr.ownsRow w1.heap.size 25 1 v k (I16v (nums (tw xs) k))) ∧ Hid (Below w1.heap.size w1 wr)) (fun _ u _ => N - (intOf u).toNat)
      case atStart => exact ⟨0, Nat.zero_le _, rfl, Lib.hid (own_nil _ _ _ _), Lib.hid (Below.refl _ _)⟩
      case round =>
        obtain ⟨k, hk, rfl, HO, HBk⟩ := hrel
        by_cases hlt : k < N
        · have hkI : (k : Int) < (N : Int) := by omega
          have hk0 : (0 : Int) ≤ (k : Int) := by omega
          obtain ⟨bx, ox, rfl, hbx, -⟩ := (HR.out).plain (by simp; have := HN.out; omega)
          have hcx := (HBk.out.cell (p := ⟨bx, ox + k, none⟩) hbx).trans (rd_at HR.out (i := k) (by have := HN.out; omega))
          obtain ⟨h, hh⟩ : ∃ h, hf xs k = h := ⟨_, rfl⟩
          have hb1 := hf_in HWX.out k
          have hb2 := hf_hi HWX.out k
          rw [hh] at hb1 hb2
          have e1 : (xs.getD k 0).tdiv 2 = h := hh
          have e2 : IntKind.i16.wrap h = h := IntWalk.i16_in _ (by omega)
          have e3 : IntKind.i16.wrap (h + h) = h + h := IntWalk.i16_in _ (by omega)
          have HH := Lib.hid hh
          generalize xs.getD k 0 = u0 at hcx e1
          clear hh
          go_wp2_with (at_builtin; refine Kit.wpList_append_rd _ rfl (.tmp 38) (.tmp 42) _ rfl w1.heap.size 25 i0 (.int .i16 0) 1 2 Try.underlying22 HI.out.1 HI.out.2.1 HI.out.2.2.1 HI.out.2.2.2 rfl (by decide) _ k (I16v (nums (tw xs) k)) rfl (Kit.own_below HO.out ((Below.refl _ _).alloc (Nat.le_refl _) _)) _ _ 1 1 [.int .i16 (h + h)] rfl rfl (Kit.Rd.new _ _ _ (Nat.lt_succ_self _)) ?_ ?_ ?_ ?_ ?_; (exact Kit.ints_one .i16 [h + h]); (unfold maxLen; omega); (omega); (have := HBk.out.size; simp; omega); intro v2 w5 hown2 hg2 hat2)
          have hB5 : Below w1.heap.size w1 w5 := (HBk.out.alloc HBk.out.size _).grown hg2 (by have := HBk.out.size; simp; omega) (fun q hq => Kit.own_block_ge HO.out q hq)
          have e5 : I16v (nums (tw xs) k) ++ [.int .i16 (h + h)] = I16v (nums (tw xs) (k + 1)) := by
            rw [nums_succ]; show _ = (nums (tw xs) k ++ [tw xs k]).map _; rw [List.map_append]; unfold tw; rw [HH.out]; rfl
          rw [e5] at hown2
          have HO5 := Lib.hid hown2
          have HB5 := Lib.hid hB5
          clear hown2 hg2 hat2 e5 hB5
          go_roundw
          case rel => exact ⟨k + 1, by omega, by go_num, HO5, HB5⟩
          case measure => simp [intOf]; omega
        · obtain rfl : k = N := by omega
          obtain ⟨AT, cT, rfl, hkT, hmT, hrT⟩ := Kit.own_rd HO.out
          have HRT := Lib.hid hrT
          have HCT := Lib.hid hmT
          have HT2 := Lib.hid (HT.out.below HBk.out HT.out.2.2.2)
          have HR2 := Lib.hid ((HR.out.below HBk.out).more HBk.out.size)
          have HRY2 := Lib.hid ((HRY.out.below HBk.out).more HBk.out.size)
          have HB2 := Lib.hid (HB.out.trans (HBk.out.mono HB.out.size))
          clear HT HR HRY HB HBk HO hrT hmT
          obtain ⟨wb, rfl⟩ : ∃ wb, wb = wr := ⟨_, rfl⟩
          go_upto_region 11 with fail
          go_loopw [10, 11] (fun v u wx => ∃ t : Nat, t ≤ k ∧ u = .int .i64 t ∧ Hid (wx.ownsRow wb.heap.size 25 1 v t (I16v (nums (hf xs) t))) ∧ Hid (Below wb.heap.size wb wx)) (fun _ u _ => k - (intOf u).toNat)
          case atStart => exact ⟨0, Nat.zero_le _, rfl, Lib.hid (own_nil _ _ _ _), Lib.hid (Below.refl _ _)⟩
          case round =>
            obtain ⟨t, ht, rfl, HO, HBt⟩ := hrel
            by_cases hlt3 : t < k
            · have hkI : (t : Int) < (k : Int) := by omega
              have hk0 : (0 : Int) ≤ (t : Int) := by omega
              obtain ⟨bx, ox, rfl, hbx, -⟩ := (HR2.out).plain (by simp; have := HN.out; omega)
              have hcx := (HBt.out.cell (p := ⟨bx, ox + t, none⟩) hbx).trans (rd_at HR2.out (i := t) (by have := HN.out; omega))
              obtain ⟨h, hh⟩ : ∃ h, hf xs t = h := ⟨_, rfl⟩
              have hb1 := hf_in HWX.out t
              have hb2 := hf_hi HWX.out t
              rw [hh] at hb1 hb2
              have e1 : (xs.getD t 0).tdiv 2 = h := hh
              have e2 : IntKind.i16.wrap h = h := IntWalk.i16_in _ (by omega)
              have HH := Lib.hid hh
              generalize xs.getD t 0 = u0 at hcx e1
              clear hh
              go_wp2_with (at_builtin; refine Kit.wpList_append_rd _ rfl (.tmp 50) (.tmp 56) _ rfl wb.heap.size 25 i0 (.int .i16 0) 1 2 Try.underlying22 HI.out.1 HI.out.2.1 HI.out.2.2.1 HI.out.2.2.2 rfl (by decide) _ t (I16v (nums (hf xs) t)) rfl (Kit.own_below HO.out ((Below.refl _ _).alloc (Nat.le_refl _) _)) _ _ 1 1 [.int .i16 (h)] rfl rfl (Kit.Rd.new _ _ _ (Nat.lt_succ_self _)) ?_ ?_ ?_ ?_ ?_; (exact Kit.ints_one .i16 [h]); (unfold maxLen; omega); (omega); (have := HBt.out.size; simp; omega); intro v2 w5 hown2 hg2 hat2)
              have hB5 : Below wb.heap.size wb w5 := (HBt.out.alloc HBt.out.size _).grown hg2 (by have := HBt.out.size; simp; omega) (fun q hq => Kit.own_block_ge HO.out q hq)
              have e5 : I16v (nums (hf xs) t) ++ [.int .i16 (h)] = I16v (nums (hf xs) (t + 1)) := by
                rw [nums_succ]; show _ = (nums (hf xs) t ++ [hf xs t]).map _; rw [List.map_append]; rw [HH.out]; rfl
              rw [e5] at hown2
              have HO5 := Lib.hid hown2
              have HB5 := Lib.hid hB5
              clear hown2 hg2 hat2 e5 hB5
              go_roundw
              case rel => exact ⟨t + 1, by omega, by go_num, HO5, HB5⟩
              case measure => simp [intOf]; omega
            · obtain rfl : t = k := by omega
              obtain ⟨AH, cH, rfl, hkH, hmH, hrH⟩ := Kit.own_rd HO.out
              have HRH := Lib.hid hrH
              have HCH := Lib.hid hmH
              have HT := Lib.hid (HT2.out.below HBt.out HT2.out.2.2.2)
              have HR := Lib.hid ((HR2.out.below HBt.out).more HBt.out.size)
              have HRY := Lib.hid ((HRY2.out.below HBt.out).more HBt.out.size)
              replace HRT := Lib.hid ((HRT.out.below HBt.out).more HBt.out.size)
              have HB := Lib.hid (HB2.out.trans (HBt.out.mono HB2.out.size))
              clear HT2 HR2 HRY2 HB2 HBt HO hrH hmH
              go_wp2_with fail
              refine wp_region_held_drew (S := fun WW : World => Three w.heap.size (.int .i8 x) (.int .i8 y) (.int .i8 z) WW) (by kernel_rfl) HT.out.drew (fun hHeld => ?_)
              replace HT := Lib.hid HT.out.drew
              replace HB := Lib.hid HB.out.drew
              replace HR := Lib.hid HR.out.drew
              replace HRY := Lib.hid HRY.out.drew
              replace HRT := Lib.hid HRT.out.drew
              replace HRH := Lib.hid HRH.out.drew
              generalize hWd : wr.drew = Wd14 at HT HB HR HRY HRT HRH hHeld ⊢
              have hzd : wr.heap.size = Wd14.heap.size := by rw [← hWd]; rfl
              rw [hzd] at HR HRY HRT HRH
              clear hzd hWd
              have hY : ∀ WW : World, (Three w.heap.size (.int .i8 x) (.int .i8 y) (.int .i8 z) WW) → WW.rangeAt w.heap.size 0 [.int .i8 x, .int .i8 y, .int .i8 z] := fun WW hW => hW.range
              refine wpAnyH_take (i := 0) (oi := ({ dst := some 58, op := Op.move (Operand.tmp 10), type := 22, pos := "law.go:55", after := #[], guard := none } : Oper)) (v := ?_) rfl (by kernel_rfl) (by kernel_rfl) (by kernel_rfl) (fun _ _ _ h => h) (Or.inl ⟨by rfl, ?_⟩) (by assumption) ?_
              rotate_left
              · intro wS hSw
                first
                  | (go_simp; done)
                  | (go_simp; with_reducible rfl)
              try simp only [Act.put, List.setIfInBounds_toArray, List.set_cons_zero, List.set_cons_succ]
              refine wpAnyH_take (i := 1) (oi := ({ dst := some 59, op := Op.load 24 (Operand.tmp 5), type := 24, pos := "law.go:55", after := #[], guard := none } : Oper)) (v := .agg #[.int .i8 x, .int .i8 y, .int .i8 z]) rfl (by kernel_rfl) (by kernel_rfl) (by kernel_rfl) (fun _ _ _ h => h) (yieldsIf_load_mid (by rfl) _ _ rfl w.heap.size 0 rfl [.int .i8 x, .int .i8 y, .int .i8 z] _ hY Try.underlying24 rfl (by kernel_rfl)) (by assumption) ?_
              try simp only [Act.put, List.setIfInBounds_toArray, List.set_cons_zero, List.set_cons_succ]
              refine wpAnyH_take (i := 3) (oi := ({ dst := some 61, op := Op.move (Operand.tmp 7), type := 22, pos := "law.go:55", after := #[], guard := none } : Oper)) (v := ?_) rfl (by kernel_rfl) (by kernel_rfl) (by kernel_rfl) (fun _ _ _ h => h) (Or.inl ⟨by rfl, ?_⟩) (by assumption) ?_
              rotate_left
              · intro wS hSw
                first
                  | (go_simp; done)
                  | (go_simp; with_reducible rfl)
              try simp only [Act.put, List.setIfInBounds_toArray, List.set_cons_zero, List.set_cons_succ]
              refine wpAnyH_take (i := 4) (oi := ({ dst := some 62, op := Op.load 24 (Operand.tmp 5), type := 24, pos := "law.go:55", after := #[], guard := none } : Oper)) (v := .agg #[.int .i8 x, .int .i8 y, .int .i8 z]) rfl (by kernel_rfl) (by kernel_rfl) (by kernel_rfl) (fun _ _ _ h => h) (yieldsIf_load_mid (by rfl) _ _ rfl w.heap.size 0 rfl [.int .i8 x, .int .i8 y, .int .i8 z] _ hY Try.underlying24 rfl (by kernel_rfl)) (by assumption) ?_
              try simp only [Act.put, List.setIfInBounds_toArray, List.set_cons_zero, List.set_cons_succ]
              refine wpAnyH_ready (rs := [2]) (by kernel_rfl) (by simp) ?_
              refine AllReadyH.cons (o := ({ dst := some 60, op := Op.call { callee := Callee.value (Operand.func 10), args := #[Operand.tmp 58, Operand.tmp 59], argTypes := #[22, 24] }, type := 28, pos := "law.go:55", after := #[{ on := 0, ground := Ground.data }, { on := 1, ground := Ground.data }], guard := none } : Oper)) rfl (fun K hK => ?_) (AllReadyH.nil)
              go_simp
              go_at_call 10
              refine (slide_to AH (nums (hf xs) t) t cH (t - 2) row_len hkH HCH.out rfl (by omega) (nums_wf (fun i => by have h1 := hf_in HWX.out i; omega)) x y z HX.out HY.out HZ.out _ rfl _ HRH.out).mono ?_
              rintro e Wa ⟨va, rfl, howna, hbK⟩
              obtain ⟨Aa, ca, rfl, hka, hma, hrda⟩ := Kit.own_rd howna
              have HRa := Lib.hid hrda
              clear howna hrda
              replace HR := Lib.hid ((HR.out.below hbK).more hbK.size)
              replace HRY := Lib.hid ((HRY.out.below hbK).more hbK.size)
              replace HRT := Lib.hid ((HRT.out.below hbK).more hbK.size)
              replace HRH := Lib.hid ((HRH.out.below hbK).more hbK.size)
              replace HT := Lib.hid (HT.out.below hbK HT.out.2.2.2)
              replace HB := Lib.hid (HB.out.trans (hbK.mono HB.out.size))
              clear hbK hHeld
              dsimp only
              refine hK.out _ _ ?_ (fun hHeld => ?_)
              · exact HT.out
              clear hK K
              try simp only [Act.put, List.setIfInBounds_toArray, List.set_cons_zero, List.set_cons_succ]
              refine wpAnyH_ready (rs := [5]) (by kernel_rfl) (by simp) ?_
              refine AllReadyH.cons (o := ({ dst := some 63, op := Op.call { callee := Callee.value (Operand.func 10), args := #[Operand.tmp 61, Operand.tmp 62], argTypes := #[22, 24] }, type := 28, pos := "law.go:55", after := #[{ on := 3, ground := Ground.data }, { on := 4, ground := Ground.data }, { on := 2, ground := Ground.chain }], guard := none } : Oper)) rfl (fun K hK => ?_) (AllReadyH.nil)
              go_simp
              go_at_call 10
              refine (slide_to AT (nums (tw xs) t) t cT (t - 2) row_len hkT HCT.out rfl (by omega) (nums_wf (fun i => by have h1 := hf_in HWX.out i; have h2 := hf_hi HWX.out i; unfold tw; omega)) x y z HX.out HY.out HZ.out _ rfl _ HRT.out).mono ?_
              rintro e Wb ⟨vb, rfl, hownb, hbK⟩
              obtain ⟨Ab, cb, rfl, hkb, hmb, hrdb⟩ := Kit.own_rd hownb
              have HRb := Lib.hid hrdb
              clear hownb hrdb
              replace HR := Lib.hid ((HR.out.below hbK).more hbK.size)
              replace HRY := Lib.hid ((HRY.out.below hbK).more hbK.size)
              replace HRa := Lib.hid ((HRa.out.below hbK).more hbK.size)
              replace HT := Lib.hid (HT.out.below hbK HT.out.2.2.2)
              replace HB := Lib.hid (HB.out.trans (hbK.mono HB.out.size))
              clear hbK hHeld
              dsimp only
              refine hK.out _ _ ?_ (fun hHeld => ?_)
              · exact HT.out
              clear hK K
              try simp only [Act.put, List.setIfInBounds_toArray, List.set_cons_zero, List.set_cons_succ]
              refine wpAnyH_take (i := 6) (oi := ({ dst := some 12, op := Op.assign (Operand.tmp 60), type := 28, pos := "law.go:55", after := #[{ on := 2, ground := Ground.data }, { on := 5, ground := Ground.chain }, { on := 0, ground := Ground.phase }, { on := 1, ground := Ground.phase }, { on := 2, ground := Ground.phase }, { on := 3, ground := Ground.textOnly Departure.lateStores }, { on := 4, ground := Ground.textOnly Departure.lateStores }, { on := 5, ground := Ground.textOnly Departure.lateStoresUnsure }], guard := none } : Oper)) (v := ?_) rfl (by kernel_rfl) (by kernel_rfl) (by kernel_rfl) (fun _ _ _ h => h) (Or.inl ⟨by rfl, ?_⟩) (by assumption) ?_
              rotate_left
              · intro wS hSw
                first
                  | (go_simp; done)
                  | (go_simp; with_reducible rfl)
              try simp only [Act.put, List.setIfInBounds_toArray, List.set_cons_zero, List.set_cons_succ]
              refine wpAnyH_take (i := 7) (oi := ({ dst := some 13, op := Op.assign (Operand.tmp 63), type := 28, pos := "law.go:55", after := #[{ on := 5, ground := Ground.data }, { on := 6, ground := Ground.chain }, { on := 0, ground := Ground.phase }, { on := 1, ground := Ground.phase }, { on := 2, ground := Ground.phase }, { on := 3, ground := Ground.phase }, { on := 4, ground := Ground.phase }, { on := 5, ground := Ground.phase }, { on := 6, ground := Ground.phase }], guard := none } : Oper)) (v := ?_) rfl (by kernel_rfl) (by kernel_rfl) (by kernel_rfl) (fun _ _ _ h => h) (Or.inl ⟨by rfl, ?_⟩) (by assumption) ?_
              rotate_left
              · intro wS hSw
                first
                  | (go_simp; done)
                  | (go_simp; with_reducible rfl)
              try simp only [Act.put, List.setIfInBounds_toArray, List.set_cons_zero, List.set_cons_succ]
              refine wpAnyH_done (by kernel_rfl) ?_ _
              clear hHeld hY
              clear HRH HRT
              go_wp2_with fail
              go_loopw [14] (fun u wq => ∃ s nq : Nat, s ≤ t - 2 ∧ u = .int .i64 s ∧ Hid (wq = Wb.drewN nq)) (fun u _ => t - 2 - (intOf u).toNat)
              case atStart => exact ⟨0, 0, Nat.zero_le _, rfl, Lib.hid rfl⟩
              case round =>
                obtain ⟨s, nq, hs, rfl, hwq⟩ := hrel
                obtain rfl := hwq.out
                clear hwq
                by_cases hlt4 : s < t - 2
                · obtain ⟨ba, oa, rfl, -, hx1⟩ := row_rd2 HRa.out (i := s) (by rw [nums_len]; exact hlt4)
                  obtain ⟨bb, ob, rfl, -, hy1⟩ := row_rd2 HRb.out (i := s) (by rw [nums_len]; exact hlt4)
                  rw [nums_getD _ hlt4] at hx1 hy1
                  have hbd := slAt_bd (x := fun i => (nums (hf xs) t).getD i 0) (w := wf x y z) (fun i => CWheel.getD_in (nums_wf (F := hf xs) (fun i => by have h1 := hf_in HWX.out i; omega)) i) (fun i => wf_in HX.out HY.out HZ.out i) s
                  rw [twice_slide xs x y z t (by omega)] at hy1
                  have hbd2 : -12582912 ≤ slideF (nums (hf xs) t) x y z s ∧ slideF (nums (hf xs) t) x y z s ≤ 12582912 := hbd
                  generalize slideF (nums (hf xs) t) x y z s = q0 at hx1 hy1 hbd2
                  have e1 : IntKind.i64.wrap (2 * q0) = 2 * q0 := IntWalk.i64_in _ (by omega)
                  have s1 : (0 : Int) ≤ (s : Int) := by omega
                  have s2 : (s : Int) < ((t - 2 : Nat) : Int) := by omega
                  obtain ⟨q1, hq1⟩ : ∃ q1, 2 * q0 = q1 := ⟨_, rfl⟩
                  rw [hq1] at hy1 e1
                  have e2 : IntKind.i64.wrap (2 * q0) = q1 := by rw [hq1]; exact e1
                  clear hbd hbd2 hq1 e1
                  go_wp2_with fail
                  go_quiet (fail)
                  go_wp2_with fail
                  go_roundw
                  case rel => exact ⟨s + 1, _, by omega, by go_num, Lib.hid rfl⟩
                  case measure => simp [intOf]; omega
                · obtain rfl : s = t - 2 := by omega
                  clear HRa HRb
                  replace HB := Lib.hid (Kit.below_drewN HB.out nq)
                  replace HT : Hid (Three w.heap.size (.int .i8 x) (.int .i8 y) (.int .i8 z) (Wb.drewN nq)) := HT
                  replace HR : Hid (Kit.Rd (Wb.drewN nq) (Wb.drewN nq).heap.size A (xs.map (.int .i16))) := HR
                  replace HRY : Hid (Kit.Rd (Wb.drewN nq) (Wb.drewN nq).heap.size AY (ys.map (.int .i16))) := HRY
                  go_upto_region 22 with fail
                  generalize Wb.drewN nq = W6 at HB HT HR HRY ⊢
                  refine wp_region_held_drew (S := fun WW : World => Three w.heap.size (.int .i8 x) (.int .i8 y) (.int .i8 z) WW) (by kernel_rfl) HT.out.drew (fun hHeld => ?_)
                  replace HT := Lib.hid HT.out.drew
                  replace HB := Lib.hid HB.out.drew
                  replace HR := Lib.hid HR.out.drew
                  replace HRY := Lib.hid HRY.out.drew
                  generalize hWd : W6.drew = Wd22 at HT HB HR HRY hHeld ⊢
                  have hzd : W6.heap.size = Wd22.heap.size := by rw [← hWd]; rfl
                  rw [hzd] at HR HRY
                  clear hzd hWd
                  have hY : ∀ WW : World, (Three w.heap.size (.int .i8 x) (.int .i8 y) (.int .i8 z) WW) → WW.rangeAt w.heap.size 0 [.int .i8 x, .int .i8 y, .int .i8 z] := fun WW hW => hW.range
                  refine wpAnyH_take (i := 1) (oi := ({ dst := some 86, op := Op.move (Operand.tmp 0), type := 22, pos := "law.go:64", after := #[], guard := none } : Oper)) (v := ?_) rfl (by kernel_rfl) (by kernel_rfl) (by kernel_rfl) (fun _ _ _ h => h) (Or.inl ⟨by rfl, ?_⟩) (by assumption) ?_
                  rotate_left
                  · intro wS hSw
                    first
                      | (go_simp; done)
                      | (go_simp; with_reducible rfl)
                  try simp only [Act.put, List.setIfInBounds_toArray, List.set_cons_zero, List.set_cons_succ]
                  refine wpAnyH_take (i := 3) (oi := ({ dst := some 88, op := Op.move (Operand.tmp 1), type := 22, pos := "law.go:64", after := #[], guard := none } : Oper)) (v := ?_) rfl (by kernel_rfl) (by kernel_rfl) (by kernel_rfl) (fun _ _ _ h => h) (Or.inl ⟨by rfl, ?_⟩) (by assumption) ?_
                  rotate_left
                  · intro wS hSw
                    first
                      | (go_simp; done)
                      | (go_simp; with_reducible rfl)
                  try simp only [Act.put, List.setIfInBounds_toArray, List.set_cons_zero, List.set_cons_succ]
                  refine wpAnyH_take (i := 5) (oi := ({ dst := some 90, op := Op.load 24 (Operand.tmp 5), type := 24, pos := "law.go:64", after := #[], guard := none } : Oper)) (v := .agg #[.int .i8 x, .int .i8 y, .int .i8 z]) rfl (by kernel_rfl) (by kernel_rfl) (by kernel_rfl) (fun _ _ _ h => h) (yieldsIf_load_mid (by rfl) _ _ rfl w.heap.size 0 rfl [.int .i8 x, .int .i8 y, .int .i8 z] _ hY Try.underlying24 rfl (by kernel_rfl)) (by assumption) ?_
                  try simp only [Act.put, List.setIfInBounds_toArray, List.set_cons_zero, List.set_cons_succ]
                  have HTZ : Hid (w.heap.size < Wd22.heap.size) := Lib.hid HT.out.2.2.2
                  have HBZ : Hid (w.heap.size ≤ Wd22.heap.size) := Lib.hid HB.out.size
                  refine wpAnyH_ready (rs := [0]) (by kernel_rfl) (by simp) ?_
                  refine AllReadyH.cons (o := ({ dst := some 85, op := Op.buildSlice 22 0 #[], type := 22, pos := "law.go:64", after := #[], guard := none } : Oper)) rfl (fun K hK => ?_) (AllReadyH.nil)
                  go_simp
                  have hbK : Below Wd22.heap.size Wd22 (Wd22.alloc (.cells #[] 25)) := (Below.refl _ _).alloc (Nat.le_refl _) _
                  have HO0 := Lib.hid (own_empty Wd22 25 1)
                  have HS0 : Hid (Wd22.heap.size ≤ (Wd22.alloc (.cells #[] 25)).heap.size) := Lib.hid (by simp)
                  replace HR := Lib.hid (HR.out.below hbK)
                  replace HRY := Lib.hid (HRY.out.below hbK)
                  replace HT := Lib.hid (HT.out.below hbK HTZ.out)
                  replace HB := Lib.hid (HB.out.trans (hbK.mono HBZ.out))
                  clear hbK hHeld
                  try dsimp only
                  generalize Wd22.alloc (.cells #[] 25) = We at HR HRY HT HB HO0 HS0 ⊢
                  refine hK.out _ _ ?_ (fun hHeld => ?_)
                  · exact HT.out
                  clear hK K
                  try simp only [Act.put, List.setIfInBounds_toArray, List.set_cons_zero, List.set_cons_succ]
                  refine wpAnyH_ready (rs := [2]) (by kernel_rfl) (by simp) ?_
                  refine AllReadyH.cons (o := ({ dst := some 87, op := Op.call { callee := Callee.builtin Builtin.append, args := #[Operand.tmp 85, Operand.tmp 86], argTypes := #[22, 22] }, type := 22, pos := "law.go:64", after := #[{ on := 0, ground := Ground.data }, { on := 1, ground := Ground.data }], guard := none } : Oper)) rfl (fun K hK => ?_) (AllReadyH.nil)
                  refine Kit.step_append_rd _ rfl (.tmp 85) (.tmp 86) _ rfl Wd22.heap.size 25 i0 (.int .i16 0) 1 2 Try.underlying22 HI.out.1 HI.out.2.1 HI.out.2.2.1 HI.out.2.2.2 rfl (by decide) _ 0 [] rfl HO0.out _ A t cp (I16v xs) rfl ?_ HR.out (Kit.ints_one .i16 _) ?_ ?_ HS0.out ?_
                  · simp [I16v]; exact HN.out
                  · unfold maxLen; omega
                  · omega
                  intro v1 W7 hownv1 hgv1 hatv1
                  have hbK : Below Wd22.heap.size We W7 := (Below.refl Wd22.heap.size We).grown hgv1 HS0.out (fun q hq => Kit.own_block_ge HO0.out q hq)
                  have HOv1 := Lib.hid hownv1
                  have HS1 : Hid (Wd22.heap.size ≤ W7.heap.size) := Lib.hid (Nat.le_trans HS0.out hbK.size)
                  clear hownv1 hgv1 hatv1
                  replace HR := Lib.hid (HR.out.below hbK)
                  replace HRY := Lib.hid (HRY.out.below hbK)
                  replace HT := Lib.hid (HT.out.below hbK HTZ.out)
                  replace HB := Lib.hid (HB.out.trans (hbK.mono HBZ.out))
                  clear hbK hHeld
                  try dsimp only
                  refine hK.out _ _ ?_ (fun hHeld => ?_)
                  · exact HT.out
                  clear hK K
                  try simp only [Act.put, List.setIfInBounds_toArray, List.set_cons_zero, List.set_cons_succ]
                  refine wpAnyH_ready (rs := [4]) (by kernel_rfl) (by simp) ?_
                  refine AllReadyH.cons (o := ({ dst := some 89, op := Op.call { callee := Callee.builtin Builtin.append, args := #[Operand.tmp 87, Operand.tmp 88], argTypes := #[22, 22] }, type := 22, pos := "law.go:64", after := #[{ on := 2, ground := Ground.data }, { on := 3, ground := Ground.data }, { on := 2, ground := Ground.chain }], guard := none } : Oper)) rfl (fun K hK => ?_) (AllReadyH.nil)
                  refine Kit.step_append_rd _ rfl (.tmp 87) (.tmp 88) _ rfl Wd22.heap.size 25 i0 (.int .i16 0) 1 2 Try.underlying22 HI.out.1 HI.out.2.1 HI.out.2.2.1 HI.out.2.2.2 rfl (by decide) _ (0 + t) ([] ++ I16v xs) rfl HOv1.out _ AY M cy (I16v ys) rfl ?_ HRY.out (Kit.ints_one .i16 _) ?_ ?_ HS1.out ?_
                  · simp [I16v]; exact HM.out
                  · unfold maxLen; omega
                  · omega
                  intro v2 W8 hownv2 hgv2 hatv2
                  have hbK : Below Wd22.heap.size W7 W8 := (Below.refl Wd22.heap.size W7).grown hgv2 HS1.out (fun q hq => Kit.own_block_ge HOv1.out q hq)
                  have HOv2 := Lib.hid hownv2
                  have HS2 : Hid (Wd22.heap.size ≤ W8.heap.size) := Lib.hid (Nat.le_trans HS1.out hbK.size)
                  clear hownv2 hgv2 hatv2
                  replace HR := Lib.hid (HR.out.below hbK)
                  replace HRY := Lib.hid (HRY.out.below hbK)
                  replace HT := Lib.hid (HT.out.below hbK HTZ.out)
                  replace HB := Lib.hid (HB.out.trans (hbK.mono HBZ.out))
                  clear hbK hHeld
                  try dsimp only
                  refine hK.out _ _ ?_ (fun hHeld => ?_)
                  · exact HT.out
                  clear hK K
                  try simp only [Act.put, List.setIfInBounds_toArray, List.set_cons_zero, List.set_cons_succ]
                  refine wpAnyH_ready (rs := [6]) (by kernel_rfl) (by simp) ?_
                  refine AllReadyH.cons (o := ({ dst := some 91, op := Op.call { callee := Callee.value (Operand.func 10), args := #[Operand.tmp 89, Operand.tmp 90], argTypes := #[22, 24] }, type := 28, pos := "law.go:64", after := #[{ on := 4, ground := Ground.data }, { on := 5, ground := Ground.data }, { on := 4, ground := Ground.chain }], guard := none } : Oper)) rfl (fun K hK => ?_) (AllReadyH.nil)
                  have hO8 := HOv2.out
                  rw [Nat.zero_add, List.nil_append, ← List.map_append] at hO8
                  obtain ⟨AJ, cJ, hvJ, hkJ, hmJ, hrJ⟩ := Kit.own_rd hO8
                  subst hvJ
                  have HCJ := Lib.hid hmJ
                  have HRJ := Lib.hid hrJ
                  have HLJ : Hid ((xs ++ ys).length = t + M) := Lib.hid (by rw [List.length_append, HN.out, HM.out])
                  clear hO8 hrJ hmJ HOv2
                  go_simp
                  go_at_call 10
                  refine (slide_to AJ (xs ++ ys) (t + M) cJ (t + M - 2) HLJ.out hkJ HCJ.out rfl (by omega) (app_wf HWX.out HWY.out) x y z HX.out HY.out HZ.out _ rfl _ HRJ.out).mono ?_
                  rintro e W9 ⟨vA, rfl, hownA, hbQ⟩
                  have hbK : Below Wd22.heap.size W8 W9 := hbQ.mono HS2.out
                  have HOA := Lib.hid hownA
                  have HSA : Hid (Wd22.heap.size ≤ W9.heap.size) := Lib.hid (Nat.le_trans HS2.out hbK.size)
                  clear hownA hbQ
                  replace HR := Lib.hid (HR.out.below hbK)
                  replace HRY := Lib.hid (HRY.out.below hbK)
                  replace HT := Lib.hid (HT.out.below hbK HTZ.out)
                  replace HB := Lib.hid (HB.out.trans (hbK.mono HBZ.out))
                  clear hbK hHeld
                  try dsimp only
                  refine hK.out _ _ ?_ (fun hHeld => ?_)
                  · exact HT.out
                  clear hK K
                  try simp only [Act.put, List.setIfInBounds_toArray, List.set_cons_zero, List.set_cons_succ]
                  refine wpAnyH_take (i := 7) (oi := ({ dst := some 15, op := Op.assign (Operand.tmp 91), type := 28, pos := "law.go:64", after := #[{ on := 6, ground := Ground.data }, { on := 6, ground := Ground.chain }, { on := 0, ground := Ground.phase }, { on := 1, ground := Ground.phase }, { on := 2, ground := Ground.phase }, { on := 3, ground := Ground.phase }, { on := 4, ground := Ground.phase }, { on := 5, ground := Ground.phase }, { on := 6, ground := Ground.phase }], guard := none } : Oper)) (v := ?_) rfl (by kernel_rfl) (by kernel_rfl) (by kernel_rfl) (fun _ _ _ h => h) (Or.inl ⟨by rfl, ?_⟩) (by assumption) ?_
                  rotate_left
                  · intro wS hSw
                    first
                      | (go_simp; done)
                      | (go_simp; with_reducible rfl)
                  try simp only [Act.put, List.setIfInBounds_toArray, List.set_cons_zero, List.set_cons_succ]
                  refine wpAnyH_done (by kernel_rfl) ?_ _
                  clear hHeld hY HRJ HCJ HLJ HO0 HOv1
                  replace HR := Lib.hid (HR.out.more HSA.out)
                  replace HRY := Lib.hid (HRY.out.more HSA.out)
                  obtain ⟨AA, cA, hvA, hkA, hmA, hrA⟩ := Kit.own_rd HOA.out
                  subst hvA
                  have HRA := Lib.hid hrA
                  have HCA := Lib.hid hmA
                  clear hrA hmA HOA HTZ HBZ HS0 HS1 HS2 HSA
                  go_upto_region 23 with fail
                  refine wp_region_held_drew (S := fun WW : World => Three w.heap.size (.int .i8 x) (.int .i8 y) (.int .i8 z) WW) (by kernel_rfl) HT.out.drew (fun hHeld => ?_)
                  replace HT := Lib.hid HT.out.drew
                  replace HB := Lib.hid HB.out.drew
                  replace HR := Lib.hid HR.out.drew
                  replace HRY := Lib.hid HRY.out.drew
                  replace HRA := Lib.hid HRA.out.drew
                  generalize hWd : W9.drew = Wd23 at HT HB HR HRY HRA hHeld ⊢
                  have hzd : W9.heap.size = Wd23.heap.size := by rw [← hWd]; rfl
                  rw [hzd] at HR HRY HRA
                  clear hzd hWd
                  have hY : ∀ WW : World, (Three w.heap.size (.int .i8 x) (.int .i8 y) (.int .i8 z) WW) → WW.rangeAt w.heap.size 0 [.int .i8 x, .int .i8 y, .int .i8 z] := fun WW hW => hW.range
                  refine wpAnyH_take (i := 0) (oi := ({ dst := some 92, op := Op.move (Operand.tmp 0), type := 22, pos := "law.go:65", after := #[], guard := none } : Oper)) (v := ?_) rfl (by kernel_rfl) (by kernel_rfl) (by kernel_rfl) (fun _ _ _ h => h) (Or.inl ⟨by rfl, ?_⟩) (by assumption) ?_
                  rotate_left
                  · intro wS hSw
                    first
                      | (go_simp; done)
                      | (go_simp; with_reducible rfl)
                  try simp only [Act.put, List.setIfInBounds_toArray, List.set_cons_zero, List.set_cons_succ]
                  refine wpAnyH_take (i := 1) (oi := ({ dst := some 93, op := Op.load 24 (Operand.tmp 5), type := 24, pos := "law.go:65", after := #[], guard := none } : Oper)) (v := .agg #[.int .i8 x, .int .i8 y, .int .i8 z]) rfl (by kernel_rfl) (by kernel_rfl) (by kernel_rfl) (fun _ _ _ h => h) (yieldsIf_load_mid (by rfl) _ _ rfl w.heap.size 0 rfl [.int .i8 x, .int .i8 y, .int .i8 z] _ hY Try.underlying24 rfl (by kernel_rfl)) (by assumption) ?_
                  try simp only [Act.put, List.setIfInBounds_toArray, List.set_cons_zero, List.set_cons_succ]
                  refine wpAnyH_take (i := 3) (oi := ({ dst := some 95, op := Op.move (Operand.tmp 1), type := 22, pos := "law.go:65", after := #[], guard := none } : Oper)) (v := ?_) rfl (by kernel_rfl) (by kernel_rfl) (by kernel_rfl) (fun _ _ _ h => h) (Or.inl ⟨by rfl, ?_⟩) (by assumption) ?_
                  rotate_left
                  · intro wS hSw
                    first
                      | (go_simp; done)
                      | (go_simp; with_reducible rfl)
                  try simp only [Act.put, List.setIfInBounds_toArray, List.set_cons_zero, List.set_cons_succ]
                  refine wpAnyH_take (i := 4) (oi := ({ dst := some 96, op := Op.load 24 (Operand.tmp 5), type := 24, pos := "law.go:65", after := #[], guard := none } : Oper)) (v := .agg #[.int .i8 x, .int .i8 y, .int .i8 z]) rfl (by kernel_rfl) (by kernel_rfl) (by kernel_rfl) (fun _ _ _ h => h) (yieldsIf_load_mid (by rfl) _ _ rfl w.heap.size 0 rfl [.int .i8 x, .int .i8 y, .int .i8 z] _ hY Try.underlying24 rfl (by kernel_rfl)) (by assumption) ?_
                  try simp only [Act.put, List.setIfInBounds_toArray, List.set_cons_zero, List.set_cons_succ]
                  refine wpAnyH_ready (rs := [2]) (by kernel_rfl) (by simp) ?_
                  refine AllReadyH.cons (o := ({ dst := some 94, op := Op.call { callee := Callee.value (Operand.func 10), args := #[Operand.tmp 92, Operand.tmp 93], argTypes := #[22, 24] }, type := 28, pos := "law.go:65", after := #[{ on := 0, ground := Ground.data }, { on := 1, ground := Ground.data }], guard := none } : Oper)) rfl (fun K hK => ?_) (AllReadyH.nil)
                  go_simp
                  go_at_call 10
                  refine (slide_to A xs t cp (t - 2) HN.out hc HCM.out.1 rfl (by omega) HWX.out x y z HX.out HY.out HZ.out _ rfl _ HR.out).mono ?_
                  rintro e Wp ⟨vp, rfl, hownp, hbK⟩
                  obtain ⟨Ap, cp, rfl, hkp, hmp, hrdp⟩ := Kit.own_rd hownp
                  have HRp := Lib.hid hrdp
                  clear hownp hrdp
                  replace HR := Lib.hid ((HR.out.below hbK).more hbK.size)
                  replace HRY := Lib.hid ((HRY.out.below hbK).more hbK.size)
                  replace HRA := Lib.hid ((HRA.out.below hbK).more hbK.size)
                  replace HT := Lib.hid (HT.out.below hbK HT.out.2.2.2)
                  replace HB := Lib.hid (HB.out.trans (hbK.mono HB.out.size))
                  clear hbK hHeld
                  dsimp only
                  refine hK.out _ _ ?_ (fun hHeld => ?_)
                  · exact HT.out
                  clear hK K
                  try simp only [Act.put, List.setIfInBounds_toArray, List.set_cons_zero, List.set_cons_succ]
                  refine wpAnyH_ready (rs := [5]) (by kernel_rfl) (by simp) ?_
                  refine AllReadyH.cons (o := ({ dst := some 97, op := Op.call { callee := Callee.value (Operand.func 10), args := #[Operand.tmp 95, Operand.tmp 96], argTypes := #[22, 24] }, type := 28, pos := "law.go:65", after := #[{ on := 3, ground := Ground.data }, { on := 4, ground := Ground.data }, { on := 2, ground := Ground.chain }], guard := none } : Oper)) rfl (fun K hK => ?_) (AllReadyH.nil)
                  go_simp
                  go_at_call 10
                  refine (slide_to AY ys M cy (M - 2) HM.out hcy HCM.out.2 rfl (by omega) HWY.out x y z HX.out HY.out HZ.out _ rfl _ HRY.out).mono ?_
                  rintro e Wq ⟨vq, rfl, hownq, hbK⟩
                  obtain ⟨Aq, cq, rfl, hkq, hmq, hrdq⟩ := Kit.own_rd hownq
                  have HRq := Lib.hid hrdq
                  clear hownq hrdq
                  replace HRA := Lib.hid ((HRA.out.below hbK).more hbK.size)
                  replace HRp := Lib.hid ((HRp.out.below hbK).more hbK.size)
                  replace HT := Lib.hid (HT.out.below hbK HT.out.2.2.2)
                  replace HB := Lib.hid (HB.out.trans (hbK.mono HB.out.size))
                  clear hbK hHeld
                  dsimp only
                  refine hK.out _ _ ?_ (fun hHeld => ?_)
                  · exact HT.out
                  clear hK K
                  try simp only [Act.put, List.setIfInBounds_toArray, List.set_cons_zero, List.set_cons_succ]
                  refine wpAnyH_take (i := 6) (oi := ({ dst := some 16, op := Op.assign (Operand.tmp 94), type := 28, pos := "law.go:65", after := #[{ on := 2, ground := Ground.data }, { on := 5, ground := Ground.chain }, { on := 0, ground := Ground.phase }, { on := 1, ground := Ground.phase }, { on := 2, ground := Ground.phase }, { on := 3, ground := Ground.textOnly Departure.lateStores }, { on := 4, ground := Ground.textOnly Departure.lateStores }, { on := 5, ground := Ground.textOnly Departure.lateStoresUnsure }], guard := none } : Oper)) (v := ?_) rfl (by kernel_rfl) (by kernel_rfl) (by kernel_rfl) (fun _ _ _ h => h) (Or.inl ⟨by rfl, ?_⟩) (by assumption) ?_
                  rotate_left
                  · intro wS hSw
                    first
                      | (go_simp; done)
                      | (go_simp; with_reducible rfl)
                  try simp only [Act.put, List.setIfInBounds_toArray, List.set_cons_zero, List.set_cons_succ]
                  refine wpAnyH_take (i := 7) (oi := ({ dst := some 17, op := Op.assign (Operand.tmp 97), type := 28, pos := "law.go:65", after := #[{ on := 5, ground := Ground.data }, { on := 6, ground := Ground.chain }, { on := 0, ground := Ground.phase }, { on := 1, ground := Ground.phase }, { on := 2, ground := Ground.phase }, { on := 3, ground := Ground.phase }, { on := 4, ground := Ground.phase }, { on := 5, ground := Ground.phase }, { on := 6, ground := Ground.phase }], guard := none } : Oper)) (v := ?_) rfl (by kernel_rfl) (by kernel_rfl) (by kernel_rfl) (fun _ _ _ h => h) (Or.inl ⟨by rfl, ?_⟩) (by assumption) ?_
                  rotate_left
                  · intro wS hSw
                    first
                      | (go_simp; done)
                      | (go_simp; with_reducible rfl)
                  try simp only [Act.put, List.setIfInBounds_toArray, List.set_cons_zero, List.set_cons_succ]
                  refine wpAnyH_done (by kernel_rfl) ?_ _
                  clear hHeld hY HR HRY
                  have HAL := Lib.hid (all_left xs ys x y z t M HN.out HM.out)
                  have HAR := Lib.hid (all_right xs ys x y z t M HN.out HM.out)
                  obtain ⟨LA, hLA⟩ : ∃ l, nums (slideF (xs ++ ys) x y z) (t + M - 2) = l := ⟨_, rfl⟩
                  obtain ⟨LP, hLP⟩ : ∃ l, nums (slideF xs x y z) (t - 2) = l := ⟨_, rfl⟩
                  obtain ⟨LQ, hLQ⟩ : ∃ l, nums (slideF ys x y z) (M - 2) = l := ⟨_, rfl⟩
                  have hlA : LA.length = t + M - 2 := by rw [← hLA, nums_len]
                  have hlP : LP.length = t - 2 := by rw [← hLP, nums_len]
                  have hlQ : LQ.length = M - 2 := by rw [← hLQ, nums_len]
                  rw [hLA, hLP] at HAL
                  rw [hLA, hLQ] at HAR
                  rw [hLA] at HRA
                  rw [hLP] at HRp
                  rw [hLQ] at HRq
                  have hPT : t - 2 ≤ t + M - 2 := by omega
                  have hQT : M - 2 ≤ t + M - 2 := by omega
                  have hT4 : t + M - 2 ≤ 400 := by omega
                  clear hLA hLP hLQ
                  generalize t + M - 2 = T at HAL HAR hlA hPT hQT hT4 hkA ⊢
                  generalize t - 2 = P at HAL hlP hPT hkp ⊢
                  generalize M - 2 = Q at HAR hlQ hQT hkq ⊢
                  have HLA := Lib.hid hlA
                  have HLP := Lib.hid hlP
                  have HLQ := Lib.hid hlQ
                  clear hlA hlP hlQ
                  have s1 : ¬ (T : Int) < (P : Int) := by omega
                  have s2 : ¬ (T : Int) < (Q : Int) := by omega
                  obtain ⟨D, hD⟩ : ∃ D, T - Q = D := ⟨_, rfl⟩
                  have s3 : IntKind.i64.wrap ((T : Int) - (Q : Int)) = (D : Int) := by rw [IntWalk.i64_in _ (by omega)]; omega
                  rw [hD] at HAR
                  have hDT : D ≤ T := by omega
                  have hDQ : T - D = Q := by omega
                  clear hD
                  go_upto_region 26 with fail
                  have HP1 : Hid (Kit.Rd Wq Wq.heap.size AA (I64v LP)) := Lib.hid (by have h8 := HRA.out.take P; rw [← List.map_take, HAL.out] at h8; exact h8)
                  have HQ1 : Hid (Kit.Rd Wq Wq.heap.size (if cA = D then AA else AA.map (·.add D)) (I64v LQ)) := Lib.hid (by have h8 := HRA.out.cut (k := D) (c := cA) (by simp; rw [HLA.out]; exact hkA); rw [← List.map_drop, HAR.out] at h8; exact h8)
                  clear HRA HAL HAR
                  have t1 : (0 : Int) ≤ (D : Int) := by omega
                  have t2 : (D : Int) ≤ (T : Int) := by omega
                  have t3 : (T : Int) ≤ (cA : Int) := by omega
                  have t4 : (P : Int) ≤ (cA : Int) := by omega
                  have t5 : (0 : Int) ≤ (P : Int) := by omega
                  go_wp2_with fail
                  go_at_call 9
                  refine (same_yes AA Ap LP P cA P cp HLP.out rfl (by omega) _ HP1.out HRp.out).mono ?_
                  rintro e W10 ⟨rfl, hb9⟩
                  replace HB := Lib.hid (HB.out.trans (hb9.mono HB.out.size))
                  replace HQ1 := Lib.hid (HQ1.out.below hb9)
                  replace HRq := Lib.hid (HRq.out.below hb9)
                  clear hb9 HP1 HRp
                  have hq1 := HQ1.out
                  clear HQ1
                  by_cases hcd : cA = D
                  · rw [if_pos hcd] at hq1
                    have HQ2 := Lib.hid hq1
                    subst hcd
                    clear hq1
                    go_wp2_with (first
                      | (go_at_call 9; refine (same_yes _ Aq LQ Q _ Q cq HLQ.out rfl (by omega) _ HQ2.out HRq.out).mono ?_; rintro e W11 ⟨rfl, hb9⟩; replace HB := Lib.hid (HB.out.trans (hb9.mono HB.out.size)); clear hb9)
                      | (go_at_call 6; refine (known15 _).mono ?_; rintro e W12 ⟨rfl, hb9⟩; replace HB := Lib.hid (HB.out.trans (hb9.mono HB.out.size)); clear hb9))
                    go_ret
                    exact ⟨rfl, HB.out⟩
                  · rw [if_neg hcd] at hq1
                    have HQ2 := Lib.hid hq1
                    clear hq1
                    go_wp2_with (first
                      | (go_at_call 9; refine (same_yes _ Aq LQ Q _ Q cq HLQ.out rfl (by omega) _ HQ2.out HRq.out).mono ?_; rintro e W11 ⟨rfl, hb9⟩; replace HB := Lib.hid (HB.out.trans (hb9.mono HB.out.size)); clear hb9)
                      | (go_at_call 6; refine (known15 _).mono ?_; rintro e W12 ⟨rfl, hb9⟩; replace HB := Lib.hid (HB.out.trans (hb9.mono HB.out.size)); clear hb9))
                    go_ret
                    exact ⟨rfl, HB.out⟩
    · have hli2 : (M : Int) > 200 := by omega
      clear hr hw8 hry hw8y wx wy wz hc hcm hcy hcmy hN hM
      go_enter Try.func5, Try.ntmps5
      go_wp2_with (go_at_call 6; ((with_reducible refine (known15 _).mono ?_); rintro e1 w1 ⟨rfl, h1⟩))
      go_ret
      exact ⟨rfl, ((Below.refl _ _).alloc (Nat.le_refl _) _).trans (h1.mono (by simp))⟩
  · have hli : (N : Int) > 200 := by omega
    clear hr hw8 hry hw8y wx wy wz hc hcm hcy hcmy hN hM
    go_enter Try.func5, Try.ntmps5
    go_wp2_with (go_at_call 6; ((with_reducible refine (known15 _).mono ?_); rintro e1 w1 ⟨rfl, h1⟩))
    go_ret
    exact ⟨rfl, ((Below.refl _ _).alloc (Nat.le_refl _) _).trans (h1.mono (by simp))⟩
/-! ### the frame: written by program -/
theorem own : ownKnob Try.prog.godebug = none := by kernel_rfl
theorem laid : laidOutB Try.prog = true := by kernel_rfl
theorem contract {H : Type} {enc : TypeId × Value → H} {W : World} {base : Nat} {args : Array Value} {ds gs : List (DataW H)} {before : List MemPlace}
    (hval0 : ∀ (j : Nat) t v, Try.f5.params[j]? = some t → args[j]? = some v → Value.okWide Try.prog W .any base t v)
    (hW : DataW.Whole enc Try.prog Try.f5.params.toList Rows.wheelTwiceSpec.vars false W args.toList ds gs before) :
    Calls Try.prog 5 args W fun e W' => e = .returned (.bool true) ∧ Below W.heap.size W W' := by
  have hval : ∀ (j : Nat) t v, Try.f5.params[j]? = some t → args[j]? = some v → Value.okWide Try.prog W .any base t v := hval0
  obtain ⟨p, q, hA0, hV, rfl, hfz, hnd⟩ := hW
  have hA : DataW.TrodAll enc Try.prog W 0 (fun _ => true) true Try.f5.params.toList args.toList ds p := hA0
  rw [Try.params5] at hA hval
  obtain ⟨v0, vs0, d0, ds0, p0, q0, hargs, rfl, rfl, h0, r0⟩ := trodAll_cons hA
  obtain ⟨v1, vs1, d1, ds1, p1, q1, rfl, rfl, rfl, h1, r1⟩ := trodAll_cons r0
  obtain ⟨v2, vs2, d2, ds2, p2, q2, rfl, rfl, rfl, h2, r2⟩ := trodAll_cons r1
  obtain ⟨rfl, rfl, rfl⟩ := trodAll_nil r2
  obtain rfl : args = #[v0, v1, v2] := by cases args; simp_all
  clear hA0 hval0
  obtain ⟨A0, z0, c0, rfl, hc0, hm0, hw0, hr0⟩ := Kit.open_islice Try.underlying22 Try.underlying25 (by kernel_rfl) (hval 0 22 v0 rfl rfl) h0
  obtain ⟨A1, z1, c1, rfl, hc1, hm1, hw1, hr1⟩ := Kit.open_islice Try.underlying22 Try.underlying25 (by kernel_rfl) (hval 1 22 v1 rfl rfl) h1
  obtain ⟨cs2, rfl, hs2, hf2⟩ := Kit.open_array Try.underlying24 (by kernel_rfl) (by kernel_rfl) (hval 2 24 v2 rfl rfl) h2
  obtain ⟨u2_0, u2_1, u2_2, rfl⟩ := Kit.size_3 hs2
  obtain ⟨a2_0, rfl, w2_0⟩ := Kit.flat_int Try.underlying23 (v := u2_0) rfl (hf2 0 (by decide))
  obtain ⟨a2_1, rfl, w2_1⟩ := Kit.flat_int Try.underlying23 (v := u2_1) rfl (hf2 1 (by decide))
  obtain ⟨a2_2, rfl, w2_2⟩ := Kit.flat_int Try.underlying23 (v := u2_2) rfl (hf2 2 (by decide))
  exact walk (w := W) A0 z0 c0 hc0 hm0 hw0 hr0 A1 z1 c1 hc1 hm1 hw1 hr1 a2_0 w2_0 a2_1 w2_1 a2_2 w2_2
theorem fnIs {H : Type} : ∀ ds : List (DataW H), ds.length = Try.f5.params.toList.length → Rows.wheelTwiceSpec.fn H ds = { results := [.lit (.bool true)], args := ds } := by
  intro ds h
  rw [Try.params5] at h
  match ds, h with
  | [d1, d2, d3], _ => rfl
set_option maxRecDepth 100000 in
theorem lifted (os : Os) (started : os.Started) (H : Type) (enc : TypeId × Value → H) :
    ReturnsInHanded {} Try.checked os 5 .any (Rows.wheelTwiceSpec.pre6 enc Try.prog Try.f5 Rows.wheelTwiceRow.domain false) (Rows.wheelTwiceSpec.post enc Try.prog Try.f5 false true false false) := by
  refine returnsInHanded_of_change (C := Try.checked) own started (by kernel_rfl) Try.func5
    (ChangeSpec.witness6 (enc := enc) (C := Try.checked) false ⟨#[], #[.slice none 0 0, .slice none 0 0, .agg #[.int .i8 0, .int .i8 0, .int .i8 0]], []⟩ 8 (by kernel_rfl) (by kernel_rfl) (by kernel_rfl) (by kernel_rfl)) ?_
  intro W base args ds gs before hval hW _ _
  refine (contract hval hW).mono fun e W' ⟨he, hg⟩ => ?_
  subst he
  exact ⟨_, rfl, Kit.law_post (tb := 4) laid (by kernel_rfl) rfl (by kernel_rfl) Try.underlying4 fnIs hW hg⟩
theorem over : Rows.wheelTwiceRow.holds Try.pinned (OpenSpec.ofChange Rows.wheelTwiceSpec) :=
  OpenClaim.holds_of_wide 5 Try.f5 rfl rfl rfl rfl rfl rfl rfl ⟨rfl, rfl, rfl, rfl, rfl⟩ rfl rfl rfl rfl rfl (by kernel_rfl) Try.func5 (by kernel_rfl)
    (of_decide_eq_true (by kernel_rfl)) (by unfold Func.isWrapper; first | (rw [if_pos (by decide +kernel)]; kernel_rfl) | (rw [if_neg (by decide +kernel)]; exact ⟨rfl, rfl⟩))
    (fun os started H enc _ => lifted os started H enc)
/-- the statement. -/
theorem proved : Rows.WheelTwiceSaid :=
  over
end Go.Proofs.Ytbegabagokapoaa.lawWheelTwice
