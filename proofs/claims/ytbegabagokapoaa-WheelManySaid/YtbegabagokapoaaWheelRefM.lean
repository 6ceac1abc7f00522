/- Layer 15 (wheel): the document's numbers of many rows. -/
import Derived.Test.YtbegabagokapoaaWheelRef
import Derived.Test.YtbegabagokapoaaWheelMany
import Derived.Deep.RegionHeld3
namespace Go.Proofs.Ytbegabagokapoaa.CWheel
open Go Go.ChangeShapes Go.WideShapes Go.ChangeAt Go.RowKit
open FloatNum CFour
set_option linter.unusedVariables false

theorem refMany_nil (A : Option Addr) (n cA : Nat) (WA : Option Addr) (nW cW : Nat) (h : ¬ (n = nW ∧ 1 ≤ n ∧ n ≤ 1024)) (hn : n ≤ maxLen) (hw : nW ≤ maxLen) (w : World) :
    Calls Try.prog 13 #[.slice A n cA, .slice WA nW cW] w fun e' w' => e' = .returned (.slice none 0 0) ∧ w = w' := by
  by_cases h1 : n = 0
  · have k1 : (n : Int) = 0 := by omega
    clear h hn hw h1
    go_enter Try.func13, Try.ntmps13
    go_wp2_with fail
    go_ret
    exact ⟨rfl, rfl⟩
  · have k1 : ¬ (n : Int) = 0 := by omega
    by_cases h2 : n ≤ 1024
    · have k2 : ¬ (n : Int) > 1024 := by omega
      have k3 : ¬ (n : Int) = (nW : Int) := by omega
      have k4 : ((n : Int) == 0) = false := by simpa using k1
      have k5 : ((n : Int) != (nW : Int)) = true := by simpa using k3
      clear h hn hw h1 h2
      go_enter Try.func13, Try.ntmps13
      go_wp2_with fail
      go_ret
      exact ⟨rfl, rfl⟩
    · have k2 : (n : Int) > 1024 := by omega
      clear h hn hw h1 h2
      go_enter Try.func13, Try.ntmps13
      go_wp2_with fail
      go_ret
      exact ⟨rfl, rfl⟩
theorem row_rd {w : World} {B b o : Nat} {A : Option Addr} {xs : List Int} {k : IntKind} (h : Kit.Rd w B A (xs.map (.int k))) {i : Nat} (hi : i < xs.length) : ∃ b o, A = some ⟨b, o, none⟩ ∧ b < B ∧ w.cell? ⟨b, o + i, none⟩ = some (.int k (xs.getD i 0)) := by
  obtain ⟨b, o, rfl, hb, hc⟩ := h.plain (by simp; omega)
  exact ⟨b, o, rfl, hb, rd_at h hi⟩

set_option maxHeartbeats 8000000 in
theorem refMany_to (A : Option Addr) (rows : List (List Int)) (n cA : Nat) (AW : Option Addr) (nW cW : Nat) (W : Nat → Nat → Int) (m : Nat) (hn : rows.length = n) (hc : cA ≤ maxLen) (hnc : n ≤ cA) (hnW : nW ≤ 1000000) (hL6 : ∀ row ∈ rows, row.length ≤ 1000000) (hm : m = manyN rows nW)
    (hw8 : ∀ row ∈ rows, ∀ v ∈ row, (Lit.int .i16 v).wf = true) (hW : ∀ k i, InW (W k i)) (F : Nat → Int) (hF : F = mnAt (XR rows) W n) (w : World) (hr : Kit.RowsAt w w.heap.size .i16 A rows) (hw : Wts w w.heap.size AW nW W) :
    Calls Try.prog 13 #[.slice A n cA, .slice AW nW cW] w (Own64 w m (nums F m)) := by
  by_cases hg : n = nW ∧ 1 ≤ n ∧ n ≤ 1024
  · obtain ⟨rfl, h1, h2⟩ := hg
    obtain ⟨b0, o0, A0, L0, c0, rfl, hb0, hc0, e0, e1, e2, -⟩ := hr.row (i := 0) (by omega)
    rw [Nat.add_zero] at hc0
    have k1 : ¬ (n : Int) = 0 := by omega
    have k2 : ¬ (n : Int) > 1024 := by omega
    have k3 : (0 : Int) < (n : Int) := by omega
    have hz0 : (rows.getD 0 []).length = L0 := by rw [row0 (by omega)]; exact e0
    have hL0 : L0 ≤ 1000000 := by rw [← e0]; exact hL6 _ (List.getElem_mem _)
    have HR := Lib.hid hr
    have HWT := Lib.hid hw
    have HN := Lib.hid hn
    have HC := Lib.hid hc0
    have HZ := Lib.hid hz0
    have HM := Lib.hid hm
    have HFF := Lib.hid hF
    have HW8 := Lib.hid hw8
    have HWW := Lib.hid hW
    obtain ⟨i0, hi0, hi1, hi2, hi3⟩ := info_parts info_i64
    have HI := Lib.hid (And.intro hi0 (And.intro hi1 (And.intro hi2 hi3)))
    clear hr hw hn e0 e1 e2 hz0 hm hF hw8 hW hL6 hi0 hi1 hi2 hi3
    go_enter Try.func13, Try.ntmps13
    go_wp2_with fail
    go_loopw [5] (fun u wr => ∃ k nq : Nat, k ≤ n ∧ u = .int .i64 k ∧ Hid (∀ j (hj : j < rows.length), j < k → rows[j].length = L0) ∧ Hid (wr = w.drewN nq)) (fun u _ => n - (intOf u).toNat)
    case atStart => exact ⟨0, 0, Nat.zero_le _, rfl, Lib.hid (fun j _ hj => by omega), Lib.hid rfl⟩
    case round =>
      obtain ⟨k, nq, hk, rfl, HA, hwr⟩ := hrel
      obtain rfl := hwr.out
      clear hwr
      by_cases hlt : k < n
      · have hkI : (k : Int) < (n : Int) := by omega
        have hk0 : (0 : Int) ≤ (k : Int) := by omega
        obtain ⟨bk, ok, Ak, Lk, ck, hA, hbk, hck, ek, -⟩ := HR.out.row (i := k) (by have := HN.out; omega)
        obtain ⟨rfl, rfl⟩ : b0 = bk ∧ o0 = ok := by simpa using hA
        have EK := Lib.hid ek
        have hc00 := HC.out
        clear ek hA
        by_cases h4 : Lk = L0
        · subst h4
          have HA2 : Hid (∀ j (hj : j < rows.length), j < k + 1 → rows[j].length = Lk) := Lib.hid (fun j hj h => by
            rcases Nat.lt_or_ge j k with h5 | h5
            · exact HA.out j hj h5
            · obtain rfl : j = k := by omega
              exact EK.out)
          go_wp2_with fail
          go_quiet (fail)
          go_wp2_with fail
          go_roundw
          case rel => exact ⟨k + 1, _, by omega, by go_num, HA2, Lib.hid rfl⟩
          case measure => simp [intOf]; omega
        · have h5 : ¬ (Lk : Int) = (L0 : Int) := by omega
          have hf : fitB rows n = false := fit_no (k := k) (by have := HN.out; omega) (by rw [EK.out, HZ.out]; exact h4)
          have hm0 : m = 0 := by rw [HM.out]; unfold manyN; rw [hf]; rfl
          subst hm0
          clear h4 hf
          go_wp2_with fail
          go_quiet (fail)
          go_wp2_with fail
          go_ret
          exact ⟨_, rfl, own_nil _ _ _ _, Kit.below_drewN (Kit.below_drewN (Below.refl _ _) _) _⟩
      · obtain rfl : k = n := by omega
        have hf : fitB rows k = true := fit_of HN.out (by have := HN.out; omega) (by have := HN.out; omega) (fun j hj => by rw [HZ.out]; exact HA.out j hj (by have := HN.out; omega))
        have hm2 : m = L0 - 2 := by rw [HM.out]; unfold manyN; rw [if_pos hf, HZ.out]
        have HM2 := Lib.hid hm2
        have HB0 : Hid (Below w.heap.size w (w.drewN nq)) := Lib.hid (Kit.below_drewN (Below.refl _ _) nq)
        have hc00 := HC.out
        clear hf hm2 hlt
        go_wp2_with fail
        clear hc00
        go_loopw [6, 7] (fun v u wr => ∃ i : Nat, i ≤ m ∧ u = .int .i64 i ∧ Hid (wr.ownsRow w.heap.size 2 1 v i (I64v (nums F i))) ∧ Hid (Below w.heap.size w wr)) (fun _ u _ => m - (intOf u).toNat)
        case atStart => exact ⟨0, Nat.zero_le _, rfl, Lib.hid (own_nil _ _ _ _), HB0⟩
        case round =>
          clear HB0
          obtain ⟨i, hi, rfl, HO, HB⟩ := hrel
          have hc00 := (HB.out.cell (p := ⟨b0, o0, none⟩) hb0).trans HC.out
          obtain ⟨j2, hj2⟩ : ∃ j, i + 2 = j := ⟨_, rfl⟩
          have a2 : IntKind.i64.wrap ((i : Int) + 2) = (j2 : Int) := by have := HM2.out; rw [IntWalk.i64_in _ (by omega)]; omega
          by_cases hlt2 : i < m
          · have s1 : (j2 : Int) < (L0 : Int) := by have := HM2.out; omega
            have hm6 : m ≤ 1000000 := by have := HM2.out; omega
            clear hj2
            obtain ⟨V, cV, rfl, -, -, -⟩ := Kit.own_rd HO.out
            go_wp2_with fail
            clear hc00 a2 s1
            go_loopw [8, 9] (fun s u wx => ∃ t : Nat, t ≤ k ∧ u = .int .i64 t ∧ s = .int .i64 (sumN (fun j => slAt (XR rows j) (W j) i) t) ∧ Hid (wx.ownsRow w.heap.size 2 1 (.slice V i cV) i (I64v (nums F i))) ∧ Hid (Below w.heap.size w wx)) (fun _ u _ => k - (intOf u).toNat)
            case atStart => exact ⟨0, Nat.zero_le _, rfl, rfl, HO, HB⟩
            case round =>
              clear HO HB
              obtain ⟨t, ht, rfl, rfl, HO, HB⟩ := hrel
              by_cases hlt3 : t < k
              · have hkI : (t : Int) < (k : Int) := by omega
                have hk0 : (0 : Int) ≤ (t : Int) := by omega
                obtain ⟨bw, ow, rfl, hbw, hcw⟩ := HWT.out t hlt3
                obtain ⟨bk, ok, Ak, Lk, ck, hA, hbk, hck, ek, hn1, hn2, hrd⟩ := HR.out.row (i := t) (by have := HN.out; omega)
                obtain ⟨rfl, rfl⟩ : b0 = bk ∧ o0 = ok := by simpa using hA
                obtain ⟨row, hrow⟩ : ∃ row, rows[t]'(by have := HN.out; omega) = row := ⟨_, rfl⟩
                have hLk : Lk = L0 := by rw [← ek]; exact HA.out t (by have := HN.out; omega) hlt3
                subst hLk
                have hX : ∀ j, XR rows t j = row.getD j 0 := fun j => by rw [← hrow]; exact XR_at (by have := HN.out; omega) j
                have hw8' : ∀ v ∈ row, (Lit.int .i16 v).wf = true := fun v hv => HW8.out row (by rw [← hrow]; exact List.getElem_mem _) v hv
                rw [hrow] at ek hrd
                obtain ⟨x0, hx0⟩ : ∃ x, W t 0 = x := ⟨_, rfl⟩
                obtain ⟨x1, hx1⟩ : ∃ x, W t 1 = x := ⟨_, rfl⟩
                obtain ⟨x2, hx2⟩ : ∃ x, W t 2 = x := ⟨_, rfl⟩
                have HX0 := Lib.hid (hx0 ▸ HWW.out t 0)
                have HX1 := Lib.hid (hx1 ▸ HWW.out t 1)
                have HX2 := Lib.hid (hx2 ▸ HWW.out t 2)
                rw [hx0, hx1, hx2] at hcw
                have hFi : slideF row x0 x1 x2 i = slAt (XR rows t) (W t) i := by
                  rw [slide_at]; unfold slAt; rw [hX, hX, hX, hx0, hx1, hx2]
                have hsl := slAt_bd (XR_in HW8.out t) (HWW.out t) i
                have hsb := sumN_bd (B := 12582912) (fun j => slAt_bd (XR_in HW8.out j) (HWW.out j) i) t
                obtain ⟨y, hy⟩ : ∃ y, slAt (XR rows t) (W t) i = y := ⟨_, rfl⟩
                obtain ⟨s0, hs0⟩ : ∃ s0, sumN (fun j => slAt (XR rows j) (W j) i) t = s0 := ⟨_, rfl⟩
                have hs1 : sumN (fun j => slAt (XR rows j) (W j) i) (t + 1) = s0 + y := by rw [← hs0, ← hy]; rfl
                rw [hy] at hsl hFi
                rw [hs0] at hsb
                rw [hs0]
                have k5 : IntKind.i64.wrap (s0 + y) = s0 + y := IntWalk.i64_in _ (by omega)
                have HEK := Lib.hid ek
                have HFI := Lib.hid hFi
                have HW9 := Lib.hid hw8'
                have HRD := Lib.hid (hrd.below HB.out)
                have HCK : Hid (wr.cell? ⟨b0, o0 + t, none⟩ = some (.slice Ak Lk ck)) := Lib.hid ((HB.out.cell (p := ⟨b0, o0 + t, none⟩) hb0).trans hck)
                have HCW := Lib.hid (range_below hcw HB.out hbw)
                have HS1 := Lib.hid hs1
                have hi2 : i < Lk - 2 := by have := HM2.out; omega
                clear hrow hX hw8' hx0 hx1 hx2 hFi hsl hsb hy hs0 hs1 hck hcw hrd ek hA
                go_wp2_with fail
                refine wp_region_held_drew (S := fun WW : World => WW.cell? ⟨b0, o0 + t, none⟩ = some (.slice Ak Lk ck) ∧ WW.rangeAt bw (ow + t * 3) [.int .i8 x0, .int .i8 x1, .int .i8 x2]) (by kernel_rfl) ⟨HCK.out, HCW.out⟩ (fun hHeld => ?_)
                replace HO := Lib.hid (Kit.own_below HO.out (Below.refl wr.heap.size wr).drew)
                replace HB := Lib.hid HB.out.drew
                replace HRD := Lib.hid HRD.out.drew
                replace HCK : Hid (wr.drew.cell? ⟨b0, o0 + t, none⟩ = some (.slice Ak Lk ck)) := HCK
                replace HCW : Hid (wr.drew.rangeAt bw (ow + t * 3) [.int .i8 x0, .int .i8 x1, .int .i8 x2]) := HCW
                generalize wr.drew = W0 at HO HB HRD HCK HCW hHeld ⊢
                have hY : ∀ WW : World, (WW.cell? ⟨b0, o0 + t, none⟩ = some (.slice Ak Lk ck) ∧ WW.rangeAt bw (ow + t * 3) [.int .i8 x0, .int .i8 x1, .int .i8 x2]) → WW.rangeAt bw (ow + t * 3) [.int .i8 x0, .int .i8 x1, .int .i8 x2] := fun WW hW => hW.2
                refine wpAnyH_take (i := 0) (oi := ({ dst := some 56, op := Op.move (Operand.tmp 8), type := 2, pos := "ref.go:27", after := #[], guard := none } : Oper)) (v := ?_) rfl (by kernel_rfl) (by kernel_rfl) (by kernel_rfl) (fun _ _ _ h => h) (Or.inl ⟨by rfl, ?_⟩) (by assumption) ?_
                rotate_left
                · intro wS hSw
                  first
                    | (go_simp; done)
                    | (go_simp; with_reducible rfl)
                try simp only [Act.put, List.setIfInBounds_toArray, List.set_cons_zero, List.set_cons_succ]
                refine wpAnyH_take (i := 1) (oi := ({ dst := some 57, op := Op.move (Operand.tmp 0), type := 35, pos := "ref.go:27", after := #[], guard := none } : Oper)) (v := ?_) rfl (by kernel_rfl) (by kernel_rfl) (by kernel_rfl) (fun _ _ _ h => h) (Or.inl ⟨by rfl, ?_⟩) (by assumption) ?_
                rotate_left
                · intro wS hSw
                  first
                    | (go_simp; done)
                    | (go_simp; with_reducible rfl)
                try simp only [Act.put, List.setIfInBounds_toArray, List.set_cons_zero, List.set_cons_succ]
                refine wpAnyH_take (i := 2) (oi := ({ dst := some 58, op := Op.move (Operand.tmp 9), type := 3, pos := "ref.go:27", after := #[], guard := none } : Oper)) (v := ?_) rfl (by kernel_rfl) (by kernel_rfl) (by kernel_rfl) (fun _ _ _ h => h) (Or.inl ⟨by rfl, ?_⟩) (by assumption) ?_
                rotate_left
                · intro wS hSw
                  first
                    | (go_simp; done)
                    | (go_simp; with_reducible rfl)
                try simp only [Act.put, List.setIfInBounds_toArray, List.set_cons_zero, List.set_cons_succ]
                refine wpAnyH_take (i := 3) (oi := ({ dst := some 59, op := Op.indexAddr 35 (Operand.tmp 57) (Operand.tmp 58), type := 0, pos := "ref.go:27", after := #[{ on := 1, ground := Ground.data }, { on := 2, ground := Ground.data }], guard := none } : Oper)) (v := ?_) rfl (by kernel_rfl) (by kernel_rfl) (by kernel_rfl) (fun _ _ _ h => h) (Or.inl ⟨by rfl, ?_⟩) (by assumption) ?_
                rotate_left
                · intro wS hSw
                  first
                    | (go_simp; done)
                    | (go_simp; with_reducible rfl)
                try simp only [Act.put, List.setIfInBounds_toArray, List.set_cons_zero, List.set_cons_succ]
                refine wpAnyH_take (i := 4) (oi := ({ dst := some 60, op := Op.load 22 (Operand.tmp 59), type := 22, pos := "ref.go:27", after := #[{ on := 3, ground := Ground.data }], guard := none } : Oper)) (v := ?_) rfl (by kernel_rfl) (by kernel_rfl) (by kernel_rfl) (fun _ _ _ h => h) (Or.inl ⟨by rfl, ?_⟩) (by assumption) ?_
                rotate_left
                · intro wS hSw
                  obtain ⟨q1, q2⟩ := hSw
                  clear q2
                  first
                    | (go_simp; done)
                    | (go_simp; with_reducible rfl)
                try simp only [Act.put, List.setIfInBounds_toArray, List.set_cons_zero, List.set_cons_succ]
                refine wpAnyH_take (i := 5) (oi := ({ dst := some 61, op := Op.move (Operand.tmp 1), type := 36, pos := "ref.go:27", after := #[], guard := none } : Oper)) (v := ?_) rfl (by kernel_rfl) (by kernel_rfl) (by kernel_rfl) (fun _ _ _ h => h) (Or.inl ⟨by rfl, ?_⟩) (by assumption) ?_
                rotate_left
                · intro wS hSw
                  first
                    | (go_simp; done)
                    | (go_simp; with_reducible rfl)
                try simp only [Act.put, List.setIfInBounds_toArray, List.set_cons_zero, List.set_cons_succ]
                refine wpAnyH_take (i := 6) (oi := ({ dst := some 62, op := Op.move (Operand.tmp 9), type := 3, pos := "ref.go:27", after := #[], guard := none } : Oper)) (v := ?_) rfl (by kernel_rfl) (by kernel_rfl) (by kernel_rfl) (fun _ _ _ h => h) (Or.inl ⟨by rfl, ?_⟩) (by assumption) ?_
                rotate_left
                · intro wS hSw
                  first
                    | (go_simp; done)
                    | (go_simp; with_reducible rfl)
                try simp only [Act.put, List.setIfInBounds_toArray, List.set_cons_zero, List.set_cons_succ]
                refine wpAnyH_take (i := 7) (oi := ({ dst := some 63, op := Op.indexAddr 36 (Operand.tmp 61) (Operand.tmp 62), type := 0, pos := "ref.go:27", after := #[{ on := 5, ground := Ground.data }, { on := 6, ground := Ground.data }], guard := none } : Oper)) (v := ?_) rfl (by kernel_rfl) (by kernel_rfl) (by kernel_rfl) (fun _ _ _ h => h) (Or.inl ⟨by rfl, ?_⟩) (by assumption) ?_
                rotate_left
                · intro wS hSw
                  first
                    | (go_simp; done)
                    | (go_simp; with_reducible rfl)
                try simp only [Act.put, List.setIfInBounds_toArray, List.set_cons_zero, List.set_cons_succ]
                refine wpAnyH_take (i := 8) (oi := ({ dst := some 64, op := Op.load 24 (Operand.tmp 63), type := 24, pos := "ref.go:27", after := #[{ on := 7, ground := Ground.data }], guard := none } : Oper)) (v := .agg #[.int .i8 x0, .int .i8 x1, .int .i8 x2]) rfl (by kernel_rfl) (by kernel_rfl) (by kernel_rfl) (fun _ _ _ h => h) (yieldsIf_load_mid (by rfl) _ _ rfl bw (ow + t * 3) rfl [.int .i8 x0, .int .i8 x1, .int .i8 x2] _ hY Try.underlying24 rfl (by kernel_rfl)) (by assumption) ?_
                try simp only [Act.put, List.setIfInBounds_toArray, List.set_cons_zero, List.set_cons_succ]
                clear hY
                refine wpAnyH_take (i := 10) (oi := ({ dst := some 66, op := Op.move (Operand.tmp 7), type := 3, pos := "ref.go:27", after := #[], guard := none } : Oper)) (v := ?_) rfl (by kernel_rfl) (by kernel_rfl) (by kernel_rfl) (fun _ _ _ h => h) (Or.inl ⟨by rfl, ?_⟩) (by assumption) ?_
                rotate_left
                · intro wS hSw
                  first
                    | (go_simp; done)
                    | (go_simp; with_reducible rfl)
                try simp only [Act.put, List.setIfInBounds_toArray, List.set_cons_zero, List.set_cons_succ]
                refine wpAnyH_ready (rs := [9]) (by kernel_rfl) (by simp) ?_
                refine AllReadyH.cons (o := ({ dst := some 65, op := Op.call { callee := Callee.value (Operand.func 7), args := #[Operand.tmp 60, Operand.tmp 64], argTypes := #[22, 24] }, type := 28, pos := "ref.go:27", after := #[{ on := 4, ground := Ground.data }, { on := 8, ground := Ground.data }], guard := none } : Oper)) rfl (fun K hK => ?_) (AllReadyH.nil)
                go_simp
                go_at_call 7
                refine (refSlide_to Ak row Lk ck (Lk - 2) HEK.out rfl hL0 HW9.out x0 x1 x2 HX0.out HX1.out HX2.out _ rfl _ HB.out.size HRD.out).mono ?_
                rintro e W1 ⟨v2, rfl, hown2, hb1⟩
                obtain ⟨A2, c2, rfl, -, -, hrd2⟩ := Kit.own_rd hown2
                obtain ⟨b2, o2, rfl, hb2, hd2⟩ := row_rd (b := 0) (o := 0) hrd2 (i := i) (by rw [nums_len]; exact hi2)
                rw [nums_getD _ hi2, HFI.out] at hd2
                have HD2 := Lib.hid hd2
                replace HO := Lib.hid (Kit.own_below HO.out hb1)
                replace HCK : Hid (W1.cell? ⟨b0, o0 + t, none⟩ = some (.slice Ak Lk ck)) := Lib.hid ((hb1.cell (p := ⟨b0, o0 + t, none⟩) (Nat.lt_of_lt_of_le hb0 HB.out.size)).trans HCK.out)
                replace HCW := Lib.hid (range_below HCW.out hb1 (Nat.lt_of_lt_of_le hbw HB.out.size))
                replace HB := Lib.hid (HB.out.trans (hb1.mono HB.out.size))
                have u1 : (i : Int) < ((Lk - 2 : Nat) : Int) := by omega
                have u2 : (0 : Int) ≤ (i : Int) := by omega
                clear hown2 hrd2 hb1 hd2 hHeld
                dsimp only
                refine hK.out _ _ ?_ (fun hHeld => ?_)
                · exact ⟨HCK.out, HCW.out⟩
                clear hK K
                try simp only [Act.put, List.setIfInBounds_toArray, List.set_cons_zero, List.set_cons_succ]
                refine wpAnyH_take (i := 11) (oi := ({ dst := some 67, op := Op.indexAddr 28 (Operand.tmp 65) (Operand.tmp 66), type := 0, pos := "ref.go:27", after := #[{ on := 9, ground := Ground.data }, { on := 10, ground := Ground.data }], guard := none } : Oper)) (v := ?_) rfl (by kernel_rfl) (by kernel_rfl) (by kernel_rfl) (fun _ _ _ h => h) (Or.inl ⟨by rfl, ?_⟩) (by assumption) ?_
                rotate_left
                · intro wS hSw
                  first
                    | (go_simp; done)
                    | (go_simp; with_reducible rfl)
                try simp only [Act.put, List.setIfInBounds_toArray, List.set_cons_zero, List.set_cons_succ]
                refine wpAnyH_ready (rs := [12]) (by kernel_rfl) (by simp) ?_
                refine AllReadyH.cons (o := ({ dst := some 68, op := Op.load 2 (Operand.tmp 67), type := 2, pos := "ref.go:27", after := #[{ on := 11, ground := Ground.data }], guard := none } : Oper)) rfl (fun K hK => ?_) (AllReadyH.nil)
                have hd2 := HD2.out
                go_simp
                clear hHeld
                refine hK.out _ _ ?_ (fun hHeld => ?_)
                · exact ⟨HCK.out, HCW.out⟩
                clear hK K
                try simp only [Act.put, List.setIfInBounds_toArray, List.set_cons_zero, List.set_cons_succ]
                refine wpAnyH_take (i := 13) (oi := ({ dst := some 69, op := Op.binOp BinOp.add 2 (Operand.tmp 56) (Operand.tmp 68) 2, type := 2, pos := "ref.go:27", after := #[{ on := 0, ground := Ground.data }, { on := 12, ground := Ground.data }], guard := none } : Oper)) (v := ?_) rfl (by kernel_rfl) (by kernel_rfl) (by kernel_rfl) (fun _ _ _ h => h) (Or.inl ⟨by rfl, ?_⟩) (by assumption) ?_
                rotate_left
                · intro wS hSw
                  first
                    | (go_simp; done)
                    | (go_simp; with_reducible rfl)
                try simp only [Act.put, List.setIfInBounds_toArray, List.set_cons_zero, List.set_cons_succ]
                refine wpAnyH_take (i := 14) (oi := ({ dst := some 8, op := Op.assign (Operand.tmp 69), type := 2, pos := "ref.go:27", after := #[{ on := 13, ground := Ground.data }, { on := 9, ground := Ground.chain }, { on := 0, ground := Ground.phase }, { on := 1, ground := Ground.phase }, { on := 2, ground := Ground.phase }, { on := 3, ground := Ground.phase }, { on := 4, ground := Ground.phase }, { on := 5, ground := Ground.phase }, { on := 6, ground := Ground.phase }, { on := 7, ground := Ground.phase }, { on := 8, ground := Ground.phase }, { on := 9, ground := Ground.phase }, { on := 10, ground := Ground.phase }, { on := 11, ground := Ground.phase }, { on := 12, ground := Ground.phase }, { on := 13, ground := Ground.phase }], guard := none } : Oper)) (v := ?_) rfl (by kernel_rfl) (by kernel_rfl) (by kernel_rfl) (fun _ _ _ h => h) (Or.inl ⟨by rfl, ?_⟩) (by assumption) ?_
                rotate_left
                · intro wS hSw
                  first
                    | (go_simp; done)
                    | (go_simp; with_reducible rfl)
                try simp only [Act.put, List.setIfInBounds_toArray, List.set_cons_zero, List.set_cons_succ]
                refine wpAnyH_done (by kernel_rfl) ?_ _
                clear hHeld u1 u2
                go_wp2_with fail
                go_roundw
                case rel => exact ⟨t + 1, by omega, by go_num, by rw [HS1.out], HO, HB⟩
                case measure => simp [intOf]; omega
              · obtain rfl : t = k := by omega
                have hFi : F i = sumN (fun j => slAt (XR rows j) (W j) i) t := by rw [HFF.out]; rfl
                rw [← hFi]
                obtain ⟨r, hr⟩ : ∃ r, F i = r := ⟨_, rfl⟩
                rw [hr]
                have HFR := Lib.hid hr
                clear hr hFi
                go_wp2_with (at_builtin; refine Kit.wpList_append_rd _ rfl (.tmp 70) (.tmp 72) _ rfl w.heap.size 2 i0 (.int .i64 0) 1 8 Try.underlying28 HI.out.1 HI.out.2.1 HI.out.2.2.1 HI.out.2.2.2 rfl (by decide) _ i (I64v (nums F i)) rfl (Kit.own_below HO.out ((Below.refl _ _).alloc (Nat.le_refl _) _)) _ _ 1 1 [.int .i64 r] rfl rfl (Kit.Rd.new _ _ _ (Nat.lt_succ_self _)) ?_ ?_ ?_ ?_ ?_; (exact Kit.ints_one .i64 [r]); (unfold maxLen; omega); (omega); (have := HB.out.size; simp; omega); intro v2 w5 hown2 hg2 hat2)
                have hB5 : Below w.heap.size w w5 := (HB.out.alloc HB.out.size _).grown hg2 (by have := HB.out.size; simp; omega) (fun q hq => Kit.own_block_ge HO.out q hq)
                have e5 : I64v (nums F i) ++ [.int .i64 r] = I64v (nums F (i + 1)) := by
                  rw [nums_succ, HFR.out]; show _ = (nums F i ++ [r]).map _; rw [List.map_append]; rfl
                rw [e5] at hown2
                have HO5 := Lib.hid hown2
                have HB5 := Lib.hid hB5
                clear hown2 hg2 hat2 e5 hB5
                go_roundw
                case rel => exact ⟨i + 1, by omega, by go_num, HO5, HB5⟩
                case measure => simp [intOf]; omega
          · obtain rfl : i = m := by omega
            have s1 : ¬ (j2 : Int) < (L0 : Int) := by have := HM2.out; omega
            obtain ⟨V, cV, rfl, -, -, -⟩ := Kit.own_rd HO.out
            clear hj2
            go_wp2_with fail
            go_ret
            exact ⟨_, rfl, HO.out, HB.out⟩
  · have hm0 : m = 0 := by rw [hm]; unfold manyN; rw [fit_not (by omega)]; rfl
    subst hm0
    refine (refMany_nil A n cA AW nW cW hg (by omega) (by unfold maxLen; omega) w).mono ?_
    rintro e w' ⟨rfl, rfl⟩
    exact ⟨_, rfl, own_nil _ _ _ _, Below.refl _ _⟩
end Go.Proofs.Ytbegabagokapoaa.CWheel
