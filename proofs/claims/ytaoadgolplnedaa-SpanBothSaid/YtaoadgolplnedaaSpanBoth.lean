/- SpanBoth: whether any ranges lie within 32 bits, and from where to where all do, is what the document says; the call returns true and leaves its arguments as they were. No condition. -/
import Derived.Test.YtaoadgolplnedaaSpanBothC
import Derived.Test.YtaoadgolplnedaaRows
import Derived.ProofKit
import Derived.OpenShut
import Derived.Outline
import Derived.Deep.CutRange
import Derived.Deep.RegionHeld3
namespace Go.Proofs.Ytaoadgolplnedaa.lawSpanBoth
open Go Go.ChangeShapes Go.WideShapes Go.ChangeAt Go.RowKit Go.Deep
open Plain CSat CFix CShape CTensor CConv CSpan
set_option linter.unusedVariables false

theorem info_rng : (Try.prog.info? 35).map (fun i => (i.zero, i.size, i.bytes)) = some (some (.agg #[.int .i64 0, .int .i64 0]), 2, 16) := by kernel_rfl
theorem info_partsr {P : Program} {t : TypeId} {z : Option Value} {s b : Nat} (h : (P.info? t).map (fun i => (i.zero, i.size, i.bytes)) = some (z, s, b)) : ∃ i, P.info? t = some i ∧ i.zero = z ∧ i.size = s ∧ i.bytes = b := by
  cases hi : P.info? t with
  | none => rw [hi] at h; cases h
  | some i => rw [hi] at h; simp at h; exact ⟨i, rfl, h.1, h.2.1, h.2.2⟩
set_option maxRecDepth 100000 in
set_option maxHeartbeats 4000000 in
theorem walk_no {w : World} (A : Option Addr) (n c : Nat) (hfew : ¬ n ≤ 200) :
    Calls Try.prog 4 #[.slice A n c] w fun e w' => e = .returned (.bool true) ∧ Below w.heap.size w w' := by
  have h2 : (n : Int) > 200 := by omega
  go_enter Try.func4, Try.ntmps4
  go_wp2_with (go_at_call 7; (refine (known24 _).mono ?_); rintro e w4 ⟨rfl, hb4⟩)
  go_ret
  exact ⟨rfl, hb4⟩
set_option maxRecDepth 100000 in
set_option maxHeartbeats 16000000 in
theorem walk_yes {w : World} (A : Option Addr) (P Q : Nat → Int) (n c : Nat) (hP : I64b P) (hQ : I64b Q) (hf : n ≤ 200) (hr : ∀ k, k < n → ∃ b o, A = some ⟨b, o, none⟩ ∧ b < w.heap.size ∧ w.cell? ⟨b, o + k * 2, none⟩ = some (.int .i64 (P k)) ∧ w.cell? ⟨b, o + k * 2 + 1, none⟩ = some (.int .i64 (Q k))) :
    Calls Try.prog 4 #[.slice A n c] w fun e w' => e = .returned (.bool true) ∧ Below w.heap.size w w' := by
  obtain ⟨i0, hi0, hi1, hi2, hi3⟩ := info_partsr info_rng
  have HI := Lib.hid (And.intro hi0 (And.intro hi1 (And.intro hi2 hi3)))
  have HR := Lib.hid hr
  have HPB := Lib.hid hP
  have HQB := Lib.hid hQ
  have h1 : ¬ (n : Int) > 200 := by omega
  clear hi0 hi1 hi2 hi3 hr hP hQ
  go_enter Try.func4, Try.ntmps4
  go_wp2_with fail
  clear h1
  go_loopw [3, 4, 5, 6, 7] (fun v h l u i wr => ∃ k : Nat, k ≤ n ∧ i = .int .i64 k ∧ h = .bool (holdF P Q k) ∧ l = .int .i64 (loF P k) ∧ u = .int .i64 (hiF Q k) ∧ Hid (wr.ownsRow w.heap.size 35 2 v k (pairV P Q k)) ∧ Hid (Below w.heap.size w wr)) (fun _ _ _ _ i _ => n - (intOf i).toNat)
  case atStart => exact ⟨0, Nat.zero_le _, rfl, rfl, rfl, rfl, Lib.hid ⟨rfl, .inl ⟨rfl, rfl⟩⟩, Lib.hid (Below.refl _ _)⟩
  case round =>
    obtain ⟨k, hk, rfl, rfl, rfl, rfl, HO, HB⟩ := hrel
    by_cases hlt : k < n
    · obtain ⟨b, o, rfl, hbw0, hc0, hc1⟩ := HR.out k hlt
      have hcx := (HB.out.cell (p := ⟨b, o + k * 2, none⟩) hbw0).trans hc0
      have hcy := (HB.out.cell (p := ⟨b, o + k * 2 + 1, none⟩) hbw0).trans hc1
      have hbw : b < w.heap.size := hbw0
      have hkI : (k : Int) < (n : Int) := by omega
      have hkn : (0 : Int) ≤ (k : Int) := by omega
      obtain ⟨x1, x2⟩ := HPB.out k
      obtain ⟨y1, y2⟩ := HQB.out k
      obtain ⟨x, hxe⟩ : ∃ x, P k = x := ⟨_, rfl⟩
      obtain ⟨y, hye⟩ : ∃ y, Q k = y := ⟨_, rfl⟩
      rw [hxe] at hcx x1 x2
      rw [hye] at hcy y1 y2
      have HPX := Lib.hid hxe
      have HQX := Lib.hid hye
      clear hc0 hc1 hxe hye hbw0
      by_cases hk0 : k = 0
      · have HK0 := Lib.hid hk0
        have z1 : ((k : Int) == 0) = true := by simp [hk0]
        clear hk0
        cases hh : holdF P Q k
        · have HH := Lib.hid (show holdF P Q (k + 1) = false by simp only [holdF]; rw [hh, HPX.out, HQX.out]; simp)
          have HL := Lib.hid (show loF P (k + 1) = x by rw [HK0.out, loF_one, ← HPX.out, HK0.out])
          have HU := Lib.hid (show hiF Q (k + 1) = y by rw [HK0.out, hiF_one, ← HQX.out, HK0.out])
          clear hh
          generalize loF P k = L0 at *
          generalize hiF Q k = U0 at *
          go_wp2_with fail
          refine wp_region_held_drew (S := fun w' => w'.cell? ⟨b, o + k * 2, none⟩ = some (.int .i64 x) ∧ w'.cell? ⟨b, o + k * 2 + 1, none⟩ = some (.int .i64 y)) (by kernel_rfl) ⟨hcx, hcy⟩ (fun hHeld => ?_)
          have HO2 : Hid (wr.drew.ownsRow w.heap.size 35 2 _ k (pairV P Q k)) := Lib.hid (Kit.own_below HO.out (Below.refl _ _).drew)
          have HB2 : Hid (Below w.heap.size w wr.drew) := Lib.hid HB.out.drew
          clear HO HB hcx hcy
          generalize wr.drew = Wa at HO2 HB2 hHeld ⊢
          refine wpAnyH_take (i := 0) (oi := ({ dst := some 18, op := Op.move (Operand.tmp 3), type := 30, pos := "law.go:50", after := #[], guard := none } : Oper)) (v := ?_) rfl (by kernel_rfl) (by kernel_rfl) (by kernel_rfl) (fun _ _ _ h => h) (Or.inl ⟨by rfl, ?_⟩) (by assumption) ?_
          rotate_left
          · intro wS hSw
            first
              | (go_simp; done)
              | (go_simp; with_reducible rfl)
          try simp only [Act.put, List.setIfInBounds_toArray, List.set_cons_zero, List.set_cons_succ]
          refine wpAnyH_take (i := 1) (oi := ({ dst := some 19, op := Op.move (Operand.tmp 0), type := 40, pos := "law.go:50", after := #[], guard := none } : Oper)) (v := ?_) rfl (by kernel_rfl) (by kernel_rfl) (by kernel_rfl) (fun _ _ _ h => h) (Or.inl ⟨by rfl, ?_⟩) (by assumption) ?_
          rotate_left
          · intro wS hSw
            first
              | (go_simp; done)
              | (go_simp; with_reducible rfl)
          try simp only [Act.put, List.setIfInBounds_toArray, List.set_cons_zero, List.set_cons_succ]
          refine wpAnyH_take (i := 2) (oi := ({ dst := some 20, op := Op.move (Operand.tmp 7), type := 3, pos := "law.go:50", after := #[], guard := none } : Oper)) (v := ?_) rfl (by kernel_rfl) (by kernel_rfl) (by kernel_rfl) (fun _ _ _ h => h) (Or.inl ⟨by rfl, ?_⟩) (by assumption) ?_
          rotate_left
          · intro wS hSw
            first
              | (go_simp; done)
              | (go_simp; with_reducible rfl)
          try simp only [Act.put, List.setIfInBounds_toArray, List.set_cons_zero, List.set_cons_succ]
          refine wpAnyH_take (i := 3) (oi := ({ dst := some 21, op := Op.indexAddr 40 (Operand.tmp 19) (Operand.tmp 20), type := 0, pos := "law.go:50", after := #[{ on := 1, ground := Ground.data }, { on := 2, ground := Ground.data }], guard := none } : Oper)) (v := ?_) rfl (by kernel_rfl) (by kernel_rfl) (by kernel_rfl) (fun _ _ _ h => h) (Or.inl ⟨by rfl, ?_⟩) (by assumption) ?_
          rotate_left
          · intro wS hSw
            first
              | (go_simp; done)
              | (go_simp; with_reducible rfl)
          try simp only [Act.put, List.setIfInBounds_toArray, List.set_cons_zero, List.set_cons_succ]
          refine wpAnyH_take (i := 4) (oi := ({ dst := some 22, op := Op.indexAddr 41 (Operand.tmp 21) (Operand.const (Value.int IntKind.i64 0)), type := 0, pos := "law.go:50", after := #[{ on := 3, ground := Ground.data }], guard := none } : Oper)) (v := ?_) rfl (by kernel_rfl) (by kernel_rfl) (by kernel_rfl) (fun _ _ _ h => h) (Or.inl ⟨by rfl, ?_⟩) (by assumption) ?_
          rotate_left
          · intro wS hSw
            first
              | (go_simp; done)
              | (go_simp; with_reducible rfl)
          try simp only [Act.put, List.setIfInBounds_toArray, List.set_cons_zero, List.set_cons_succ]
          refine wpAnyH_take (i := 5) (oi := ({ dst := some 23, op := Op.load 3 (Operand.tmp 22), type := 3, pos := "law.go:50", after := #[{ on := 4, ground := Ground.data }], guard := none } : Oper)) (v := ?_) rfl (by kernel_rfl) (by kernel_rfl) (by kernel_rfl) (fun _ _ _ h => h) (Or.inl ⟨by rfl, ?_⟩) (by assumption) ?_
          rotate_left
          · intro wS hSw
            obtain ⟨hq1, hq2⟩ := hSw
            first
              | (go_simp; done)
              | (go_simp; with_reducible rfl)
          try simp only [Act.put, List.setIfInBounds_toArray, List.set_cons_zero, List.set_cons_succ]
          refine wpAnyH_take (i := 6) (oi := ({ dst := some 24, op := Op.move (Operand.tmp 0), type := 40, pos := "law.go:50", after := #[], guard := none } : Oper)) (v := ?_) rfl (by kernel_rfl) (by kernel_rfl) (by kernel_rfl) (fun _ _ _ h => h) (Or.inl ⟨by rfl, ?_⟩) (by assumption) ?_
          rotate_left
          · intro wS hSw
            first
              | (go_simp; done)
              | (go_simp; with_reducible rfl)
          try simp only [Act.put, List.setIfInBounds_toArray, List.set_cons_zero, List.set_cons_succ]
          refine wpAnyH_take (i := 7) (oi := ({ dst := some 25, op := Op.move (Operand.tmp 7), type := 3, pos := "law.go:50", after := #[], guard := none } : Oper)) (v := ?_) rfl (by kernel_rfl) (by kernel_rfl) (by kernel_rfl) (fun _ _ _ h => h) (Or.inl ⟨by rfl, ?_⟩) (by assumption) ?_
          rotate_left
          · intro wS hSw
            first
              | (go_simp; done)
              | (go_simp; with_reducible rfl)
          try simp only [Act.put, List.setIfInBounds_toArray, List.set_cons_zero, List.set_cons_succ]
          refine wpAnyH_take (i := 8) (oi := ({ dst := some 26, op := Op.indexAddr 40 (Operand.tmp 24) (Operand.tmp 25), type := 0, pos := "law.go:50", after := #[{ on := 6, ground := Ground.data }, { on := 7, ground := Ground.data }], guard := none } : Oper)) (v := ?_) rfl (by kernel_rfl) (by kernel_rfl) (by kernel_rfl) (fun _ _ _ h => h) (Or.inl ⟨by rfl, ?_⟩) (by assumption) ?_
          rotate_left
          · intro wS hSw
            first
              | (go_simp; done)
              | (go_simp; with_reducible rfl)
          try simp only [Act.put, List.setIfInBounds_toArray, List.set_cons_zero, List.set_cons_succ]
          refine wpAnyH_take (i := 9) (oi := ({ dst := some 27, op := Op.indexAddr 41 (Operand.tmp 26) (Operand.const (Value.int IntKind.i64 1)), type := 0, pos := "law.go:50", after := #[{ on := 8, ground := Ground.data }], guard := none } : Oper)) (v := ?_) rfl (by kernel_rfl) (by kernel_rfl) (by kernel_rfl) (fun _ _ _ h => h) (Or.inl ⟨by rfl, ?_⟩) (by assumption) ?_
          rotate_left
          · intro wS hSw
            first
              | (go_simp; done)
              | (go_simp; with_reducible rfl)
          try simp only [Act.put, List.setIfInBounds_toArray, List.set_cons_zero, List.set_cons_succ]
          refine wpAnyH_take (i := 10) (oi := ({ dst := some 28, op := Op.load 3 (Operand.tmp 27), type := 3, pos := "law.go:50", after := #[{ on := 9, ground := Ground.data }], guard := none } : Oper)) (v := ?_) rfl (by kernel_rfl) (by kernel_rfl) (by kernel_rfl) (fun _ _ _ h => h) (Or.inl ⟨by rfl, ?_⟩) (by assumption) ?_
          rotate_left
          · intro wS hSw
            obtain ⟨hq1, hq2⟩ := hSw
            first
              | (go_simp; done)
              | (go_simp; with_reducible rfl)
          try simp only [Act.put, List.setIfInBounds_toArray, List.set_cons_zero, List.set_cons_succ]
          refine wpAnyH_take (i := 11) (oi := ({ dst := some 29, op := Op.build 35 #[(0, Operand.tmp 23), (1, Operand.tmp 28)], type := 35, pos := "law.go:50", after := #[{ on := 5, ground := Ground.data }, { on := 10, ground := Ground.data }], guard := none } : Oper)) (v := ?_) rfl (by kernel_rfl) (by kernel_rfl) (by kernel_rfl) (fun _ _ _ h => h) (Or.inl ⟨by rfl, ?_⟩) (by assumption) ?_
          rotate_left
          · intro wS hSw
            first
              | (go_simp; done)
              | (go_simp; with_reducible rfl)
          try simp only [Act.put, List.setIfInBounds_toArray, List.set_cons_zero, List.set_cons_succ]
          refine wpAnyH_ready (rs := [12]) (by kernel_rfl) (by simp) ?_
          refine AllReadyH.cons (o := ({ dst := some 30, op := Op.buildSlice 30 1 #[(0, Operand.tmp 29)], type := 30, pos := "law.go:50", after := #[{ on := 11, ground := Ground.data }], guard := none } : Oper)) rfl (fun Kq hK => ?_) (AllReadyH.nil)
          go_simp
          have hal : Below Wa.heap.size Wa (Wa.alloc (.cells #[.int .i64 x, .int .i64 y] 35)) := (Below.refl _ _).alloc (Nat.le_refl _) _
          refine hK.out _ _ ?_ (fun hHeld => ?_)
          · exact ⟨(hal.cell (p := ⟨b, o + k * 2, none⟩) (Kit.block_lt hHeld.1)).trans hHeld.1, (hal.cell (p := ⟨b, o + k * 2 + 1, none⟩) (Kit.block_lt hHeld.2)).trans hHeld.2⟩
          clear hK Kq
          try simp only [Act.put, List.setIfInBounds_toArray, List.set_cons_zero, List.set_cons_succ]
          have HXR := Lib.hid (Kit.Rd.new Wa [.int .i64 x, .int .i64 y] 35 (Nat.lt_succ_self _))
          replace HO2 := Lib.hid (Kit.own_below HO2.out hal)
          replace HB2 := Lib.hid (HB2.out.trans (hal.mono HB2.out.size))
          clear hal
          generalize Wa.alloc (.cells #[.int .i64 x, .int .i64 y] 35) = Wb at HO2 HB2 HXR hHeld ⊢
          have hzb : w.heap.size ≤ Wb.heap.size := HB2.out.size
          refine wpAnyH_ready (rs := [13]) (by kernel_rfl) (by simp) ?_
          refine AllReadyH.cons (o := ({ dst := some 31, op := Op.call { callee := Callee.builtin Builtin.append, args := #[Operand.tmp 18, Operand.tmp 30], argTypes := #[30, 30] }, type := 30, pos := "law.go:50", after := #[{ on := 0, ground := Ground.data }, { on := 12, ground := Ground.data }], guard := none } : Oper)) rfl (fun Kq hK => ?_) (AllReadyH.nil)
          refine Kit.step_append_rd _ rfl (.tmp 18) (.tmp 30) _ rfl w.heap.size 35 i0 (.agg #[.int .i64 0, .int .i64 0]) 2 16 Try.underlying30 HI.out.1 HI.out.2.1 HI.out.2.2.1 HI.out.2.2.2 rfl (by decide) _ k (pairV P Q k) rfl HO2.out _ _ 1 1 [.int .i64 x, .int .i64 y] rfl rfl HXR.out (Kit.ints_one .i64 [x, y]) (by unfold maxLen; omega) (by omega) hzb ?_
          intro v5 w5 hown5 hg5 _
          have hb5 : Below w.heap.size Wb w5 := (Below.refl _ _).grown hg5 hzb (Kit.own_block_ge HO2.out)
          have HB5 := Lib.hid (HB2.out.trans hb5)
          have HO5 : Hid (w5.ownsRow w.heap.size 35 2 v5 (k + 1) (pairV P Q (k + 1))) := Lib.hid (by show w5.ownsRow _ _ _ _ _ (pairV P Q k ++ [.int .i64 (P k), .int .i64 (Q k)]); rw [HPX.out, HQX.out]; exact hown5)
          dsimp only
          refine hK.out _ _ ?_ (fun hHeld => ?_)
          · exact ⟨(hb5.cell (p := ⟨b, o + k * 2, none⟩) hbw).trans hHeld.1, (hb5.cell (p := ⟨b, o + k * 2 + 1, none⟩) hbw).trans hHeld.2⟩
          clear hK Kq
          try simp only [Act.put, List.setIfInBounds_toArray, List.set_cons_zero, List.set_cons_succ]
          refine wpAnyH_take (i := 14) (oi := ({ dst := some 3, op := Op.assign (Operand.tmp 31), type := 30, pos := "law.go:50", after := #[{ on := 13, ground := Ground.data }, { on := 13, ground := Ground.chain }, { on := 0, ground := Ground.phase }, { on := 1, ground := Ground.phase }, { on := 2, ground := Ground.phase }, { on := 3, ground := Ground.phase }, { on := 4, ground := Ground.phase }, { on := 5, ground := Ground.phase }, { on := 6, ground := Ground.phase }, { on := 7, ground := Ground.phase }, { on := 8, ground := Ground.phase }, { on := 9, ground := Ground.phase }, { on := 10, ground := Ground.phase }, { on := 11, ground := Ground.phase }, { on := 12, ground := Ground.phase }, { on := 13, ground := Ground.phase }], guard := none } : Oper)) (v := ?_) rfl (by kernel_rfl) (by kernel_rfl) (by kernel_rfl) (fun _ _ _ h => h) (Or.inl ⟨by rfl, ?_⟩) (by assumption) ?_
          rotate_left
          · intro wS hSw
            first
              | (go_simp; done)
              | (go_simp; with_reducible rfl)
          try simp only [Act.put, List.setIfInBounds_toArray, List.set_cons_zero, List.set_cons_succ]
          refine wpAnyH_done (by kernel_rfl) ?_ _
          obtain ⟨hcx, hcy⟩ := hHeld
          clear HO2 HB2 HXR hzb hown5 hg5 hb5
          have hz0 : w5.cell? ⟨b, o, none⟩ = some (.int .i64 x) := by have := hcx; rwa [HK0.out, Nat.zero_mul, Nat.add_zero] at this
          have hz1 : w5.cell? ⟨b, o + 1, none⟩ = some (.int .i64 y) := by have := hcy; rwa [HK0.out, Nat.zero_mul, Nat.add_zero] at this
          go_wp2_with fail
          go_quiet (fail)
          go_wp2_with fail
          go_quiet (fail)
          go_wp2
          go_roundw
          case rel =>
            refine ⟨k + 1, by omega, by go_num, ?_, ?_, ?_, ?_, ?_⟩
            · first | exact congrArg _ HH.out.symm | (rw [HH.out]; simp; done) | (rw [HH.out])
            · first | exact congrArg _ HL.out.symm | (rw [HL.out]; done) | (rw [HL.out]; simp)
            · first | exact congrArg _ HU.out.symm | (rw [HU.out]; done) | (rw [HU.out]; simp)
            · exact Lib.hid (Kit.own_below HO5.out (Kit.below_drewN (Below.refl _ _) _))
            · exact Lib.hid (Kit.below_drewN HB5.out _)
          case measure => simp [intOf]; omega
        · by_cases hx : -2147483648 ≤ x
          · have hx2 : x ≥ -2147483648 := hx
            have HH := Lib.hid (show holdF P Q (k + 1) = decide (y ≤ 2147483647) by simp only [holdF]; rw [hh, HPX.out, HQX.out]; simp [hx])
            have HL := Lib.hid (show loF P (k + 1) = x by rw [HK0.out, loF_one, ← HPX.out, HK0.out])
            have HU := Lib.hid (show hiF Q (k + 1) = y by rw [HK0.out, hiF_one, ← HQX.out, HK0.out])
            clear hh
            generalize loF P k = L0 at *
            generalize hiF Q k = U0 at *
            go_wp2_with fail
            refine wp_region_held_drew (S := fun w' => w'.cell? ⟨b, o + k * 2, none⟩ = some (.int .i64 x) ∧ w'.cell? ⟨b, o + k * 2 + 1, none⟩ = some (.int .i64 y)) (by kernel_rfl) ⟨hcx, hcy⟩ (fun hHeld => ?_)
            have HO2 : Hid (wr.drew.ownsRow w.heap.size 35 2 _ k (pairV P Q k)) := Lib.hid (Kit.own_below HO.out (Below.refl _ _).drew)
            have HB2 : Hid (Below w.heap.size w wr.drew) := Lib.hid HB.out.drew
            clear HO HB hcx hcy
            generalize wr.drew = Wa at HO2 HB2 hHeld ⊢
            refine wpAnyH_take (i := 0) (oi := ({ dst := some 18, op := Op.move (Operand.tmp 3), type := 30, pos := "law.go:50", after := #[], guard := none } : Oper)) (v := ?_) rfl (by kernel_rfl) (by kernel_rfl) (by kernel_rfl) (fun _ _ _ h => h) (Or.inl ⟨by rfl, ?_⟩) (by assumption) ?_
            rotate_left
            · intro wS hSw
              first
                | (go_simp; done)
                | (go_simp; with_reducible rfl)
            try simp only [Act.put, List.setIfInBounds_toArray, List.set_cons_zero, List.set_cons_succ]
            refine wpAnyH_take (i := 1) (oi := ({ dst := some 19, op := Op.move (Operand.tmp 0), type := 40, pos := "law.go:50", after := #[], guard := none } : Oper)) (v := ?_) rfl (by kernel_rfl) (by kernel_rfl) (by kernel_rfl) (fun _ _ _ h => h) (Or.inl ⟨by rfl, ?_⟩) (by assumption) ?_
            rotate_left
            · intro wS hSw
              first
                | (go_simp; done)
                | (go_simp; with_reducible rfl)
            try simp only [Act.put, List.setIfInBounds_toArray, List.set_cons_zero, List.set_cons_succ]
            refine wpAnyH_take (i := 2) (oi := ({ dst := some 20, op := Op.move (Operand.tmp 7), type := 3, pos := "law.go:50", after := #[], guard := none } : Oper)) (v := ?_) rfl (by kernel_rfl) (by kernel_rfl) (by kernel_rfl) (fun _ _ _ h => h) (Or.inl ⟨by rfl, ?_⟩) (by assumption) ?_
            rotate_left
            · intro wS hSw
              first
                | (go_simp; done)
                | (go_simp; with_reducible rfl)
            try simp only [Act.put, List.setIfInBounds_toArray, List.set_cons_zero, List.set_cons_succ]
            refine wpAnyH_take (i := 3) (oi := ({ dst := some 21, op := Op.indexAddr 40 (Operand.tmp 19) (Operand.tmp 20), type := 0, pos := "law.go:50", after := #[{ on := 1, ground := Ground.data }, { on := 2, ground := Ground.data }], guard := none } : Oper)) (v := ?_) rfl (by kernel_rfl) (by kernel_rfl) (by kernel_rfl) (fun _ _ _ h => h) (Or.inl ⟨by rfl, ?_⟩) (by assumption) ?_
            rotate_left
            · intro wS hSw
              first
                | (go_simp; done)
                | (go_simp; with_reducible rfl)
            try simp only [Act.put, List.setIfInBounds_toArray, List.set_cons_zero, List.set_cons_succ]
            refine wpAnyH_take (i := 4) (oi := ({ dst := some 22, op := Op.indexAddr 41 (Operand.tmp 21) (Operand.const (Value.int IntKind.i64 0)), type := 0, pos := "law.go:50", after := #[{ on := 3, ground := Ground.data }], guard := none } : Oper)) (v := ?_) rfl (by kernel_rfl) (by kernel_rfl) (by kernel_rfl) (fun _ _ _ h => h) (Or.inl ⟨by rfl, ?_⟩) (by assumption) ?_
            rotate_left
            · intro wS hSw
              first
                | (go_simp; done)
                | (go_simp; with_reducible rfl)
            try simp only [Act.put, List.setIfInBounds_toArray, List.set_cons_zero, List.set_cons_succ]
            refine wpAnyH_take (i := 5) (oi := ({ dst := some 23, op := Op.load 3 (Operand.tmp 22), type := 3, pos := "law.go:50", after := #[{ on := 4, ground := Ground.data }], guard := none } : Oper)) (v := ?_) rfl (by kernel_rfl) (by kernel_rfl) (by kernel_rfl) (fun _ _ _ h => h) (Or.inl ⟨by rfl, ?_⟩) (by assumption) ?_
            rotate_left
            · intro wS hSw
              obtain ⟨hq1, hq2⟩ := hSw
              first
                | (go_simp; done)
                | (go_simp; with_reducible rfl)
            try simp only [Act.put, List.setIfInBounds_toArray, List.set_cons_zero, List.set_cons_succ]
            refine wpAnyH_take (i := 6) (oi := ({ dst := some 24, op := Op.move (Operand.tmp 0), type := 40, pos := "law.go:50", after := #[], guard := none } : Oper)) (v := ?_) rfl (by kernel_rfl) (by kernel_rfl) (by kernel_rfl) (fun _ _ _ h => h) (Or.inl ⟨by rfl, ?_⟩) (by assumption) ?_
            rotate_left
            · intro wS hSw
              first
                | (go_simp; done)
                | (go_simp; with_reducible rfl)
            try simp only [Act.put, List.setIfInBounds_toArray, List.set_cons_zero, List.set_cons_succ]
            refine wpAnyH_take (i := 7) (oi := ({ dst := some 25, op := Op.move (Operand.tmp 7), type := 3, pos := "law.go:50", after := #[], guard := none } : Oper)) (v := ?_) rfl (by kernel_rfl) (by kernel_rfl) (by kernel_rfl) (fun _ _ _ h => h) (Or.inl ⟨by rfl, ?_⟩) (by assumption) ?_
            rotate_left
            · intro wS hSw
              first
                | (go_simp; done)
                | (go_simp; with_reducible rfl)
            try simp only [Act.put, List.setIfInBounds_toArray, List.set_cons_zero, List.set_cons_succ]
            refine wpAnyH_take (i := 8) (oi := ({ dst := some 26, op := Op.indexAddr 40 (Operand.tmp 24) (Operand.tmp 25), type := 0, pos := "law.go:50", after := #[{ on := 6, ground := Ground.data }, { on := 7, ground := Ground.data }], guard := none } : Oper)) (v := ?_) rfl (by kernel_rfl) (by kernel_rfl) (by kernel_rfl) (fun _ _ _ h => h) (Or.inl ⟨by rfl, ?_⟩) (by assumption) ?_
            rotate_left
            · intro wS hSw
              first
                | (go_simp; done)
                | (go_simp; with_reducible rfl)
            try simp only [Act.put, List.setIfInBounds_toArray, List.set_cons_zero, List.set_cons_succ]
            refine wpAnyH_take (i := 9) (oi := ({ dst := some 27, op := Op.indexAddr 41 (Operand.tmp 26) (Operand.const (Value.int IntKind.i64 1)), type := 0, pos := "law.go:50", after := #[{ on := 8, ground := Ground.data }], guard := none } : Oper)) (v := ?_) rfl (by kernel_rfl) (by kernel_rfl) (by kernel_rfl) (fun _ _ _ h => h) (Or.inl ⟨by rfl, ?_⟩) (by assumption) ?_
            rotate_left
            · intro wS hSw
              first
                | (go_simp; done)
                | (go_simp; with_reducible rfl)
            try simp only [Act.put, List.setIfInBounds_toArray, List.set_cons_zero, List.set_cons_succ]
            refine wpAnyH_take (i := 10) (oi := ({ dst := some 28, op := Op.load 3 (Operand.tmp 27), type := 3, pos := "law.go:50", after := #[{ on := 9, ground := Ground.data }], guard := none } : Oper)) (v := ?_) rfl (by kernel_rfl) (by kernel_rfl) (by kernel_rfl) (fun _ _ _ h => h) (Or.inl ⟨by rfl, ?_⟩) (by assumption) ?_
            rotate_left
            · intro wS hSw
              obtain ⟨hq1, hq2⟩ := hSw
              first
                | (go_simp; done)
                | (go_simp; with_reducible rfl)
            try simp only [Act.put, List.setIfInBounds_toArray, List.set_cons_zero, List.set_cons_succ]
            refine wpAnyH_take (i := 11) (oi := ({ dst := some 29, op := Op.build 35 #[(0, Operand.tmp 23), (1, Operand.tmp 28)], type := 35, pos := "law.go:50", after := #[{ on := 5, ground := Ground.data }, { on := 10, ground := Ground.data }], guard := none } : Oper)) (v := ?_) rfl (by kernel_rfl) (by kernel_rfl) (by kernel_rfl) (fun _ _ _ h => h) (Or.inl ⟨by rfl, ?_⟩) (by assumption) ?_
            rotate_left
            · intro wS hSw
              first
                | (go_simp; done)
                | (go_simp; with_reducible rfl)
            try simp only [Act.put, List.setIfInBounds_toArray, List.set_cons_zero, List.set_cons_succ]
            refine wpAnyH_ready (rs := [12]) (by kernel_rfl) (by simp) ?_
            refine AllReadyH.cons (o := ({ dst := some 30, op := Op.buildSlice 30 1 #[(0, Operand.tmp 29)], type := 30, pos := "law.go:50", after := #[{ on := 11, ground := Ground.data }], guard := none } : Oper)) rfl (fun Kq hK => ?_) (AllReadyH.nil)
            go_simp
            have hal : Below Wa.heap.size Wa (Wa.alloc (.cells #[.int .i64 x, .int .i64 y] 35)) := (Below.refl _ _).alloc (Nat.le_refl _) _
            refine hK.out _ _ ?_ (fun hHeld => ?_)
            · exact ⟨(hal.cell (p := ⟨b, o + k * 2, none⟩) (Kit.block_lt hHeld.1)).trans hHeld.1, (hal.cell (p := ⟨b, o + k * 2 + 1, none⟩) (Kit.block_lt hHeld.2)).trans hHeld.2⟩
            clear hK Kq
            try simp only [Act.put, List.setIfInBounds_toArray, List.set_cons_zero, List.set_cons_succ]
            have HXR := Lib.hid (Kit.Rd.new Wa [.int .i64 x, .int .i64 y] 35 (Nat.lt_succ_self _))
            replace HO2 := Lib.hid (Kit.own_below HO2.out hal)
            replace HB2 := Lib.hid (HB2.out.trans (hal.mono HB2.out.size))
            clear hal
            generalize Wa.alloc (.cells #[.int .i64 x, .int .i64 y] 35) = Wb at HO2 HB2 HXR hHeld ⊢
            have hzb : w.heap.size ≤ Wb.heap.size := HB2.out.size
            refine wpAnyH_ready (rs := [13]) (by kernel_rfl) (by simp) ?_
            refine AllReadyH.cons (o := ({ dst := some 31, op := Op.call { callee := Callee.builtin Builtin.append, args := #[Operand.tmp 18, Operand.tmp 30], argTypes := #[30, 30] }, type := 30, pos := "law.go:50", after := #[{ on := 0, ground := Ground.data }, { on := 12, ground := Ground.data }], guard := none } : Oper)) rfl (fun Kq hK => ?_) (AllReadyH.nil)
            refine Kit.step_append_rd _ rfl (.tmp 18) (.tmp 30) _ rfl w.heap.size 35 i0 (.agg #[.int .i64 0, .int .i64 0]) 2 16 Try.underlying30 HI.out.1 HI.out.2.1 HI.out.2.2.1 HI.out.2.2.2 rfl (by decide) _ k (pairV P Q k) rfl HO2.out _ _ 1 1 [.int .i64 x, .int .i64 y] rfl rfl HXR.out (Kit.ints_one .i64 [x, y]) (by unfold maxLen; omega) (by omega) hzb ?_
            intro v5 w5 hown5 hg5 _
            have hb5 : Below w.heap.size Wb w5 := (Below.refl _ _).grown hg5 hzb (Kit.own_block_ge HO2.out)
            have HB5 := Lib.hid (HB2.out.trans hb5)
            have HO5 : Hid (w5.ownsRow w.heap.size 35 2 v5 (k + 1) (pairV P Q (k + 1))) := Lib.hid (by show w5.ownsRow _ _ _ _ _ (pairV P Q k ++ [.int .i64 (P k), .int .i64 (Q k)]); rw [HPX.out, HQX.out]; exact hown5)
            dsimp only
            refine hK.out _ _ ?_ (fun hHeld => ?_)
            · exact ⟨(hb5.cell (p := ⟨b, o + k * 2, none⟩) hbw).trans hHeld.1, (hb5.cell (p := ⟨b, o + k * 2 + 1, none⟩) hbw).trans hHeld.2⟩
            clear hK Kq
            try simp only [Act.put, List.setIfInBounds_toArray, List.set_cons_zero, List.set_cons_succ]
            refine wpAnyH_take (i := 14) (oi := ({ dst := some 3, op := Op.assign (Operand.tmp 31), type := 30, pos := "law.go:50", after := #[{ on := 13, ground := Ground.data }, { on := 13, ground := Ground.chain }, { on := 0, ground := Ground.phase }, { on := 1, ground := Ground.phase }, { on := 2, ground := Ground.phase }, { on := 3, ground := Ground.phase }, { on := 4, ground := Ground.phase }, { on := 5, ground := Ground.phase }, { on := 6, ground := Ground.phase }, { on := 7, ground := Ground.phase }, { on := 8, ground := Ground.phase }, { on := 9, ground := Ground.phase }, { on := 10, ground := Ground.phase }, { on := 11, ground := Ground.phase }, { on := 12, ground := Ground.phase }, { on := 13, ground := Ground.phase }], guard := none } : Oper)) (v := ?_) rfl (by kernel_rfl) (by kernel_rfl) (by kernel_rfl) (fun _ _ _ h => h) (Or.inl ⟨by rfl, ?_⟩) (by assumption) ?_
            rotate_left
            · intro wS hSw
              first
                | (go_simp; done)
                | (go_simp; with_reducible rfl)
            try simp only [Act.put, List.setIfInBounds_toArray, List.set_cons_zero, List.set_cons_succ]
            refine wpAnyH_done (by kernel_rfl) ?_ _
            obtain ⟨hcx, hcy⟩ := hHeld
            clear HO2 HB2 HXR hzb hown5 hg5 hb5
            have hz0 : w5.cell? ⟨b, o, none⟩ = some (.int .i64 x) := by have := hcx; rwa [HK0.out, Nat.zero_mul, Nat.add_zero] at this
            have hz1 : w5.cell? ⟨b, o + 1, none⟩ = some (.int .i64 y) := by have := hcy; rwa [HK0.out, Nat.zero_mul, Nat.add_zero] at this
            go_wp2_with fail
            go_quiet (fail)
            go_wp2_with fail
            go_quiet (fail)
            go_wp2
            go_roundw
            case rel =>
              refine ⟨k + 1, by omega, by go_num, ?_, ?_, ?_, ?_, ?_⟩
              · first | exact congrArg _ HH.out.symm | (rw [HH.out]; simp; done) | (rw [HH.out])
              · first | exact congrArg _ HL.out.symm | (rw [HL.out]; done) | (rw [HL.out]; simp)
              · first | exact congrArg _ HU.out.symm | (rw [HU.out]; done) | (rw [HU.out]; simp)
              · exact Lib.hid (Kit.own_below HO5.out (Kit.below_drewN (Below.refl _ _) _))
              · exact Lib.hid (Kit.below_drewN HB5.out _)
            case measure => simp [intOf]; omega
          · have hx2 : ¬ x ≥ -2147483648 := hx
            have HH := Lib.hid (show holdF P Q (k + 1) = false by simp only [holdF]; rw [hh, HPX.out, HQX.out]; simp [hx])
            have HL := Lib.hid (show loF P (k + 1) = x by rw [HK0.out, loF_one, ← HPX.out, HK0.out])
            have HU := Lib.hid (show hiF Q (k + 1) = y by rw [HK0.out, hiF_one, ← HQX.out, HK0.out])
            clear hh
            generalize loF P k = L0 at *
            generalize hiF Q k = U0 at *
            go_wp2_with fail
            refine wp_region_held_drew (S := fun w' => w'.cell? ⟨b, o + k * 2, none⟩ = some (.int .i64 x) ∧ w'.cell? ⟨b, o + k * 2 + 1, none⟩ = some (.int .i64 y)) (by kernel_rfl) ⟨hcx, hcy⟩ (fun hHeld => ?_)
            have HO2 : Hid (wr.drew.ownsRow w.heap.size 35 2 _ k (pairV P Q k)) := Lib.hid (Kit.own_below HO.out (Below.refl _ _).drew)
            have HB2 : Hid (Below w.heap.size w wr.drew) := Lib.hid HB.out.drew
            clear HO HB hcx hcy
            generalize wr.drew = Wa at HO2 HB2 hHeld ⊢
            refine wpAnyH_take (i := 0) (oi := ({ dst := some 18, op := Op.move (Operand.tmp 3), type := 30, pos := "law.go:50", after := #[], guard := none } : Oper)) (v := ?_) rfl (by kernel_rfl) (by kernel_rfl) (by kernel_rfl) (fun _ _ _ h => h) (Or.inl ⟨by rfl, ?_⟩) (by assumption) ?_
            rotate_left
            · intro wS hSw
              first
                | (go_simp; done)
                | (go_simp; with_reducible rfl)
            try simp only [Act.put, List.setIfInBounds_toArray, List.set_cons_zero, List.set_cons_succ]
            refine wpAnyH_take (i := 1) (oi := ({ dst := some 19, op := Op.move (Operand.tmp 0), type := 40, pos := "law.go:50", after := #[], guard := none } : Oper)) (v := ?_) rfl (by kernel_rfl) (by kernel_rfl) (by kernel_rfl) (fun _ _ _ h => h) (Or.inl ⟨by rfl, ?_⟩) (by assumption) ?_
            rotate_left
            · intro wS hSw
              first
                | (go_simp; done)
                | (go_simp; with_reducible rfl)
            try simp only [Act.put, List.setIfInBounds_toArray, List.set_cons_zero, List.set_cons_succ]
            refine wpAnyH_take (i := 2) (oi := ({ dst := some 20, op := Op.move (Operand.tmp 7), type := 3, pos := "law.go:50", after := #[], guard := none } : Oper)) (v := ?_) rfl (by kernel_rfl) (by kernel_rfl) (by kernel_rfl) (fun _ _ _ h => h) (Or.inl ⟨by rfl, ?_⟩) (by assumption) ?_
            rotate_left
            · intro wS hSw
              first
                | (go_simp; done)
                | (go_simp; with_reducible rfl)
            try simp only [Act.put, List.setIfInBounds_toArray, List.set_cons_zero, List.set_cons_succ]
            refine wpAnyH_take (i := 3) (oi := ({ dst := some 21, op := Op.indexAddr 40 (Operand.tmp 19) (Operand.tmp 20), type := 0, pos := "law.go:50", after := #[{ on := 1, ground := Ground.data }, { on := 2, ground := Ground.data }], guard := none } : Oper)) (v := ?_) rfl (by kernel_rfl) (by kernel_rfl) (by kernel_rfl) (fun _ _ _ h => h) (Or.inl ⟨by rfl, ?_⟩) (by assumption) ?_
            rotate_left
            · intro wS hSw
              first
                | (go_simp; done)
                | (go_simp; with_reducible rfl)
            try simp only [Act.put, List.setIfInBounds_toArray, List.set_cons_zero, List.set_cons_succ]
            refine wpAnyH_take (i := 4) (oi := ({ dst := some 22, op := Op.indexAddr 41 (Operand.tmp 21) (Operand.const (Value.int IntKind.i64 0)), type := 0, pos := "law.go:50", after := #[{ on := 3, ground := Ground.data }], guard := none } : Oper)) (v := ?_) rfl (by kernel_rfl) (by kernel_rfl) (by kernel_rfl) (fun _ _ _ h => h) (Or.inl ⟨by rfl, ?_⟩) (by assumption) ?_
            rotate_left
            · intro wS hSw
              first
                | (go_simp; done)
                | (go_simp; with_reducible rfl)
            try simp only [Act.put, List.setIfInBounds_toArray, List.set_cons_zero, List.set_cons_succ]
            refine wpAnyH_take (i := 5) (oi := ({ dst := some 23, op := Op.load 3 (Operand.tmp 22), type := 3, pos := "law.go:50", after := #[{ on := 4, ground := Ground.data }], guard := none } : Oper)) (v := ?_) rfl (by kernel_rfl) (by kernel_rfl) (by kernel_rfl) (fun _ _ _ h => h) (Or.inl ⟨by rfl, ?_⟩) (by assumption) ?_
            rotate_left
            · intro wS hSw
              obtain ⟨hq1, hq2⟩ := hSw
              first
                | (go_simp; done)
                | (go_simp; with_reducible rfl)
            try simp only [Act.put, List.setIfInBounds_toArray, List.set_cons_zero, List.set_cons_succ]
            refine wpAnyH_take (i := 6) (oi := ({ dst := some 24, op := Op.move (Operand.tmp 0), type := 40, pos := "law.go:50", after := #[], guard := none } : Oper)) (v := ?_) rfl (by kernel_rfl) (by kernel_rfl) (by kernel_rfl) (fun _ _ _ h => h) (Or.inl ⟨by rfl, ?_⟩) (by assumption) ?_
            rotate_left
            · intro wS hSw
              first
                | (go_simp; done)
                | (go_simp; with_reducible rfl)
            try simp only [Act.put, List.setIfInBounds_toArray, List.set_cons_zero, List.set_cons_succ]
            refine wpAnyH_take (i := 7) (oi := ({ dst := some 25, op := Op.move (Operand.tmp 7), type := 3, pos := "law.go:50", after := #[], guard := none } : Oper)) (v := ?_) rfl (by kernel_rfl) (by kernel_rfl) (by kernel_rfl) (fun _ _ _ h => h) (Or.inl ⟨by rfl, ?_⟩) (by assumption) ?_
            rotate_left
            · intro wS hSw
              first
                | (go_simp; done)
                | (go_simp; with_reducible rfl)
            try simp only [Act.put, List.setIfInBounds_toArray, List.set_cons_zero, List.set_cons_succ]
            refine wpAnyH_take (i := 8) (oi := ({ dst := some 26, op := Op.indexAddr 40 (Operand.tmp 24) (Operand.tmp 25), type := 0, pos := "law.go:50", after := #[{ on := 6, ground := Ground.data }, { on := 7, ground := Ground.data }], guard := none } : Oper)) (v := ?_) rfl (by kernel_rfl) (by kernel_rfl) (by kernel_rfl) (fun _ _ _ h => h) (Or.inl ⟨by rfl, ?_⟩) (by assumption) ?_
            rotate_left
            · intro wS hSw
              first
                | (go_simp; done)
                | (go_simp; with_reducible rfl)
            try simp only [Act.put, List.setIfInBounds_toArray, List.set_cons_zero, List.set_cons_succ]
            refine wpAnyH_take (i := 9) (oi := ({ dst := some 27, op := Op.indexAddr 41 (Operand.tmp 26) (Operand.const (Value.int IntKind.i64 1)), type := 0, pos := "law.go:50", after := #[{ on := 8, ground := Ground.data }], guard := none } : Oper)) (v := ?_) rfl (by kernel_rfl) (by kernel_rfl) (by kernel_rfl) (fun _ _ _ h => h) (Or.inl ⟨by rfl, ?_⟩) (by assumption) ?_
            rotate_left
            · intro wS hSw
              first
                | (go_simp; done)
                | (go_simp; with_reducible rfl)
            try simp only [Act.put, List.setIfInBounds_toArray, List.set_cons_zero, List.set_cons_succ]
            refine wpAnyH_take (i := 10) (oi := ({ dst := some 28, op := Op.load 3 (Operand.tmp 27), type := 3, pos := "law.go:50", after := #[{ on := 9, ground := Ground.data }], guard := none } : Oper)) (v := ?_) rfl (by kernel_rfl) (by kernel_rfl) (by kernel_rfl) (fun _ _ _ h => h) (Or.inl ⟨by rfl, ?_⟩) (by assumption) ?_
            rotate_left
            · intro wS hSw
              obtain ⟨hq1, hq2⟩ := hSw
              first
                | (go_simp; done)
                | (go_simp; with_reducible rfl)
            try simp only [Act.put, List.setIfInBounds_toArray, List.set_cons_zero, List.set_cons_succ]
            refine wpAnyH_take (i := 11) (oi := ({ dst := some 29, op := Op.build 35 #[(0, Operand.tmp 23), (1, Operand.tmp 28)], type := 35, pos := "law.go:50", after := #[{ on := 5, ground := Ground.data }, { on := 10, ground := Ground.data }], guard := none } : Oper)) (v := ?_) rfl (by kernel_rfl) (by kernel_rfl) (by kernel_rfl) (fun _ _ _ h => h) (Or.inl ⟨by rfl, ?_⟩) (by assumption) ?_
            rotate_left
            · intro wS hSw
              first
                | (go_simp; done)
                | (go_simp; with_reducible rfl)
            try simp only [Act.put, List.setIfInBounds_toArray, List.set_cons_zero, List.set_cons_succ]
            refine wpAnyH_ready (rs := [12]) (by kernel_rfl) (by simp) ?_
            refine AllReadyH.cons (o := ({ dst := some 30, op := Op.buildSlice 30 1 #[(0, Operand.tmp 29)], type := 30, pos := "law.go:50", after := #[{ on := 11, ground := Ground.data }], guard := none } : Oper)) rfl (fun Kq hK => ?_) (AllReadyH.nil)
            go_simp
            have hal : Below Wa.heap.size Wa (Wa.alloc (.cells #[.int .i64 x, .int .i64 y] 35)) := (Below.refl _ _).alloc (Nat.le_refl _) _
            refine hK.out _ _ ?_ (fun hHeld => ?_)
            · exact ⟨(hal.cell (p := ⟨b, o + k * 2, none⟩) (Kit.block_lt hHeld.1)).trans hHeld.1, (hal.cell (p := ⟨b, o + k * 2 + 1, none⟩) (Kit.block_lt hHeld.2)).trans hHeld.2⟩
            clear hK Kq
            try simp only [Act.put, List.setIfInBounds_toArray, List.set_cons_zero, List.set_cons_succ]
            have HXR := Lib.hid (Kit.Rd.new Wa [.int .i64 x, .int .i64 y] 35 (Nat.lt_succ_self _))
            replace HO2 := Lib.hid (Kit.own_below HO2.out hal)
            replace HB2 := Lib.hid (HB2.out.trans (hal.mono HB2.out.size))
            clear hal
            generalize Wa.alloc (.cells #[.int .i64 x, .int .i64 y] 35) = Wb at HO2 HB2 HXR hHeld ⊢
            have hzb : w.heap.size ≤ Wb.heap.size := HB2.out.size
            refine wpAnyH_ready (rs := [13]) (by kernel_rfl) (by simp) ?_
            refine AllReadyH.cons (o := ({ dst := some 31, op := Op.call { callee := Callee.builtin Builtin.append, args := #[Operand.tmp 18, Operand.tmp 30], argTypes := #[30, 30] }, type := 30, pos := "law.go:50", after := #[{ on := 0, ground := Ground.data }, { on := 12, ground := Ground.data }], guard := none } : Oper)) rfl (fun Kq hK => ?_) (AllReadyH.nil)
            refine Kit.step_append_rd _ rfl (.tmp 18) (.tmp 30) _ rfl w.heap.size 35 i0 (.agg #[.int .i64 0, .int .i64 0]) 2 16 Try.underlying30 HI.out.1 HI.out.2.1 HI.out.2.2.1 HI.out.2.2.2 rfl (by decide) _ k (pairV P Q k) rfl HO2.out _ _ 1 1 [.int .i64 x, .int .i64 y] rfl rfl HXR.out (Kit.ints_one .i64 [x, y]) (by unfold maxLen; omega) (by omega) hzb ?_
            intro v5 w5 hown5 hg5 _
            have hb5 : Below w.heap.size Wb w5 := (Below.refl _ _).grown hg5 hzb (Kit.own_block_ge HO2.out)
            have HB5 := Lib.hid (HB2.out.trans hb5)
            have HO5 : Hid (w5.ownsRow w.heap.size 35 2 v5 (k + 1) (pairV P Q (k + 1))) := Lib.hid (by show w5.ownsRow _ _ _ _ _ (pairV P Q k ++ [.int .i64 (P k), .int .i64 (Q k)]); rw [HPX.out, HQX.out]; exact hown5)
            dsimp only
            refine hK.out _ _ ?_ (fun hHeld => ?_)
            · exact ⟨(hb5.cell (p := ⟨b, o + k * 2, none⟩) hbw).trans hHeld.1, (hb5.cell (p := ⟨b, o + k * 2 + 1, none⟩) hbw).trans hHeld.2⟩
            clear hK Kq
            try simp only [Act.put, List.setIfInBounds_toArray, List.set_cons_zero, List.set_cons_succ]
            refine wpAnyH_take (i := 14) (oi := ({ dst := some 3, op := Op.assign (Operand.tmp 31), type := 30, pos := "law.go:50", after := #[{ on := 13, ground := Ground.data }, { on := 13, ground := Ground.chain }, { on := 0, ground := Ground.phase }, { on := 1, ground := Ground.phase }, { on := 2, ground := Ground.phase }, { on := 3, ground := Ground.phase }, { on := 4, ground := Ground.phase }, { on := 5, ground := Ground.phase }, { on := 6, ground := Ground.phase }, { on := 7, ground := Ground.phase }, { on := 8, ground := Ground.phase }, { on := 9, ground := Ground.phase }, { on := 10, ground := Ground.phase }, { on := 11, ground := Ground.phase }, { on := 12, ground := Ground.phase }, { on := 13, ground := Ground.phase }], guard := none } : Oper)) (v := ?_) rfl (by kernel_rfl) (by kernel_rfl) (by kernel_rfl) (fun _ _ _ h => h) (Or.inl ⟨by rfl, ?_⟩) (by assumption) ?_
            rotate_left
            · intro wS hSw
              first
                | (go_simp; done)
                | (go_simp; with_reducible rfl)
            try simp only [Act.put, List.setIfInBounds_toArray, List.set_cons_zero, List.set_cons_succ]
            refine wpAnyH_done (by kernel_rfl) ?_ _
            obtain ⟨hcx, hcy⟩ := hHeld
            clear HO2 HB2 HXR hzb hown5 hg5 hb5
            have hz0 : w5.cell? ⟨b, o, none⟩ = some (.int .i64 x) := by have := hcx; rwa [HK0.out, Nat.zero_mul, Nat.add_zero] at this
            have hz1 : w5.cell? ⟨b, o + 1, none⟩ = some (.int .i64 y) := by have := hcy; rwa [HK0.out, Nat.zero_mul, Nat.add_zero] at this
            go_wp2_with fail
            go_quiet (fail)
            go_wp2_with fail
            go_quiet (fail)
            go_wp2
            go_roundw
            case rel =>
              refine ⟨k + 1, by omega, by go_num, ?_, ?_, ?_, ?_, ?_⟩
              · first | exact congrArg _ HH.out.symm | (rw [HH.out]; simp; done) | (rw [HH.out])
              · first | exact congrArg _ HL.out.symm | (rw [HL.out]; done) | (rw [HL.out]; simp)
              · first | exact congrArg _ HU.out.symm | (rw [HU.out]; done) | (rw [HU.out]; simp)
              · exact Lib.hid (Kit.own_below HO5.out (Kit.below_drewN (Below.refl _ _) _))
              · exact Lib.hid (Kit.below_drewN HB5.out _)
            case measure => simp [intOf]; omega
      · have z1 : ((k : Int) == 0) = false := by simp; omega
        have z2 : ¬ (k : Int) = 0 := by omega
        cases hh : holdF P Q k
        · have HH := Lib.hid (show holdF P Q (k + 1) = false by simp only [holdF]; rw [hh, HPX.out, HQX.out]; simp)
          have HL := Lib.hid (show loF P (k + 1) = if x < loF P k then x else loF P k by rw [loF_more P (by omega), HPX.out, min_ite])
          have HU := Lib.hid (show hiF Q (k + 1) = if hiF Q k < y then y else hiF Q k by rw [hiF_more Q (by omega), HQX.out, max_ite])
          clear hh
          generalize loF P k = L0 at *
          generalize hiF Q k = U0 at *
          go_wp2_with fail
          refine wp_region_held_drew (S := fun w' => w'.cell? ⟨b, o + k * 2, none⟩ = some (.int .i64 x) ∧ w'.cell? ⟨b, o + k * 2 + 1, none⟩ = some (.int .i64 y)) (by kernel_rfl) ⟨hcx, hcy⟩ (fun hHeld => ?_)
          have HO2 : Hid (wr.drew.ownsRow w.heap.size 35 2 _ k (pairV P Q k)) := Lib.hid (Kit.own_below HO.out (Below.refl _ _).drew)
          have HB2 : Hid (Below w.heap.size w wr.drew) := Lib.hid HB.out.drew
          clear HO HB hcx hcy
          generalize wr.drew = Wa at HO2 HB2 hHeld ⊢
          refine wpAnyH_take (i := 0) (oi := ({ dst := some 18, op := Op.move (Operand.tmp 3), type := 30, pos := "law.go:50", after := #[], guard := none } : Oper)) (v := ?_) rfl (by kernel_rfl) (by kernel_rfl) (by kernel_rfl) (fun _ _ _ h => h) (Or.inl ⟨by rfl, ?_⟩) (by assumption) ?_
          rotate_left
          · intro wS hSw
            first
              | (go_simp; done)
              | (go_simp; with_reducible rfl)
          try simp only [Act.put, List.setIfInBounds_toArray, List.set_cons_zero, List.set_cons_succ]
          refine wpAnyH_take (i := 1) (oi := ({ dst := some 19, op := Op.move (Operand.tmp 0), type := 40, pos := "law.go:50", after := #[], guard := none } : Oper)) (v := ?_) rfl (by kernel_rfl) (by kernel_rfl) (by kernel_rfl) (fun _ _ _ h => h) (Or.inl ⟨by rfl, ?_⟩) (by assumption) ?_
          rotate_left
          · intro wS hSw
            first
              | (go_simp; done)
              | (go_simp; with_reducible rfl)
          try simp only [Act.put, List.setIfInBounds_toArray, List.set_cons_zero, List.set_cons_succ]
          refine wpAnyH_take (i := 2) (oi := ({ dst := some 20, op := Op.move (Operand.tmp 7), type := 3, pos := "law.go:50", after := #[], guard := none } : Oper)) (v := ?_) rfl (by kernel_rfl) (by kernel_rfl) (by kernel_rfl) (fun _ _ _ h => h) (Or.inl ⟨by rfl, ?_⟩) (by assumption) ?_
          rotate_left
          · intro wS hSw
            first
              | (go_simp; done)
              | (go_simp; with_reducible rfl)
          try simp only [Act.put, List.setIfInBounds_toArray, List.set_cons_zero, List.set_cons_succ]
          refine wpAnyH_take (i := 3) (oi := ({ dst := some 21, op := Op.indexAddr 40 (Operand.tmp 19) (Operand.tmp 20), type := 0, pos := "law.go:50", after := #[{ on := 1, ground := Ground.data }, { on := 2, ground := Ground.data }], guard := none } : Oper)) (v := ?_) rfl (by kernel_rfl) (by kernel_rfl) (by kernel_rfl) (fun _ _ _ h => h) (Or.inl ⟨by rfl, ?_⟩) (by assumption) ?_
          rotate_left
          · intro wS hSw
            first
              | (go_simp; done)
              | (go_simp; with_reducible rfl)
          try simp only [Act.put, List.setIfInBounds_toArray, List.set_cons_zero, List.set_cons_succ]
          refine wpAnyH_take (i := 4) (oi := ({ dst := some 22, op := Op.indexAddr 41 (Operand.tmp 21) (Operand.const (Value.int IntKind.i64 0)), type := 0, pos := "law.go:50", after := #[{ on := 3, ground := Ground.data }], guard := none } : Oper)) (v := ?_) rfl (by kernel_rfl) (by kernel_rfl) (by kernel_rfl) (fun _ _ _ h => h) (Or.inl ⟨by rfl, ?_⟩) (by assumption) ?_
          rotate_left
          · intro wS hSw
            first
              | (go_simp; done)
              | (go_simp; with_reducible rfl)
          try simp only [Act.put, List.setIfInBounds_toArray, List.set_cons_zero, List.set_cons_succ]
          refine wpAnyH_take (i := 5) (oi := ({ dst := some 23, op := Op.load 3 (Operand.tmp 22), type := 3, pos := "law.go:50", after := #[{ on := 4, ground := Ground.data }], guard := none } : Oper)) (v := ?_) rfl (by kernel_rfl) (by kernel_rfl) (by kernel_rfl) (fun _ _ _ h => h) (Or.inl ⟨by rfl, ?_⟩) (by assumption) ?_
          rotate_left
          · intro wS hSw
            obtain ⟨hq1, hq2⟩ := hSw
            first
              | (go_simp; done)
              | (go_simp; with_reducible rfl)
          try simp only [Act.put, List.setIfInBounds_toArray, List.set_cons_zero, List.set_cons_succ]
          refine wpAnyH_take (i := 6) (oi := ({ dst := some 24, op := Op.move (Operand.tmp 0), type := 40, pos := "law.go:50", after := #[], guard := none } : Oper)) (v := ?_) rfl (by kernel_rfl) (by kernel_rfl) (by kernel_rfl) (fun _ _ _ h => h) (Or.inl ⟨by rfl, ?_⟩) (by assumption) ?_
          rotate_left
          · intro wS hSw
            first
              | (go_simp; done)
              | (go_simp; with_reducible rfl)
          try simp only [Act.put, List.setIfInBounds_toArray, List.set_cons_zero, List.set_cons_succ]
          refine wpAnyH_take (i := 7) (oi := ({ dst := some 25, op := Op.move (Operand.tmp 7), type := 3, pos := "law.go:50", after := #[], guard := none } : Oper)) (v := ?_) rfl (by kernel_rfl) (by kernel_rfl) (by kernel_rfl) (fun _ _ _ h => h) (Or.inl ⟨by rfl, ?_⟩) (by assumption) ?_
          rotate_left
          · intro wS hSw
            first
              | (go_simp; done)
              | (go_simp; with_reducible rfl)
          try simp only [Act.put, List.setIfInBounds_toArray, List.set_cons_zero, List.set_cons_succ]
          refine wpAnyH_take (i := 8) (oi := ({ dst := some 26, op := Op.indexAddr 40 (Operand.tmp 24) (Operand.tmp 25), type := 0, pos := "law.go:50", after := #[{ on := 6, ground := Ground.data }, { on := 7, ground := Ground.data }], guard := none } : Oper)) (v := ?_) rfl (by kernel_rfl) (by kernel_rfl) (by kernel_rfl) (fun _ _ _ h => h) (Or.inl ⟨by rfl, ?_⟩) (by assumption) ?_
          rotate_left
          · intro wS hSw
            first
              | (go_simp; done)
              | (go_simp; with_reducible rfl)
          try simp only [Act.put, List.setIfInBounds_toArray, List.set_cons_zero, List.set_cons_succ]
          refine wpAnyH_take (i := 9) (oi := ({ dst := some 27, op := Op.indexAddr 41 (Operand.tmp 26) (Operand.const (Value.int IntKind.i64 1)), type := 0, pos := "law.go:50", after := #[{ on := 8, ground := Ground.data }], guard := none } : Oper)) (v := ?_) rfl (by kernel_rfl) (by kernel_rfl) (by kernel_rfl) (fun _ _ _ h => h) (Or.inl ⟨by rfl, ?_⟩) (by assumption) ?_
          rotate_left
          · intro wS hSw
            first
              | (go_simp; done)
              | (go_simp; with_reducible rfl)
          try simp only [Act.put, List.setIfInBounds_toArray, List.set_cons_zero, List.set_cons_succ]
          refine wpAnyH_take (i := 10) (oi := ({ dst := some 28, op := Op.load 3 (Operand.tmp 27), type := 3, pos := "law.go:50", after := #[{ on := 9, ground := Ground.data }], guard := none } : Oper)) (v := ?_) rfl (by kernel_rfl) (by kernel_rfl) (by kernel_rfl) (fun _ _ _ h => h) (Or.inl ⟨by rfl, ?_⟩) (by assumption) ?_
          rotate_left
          · intro wS hSw
            obtain ⟨hq1, hq2⟩ := hSw
            first
              | (go_simp; done)
              | (go_simp; with_reducible rfl)
          try simp only [Act.put, List.setIfInBounds_toArray, List.set_cons_zero, List.set_cons_succ]
          refine wpAnyH_take (i := 11) (oi := ({ dst := some 29, op := Op.build 35 #[(0, Operand.tmp 23), (1, Operand.tmp 28)], type := 35, pos := "law.go:50", after := #[{ on := 5, ground := Ground.data }, { on := 10, ground := Ground.data }], guard := none } : Oper)) (v := ?_) rfl (by kernel_rfl) (by kernel_rfl) (by kernel_rfl) (fun _ _ _ h => h) (Or.inl ⟨by rfl, ?_⟩) (by assumption) ?_
          rotate_left
          · intro wS hSw
            first
              | (go_simp; done)
              | (go_simp; with_reducible rfl)
          try simp only [Act.put, List.setIfInBounds_toArray, List.set_cons_zero, List.set_cons_succ]
          refine wpAnyH_ready (rs := [12]) (by kernel_rfl) (by simp) ?_
          refine AllReadyH.cons (o := ({ dst := some 30, op := Op.buildSlice 30 1 #[(0, Operand.tmp 29)], type := 30, pos := "law.go:50", after := #[{ on := 11, ground := Ground.data }], guard := none } : Oper)) rfl (fun Kq hK => ?_) (AllReadyH.nil)
          go_simp
          have hal : Below Wa.heap.size Wa (Wa.alloc (.cells #[.int .i64 x, .int .i64 y] 35)) := (Below.refl _ _).alloc (Nat.le_refl _) _
          refine hK.out _ _ ?_ (fun hHeld => ?_)
          · exact ⟨(hal.cell (p := ⟨b, o + k * 2, none⟩) (Kit.block_lt hHeld.1)).trans hHeld.1, (hal.cell (p := ⟨b, o + k * 2 + 1, none⟩) (Kit.block_lt hHeld.2)).trans hHeld.2⟩
          clear hK Kq
          try simp only [Act.put, List.setIfInBounds_toArray, List.set_cons_zero, List.set_cons_succ]
          have HXR := Lib.hid (Kit.Rd.new Wa [.int .i64 x, .int .i64 y] 35 (Nat.lt_succ_self _))
          replace HO2 := Lib.hid (Kit.own_below HO2.out hal)
          replace HB2 := Lib.hid (HB2.out.trans (hal.mono HB2.out.size))
          clear hal
          generalize Wa.alloc (.cells #[.int .i64 x, .int .i64 y] 35) = Wb at HO2 HB2 HXR hHeld ⊢
          have hzb : w.heap.size ≤ Wb.heap.size := HB2.out.size
          refine wpAnyH_ready (rs := [13]) (by kernel_rfl) (by simp) ?_
          refine AllReadyH.cons (o := ({ dst := some 31, op := Op.call { callee := Callee.builtin Builtin.append, args := #[Operand.tmp 18, Operand.tmp 30], argTypes := #[30, 30] }, type := 30, pos := "law.go:50", after := #[{ on := 0, ground := Ground.data }, { on := 12, ground := Ground.data }], guard := none } : Oper)) rfl (fun Kq hK => ?_) (AllReadyH.nil)
          refine Kit.step_append_rd _ rfl (.tmp 18) (.tmp 30) _ rfl w.heap.size 35 i0 (.agg #[.int .i64 0, .int .i64 0]) 2 16 Try.underlying30 HI.out.1 HI.out.2.1 HI.out.2.2.1 HI.out.2.2.2 rfl (by decide) _ k (pairV P Q k) rfl HO2.out _ _ 1 1 [.int .i64 x, .int .i64 y] rfl rfl HXR.out (Kit.ints_one .i64 [x, y]) (by unfold maxLen; omega) (by omega) hzb ?_
          intro v5 w5 hown5 hg5 _
          have hb5 : Below w.heap.size Wb w5 := (Below.refl _ _).grown hg5 hzb (Kit.own_block_ge HO2.out)
          have HB5 := Lib.hid (HB2.out.trans hb5)
          have HO5 : Hid (w5.ownsRow w.heap.size 35 2 v5 (k + 1) (pairV P Q (k + 1))) := Lib.hid (by show w5.ownsRow _ _ _ _ _ (pairV P Q k ++ [.int .i64 (P k), .int .i64 (Q k)]); rw [HPX.out, HQX.out]; exact hown5)
          dsimp only
          refine hK.out _ _ ?_ (fun hHeld => ?_)
          · exact ⟨(hb5.cell (p := ⟨b, o + k * 2, none⟩) hbw).trans hHeld.1, (hb5.cell (p := ⟨b, o + k * 2 + 1, none⟩) hbw).trans hHeld.2⟩
          clear hK Kq
          try simp only [Act.put, List.setIfInBounds_toArray, List.set_cons_zero, List.set_cons_succ]
          refine wpAnyH_take (i := 14) (oi := ({ dst := some 3, op := Op.assign (Operand.tmp 31), type := 30, pos := "law.go:50", after := #[{ on := 13, ground := Ground.data }, { on := 13, ground := Ground.chain }, { on := 0, ground := Ground.phase }, { on := 1, ground := Ground.phase }, { on := 2, ground := Ground.phase }, { on := 3, ground := Ground.phase }, { on := 4, ground := Ground.phase }, { on := 5, ground := Ground.phase }, { on := 6, ground := Ground.phase }, { on := 7, ground := Ground.phase }, { on := 8, ground := Ground.phase }, { on := 9, ground := Ground.phase }, { on := 10, ground := Ground.phase }, { on := 11, ground := Ground.phase }, { on := 12, ground := Ground.phase }, { on := 13, ground := Ground.phase }], guard := none } : Oper)) (v := ?_) rfl (by kernel_rfl) (by kernel_rfl) (by kernel_rfl) (fun _ _ _ h => h) (Or.inl ⟨by rfl, ?_⟩) (by assumption) ?_
          rotate_left
          · intro wS hSw
            first
              | (go_simp; done)
              | (go_simp; with_reducible rfl)
          try simp only [Act.put, List.setIfInBounds_toArray, List.set_cons_zero, List.set_cons_succ]
          refine wpAnyH_done (by kernel_rfl) ?_ _
          obtain ⟨hcx, hcy⟩ := hHeld
          clear HO2 HB2 HXR hzb hown5 hg5 hb5
          go_wp2_with fail
          go_quiet (fail)
          go_wp2
          go_roundw
          case rel =>
            refine ⟨k + 1, by omega, by go_num, ?_, ?_, ?_, ?_, ?_⟩
            · first | exact congrArg _ HH.out.symm | (rw [HH.out]; simp; done) | (rw [HH.out])
            · first | exact congrArg _ HL.out.symm | (rw [HL.out]; done) | (rw [HL.out]; simp)
            · first | exact congrArg _ HU.out.symm | (rw [HU.out]; done) | (rw [HU.out]; simp)
            · exact Lib.hid (Kit.own_below HO5.out (Kit.below_drewN (Below.refl _ _) _))
            · exact Lib.hid (Kit.below_drewN HB5.out _)
          case measure => simp [intOf]; omega
        · by_cases hx : -2147483648 ≤ x
          · have hx2 : x ≥ -2147483648 := hx
            have HH := Lib.hid (show holdF P Q (k + 1) = decide (y ≤ 2147483647) by simp only [holdF]; rw [hh, HPX.out, HQX.out]; simp [hx])
            have HL := Lib.hid (show loF P (k + 1) = if x < loF P k then x else loF P k by rw [loF_more P (by omega), HPX.out, min_ite])
            have HU := Lib.hid (show hiF Q (k + 1) = if hiF Q k < y then y else hiF Q k by rw [hiF_more Q (by omega), HQX.out, max_ite])
            clear hh
            generalize loF P k = L0 at *
            generalize hiF Q k = U0 at *
            go_wp2_with fail
            refine wp_region_held_drew (S := fun w' => w'.cell? ⟨b, o + k * 2, none⟩ = some (.int .i64 x) ∧ w'.cell? ⟨b, o + k * 2 + 1, none⟩ = some (.int .i64 y)) (by kernel_rfl) ⟨hcx, hcy⟩ (fun hHeld => ?_)
            have HO2 : Hid (wr.drew.ownsRow w.heap.size 35 2 _ k (pairV P Q k)) := Lib.hid (Kit.own_below HO.out (Below.refl _ _).drew)
            have HB2 : Hid (Below w.heap.size w wr.drew) := Lib.hid HB.out.drew
            clear HO HB hcx hcy
            generalize wr.drew = Wa at HO2 HB2 hHeld ⊢
            refine wpAnyH_take (i := 0) (oi := ({ dst := some 18, op := Op.move (Operand.tmp 3), type := 30, pos := "law.go:50", after := #[], guard := none } : Oper)) (v := ?_) rfl (by kernel_rfl) (by kernel_rfl) (by kernel_rfl) (fun _ _ _ h => h) (Or.inl ⟨by rfl, ?_⟩) (by assumption) ?_
            rotate_left
            · intro wS hSw
              first
                | (go_simp; done)
                | (go_simp; with_reducible rfl)
            try simp only [Act.put, List.setIfInBounds_toArray, List.set_cons_zero, List.set_cons_succ]
            refine wpAnyH_take (i := 1) (oi := ({ dst := some 19, op := Op.move (Operand.tmp 0), type := 40, pos := "law.go:50", after := #[], guard := none } : Oper)) (v := ?_) rfl (by kernel_rfl) (by kernel_rfl) (by kernel_rfl) (fun _ _ _ h => h) (Or.inl ⟨by rfl, ?_⟩) (by assumption) ?_
            rotate_left
            · intro wS hSw
              first
                | (go_simp; done)
                | (go_simp; with_reducible rfl)
            try simp only [Act.put, List.setIfInBounds_toArray, List.set_cons_zero, List.set_cons_succ]
            refine wpAnyH_take (i := 2) (oi := ({ dst := some 20, op := Op.move (Operand.tmp 7), type := 3, pos := "law.go:50", after := #[], guard := none } : Oper)) (v := ?_) rfl (by kernel_rfl) (by kernel_rfl) (by kernel_rfl) (fun _ _ _ h => h) (Or.inl ⟨by rfl, ?_⟩) (by assumption) ?_
            rotate_left
            · intro wS hSw
              first
                | (go_simp; done)
                | (go_simp; with_reducible rfl)
            try simp only [Act.put, List.setIfInBounds_toArray, List.set_cons_zero, List.set_cons_succ]
            refine wpAnyH_take (i := 3) (oi := ({ dst := some 21, op := Op.indexAddr 40 (Operand.tmp 19) (Operand.tmp 20), type := 0, pos := "law.go:50", after := #[{ on := 1, ground := Ground.data }, { on := 2, ground := Ground.data }], guard := none } : Oper)) (v := ?_) rfl (by kernel_rfl) (by kernel_rfl) (by kernel_rfl) (fun _ _ _ h => h) (Or.inl ⟨by rfl, ?_⟩) (by assumption) ?_
            rotate_left
            · intro wS hSw
              first
                | (go_simp; done)
                | (go_simp; with_reducible rfl)
            try simp only [Act.put, List.setIfInBounds_toArray, List.set_cons_zero, List.set_cons_succ]
            refine wpAnyH_take (i := 4) (oi := ({ dst := some 22, op := Op.indexAddr 41 (Operand.tmp 21) (Operand.const (Value.int IntKind.i64 0)), type := 0, pos := "law.go:50", after := #[{ on := 3, ground := Ground.data }], guard := none } : Oper)) (v := ?_) rfl (by kernel_rfl) (by kernel_rfl) (by kernel_rfl) (fun _ _ _ h => h) (Or.inl ⟨by rfl, ?_⟩) (by assumption) ?_
            rotate_left
            · intro wS hSw
              first
                | (go_simp; done)
                | (go_simp; with_reducible rfl)
            try simp only [Act.put, List.setIfInBounds_toArray, List.set_cons_zero, List.set_cons_succ]
            refine wpAnyH_take (i := 5) (oi := ({ dst := some 23, op := Op.load 3 (Operand.tmp 22), type := 3, pos := "law.go:50", after := #[{ on := 4, ground := Ground.data }], guard := none } : Oper)) (v := ?_) rfl (by kernel_rfl) (by kernel_rfl) (by kernel_rfl) (fun _ _ _ h => h) (Or.inl ⟨by rfl, ?_⟩) (by assumption) ?_
            rotate_left
            · intro wS hSw
              obtain ⟨hq1, hq2⟩ := hSw
              first
                | (go_simp; done)
                | (go_simp; with_reducible rfl)
            try simp only [Act.put, List.setIfInBounds_toArray, List.set_cons_zero, List.set_cons_succ]
            refine wpAnyH_take (i := 6) (oi := ({ dst := some 24, op := Op.move (Operand.tmp 0), type := 40, pos := "law.go:50", after := #[], guard := none } : Oper)) (v := ?_) rfl (by kernel_rfl) (by kernel_rfl) (by kernel_rfl) (fun _ _ _ h => h) (Or.inl ⟨by rfl, ?_⟩) (by assumption) ?_
            rotate_left
            · intro wS hSw
              first
                | (go_simp; done)
                | (go_simp; with_reducible rfl)
            try simp only [Act.put, List.setIfInBounds_toArray, List.set_cons_zero, List.set_cons_succ]
            refine wpAnyH_take (i := 7) (oi := ({ dst := some 25, op := Op.move (Operand.tmp 7), type := 3, pos := "law.go:50", after := #[], guard := none } : Oper)) (v := ?_) rfl (by kernel_rfl) (by kernel_rfl) (by kernel_rfl) (fun _ _ _ h => h) (Or.inl ⟨by rfl, ?_⟩) (by assumption) ?_
            rotate_left
            · intro wS hSw
              first
                | (go_simp; done)
                | (go_simp; with_reducible rfl)
            try simp only [Act.put, List.setIfInBounds_toArray, List.set_cons_zero, List.set_cons_succ]
            refine wpAnyH_take (i := 8) (oi := ({ dst := some 26, op := Op.indexAddr 40 (Operand.tmp 24) (Operand.tmp 25), type := 0, pos := "law.go:50", after := #[{ on := 6, ground := Ground.data }, { on := 7, ground := Ground.data }], guard := none } : Oper)) (v := ?_) rfl (by kernel_rfl) (by kernel_rfl) (by kernel_rfl) (fun _ _ _ h => h) (Or.inl ⟨by rfl, ?_⟩) (by assumption) ?_
            rotate_left
            · intro wS hSw
              first
                | (go_simp; done)
                | (go_simp; with_reducible rfl)
            try simp only [Act.put, List.setIfInBounds_toArray, List.set_cons_zero, List.set_cons_succ]
            refine wpAnyH_take (i := 9) (oi := ({ dst := some 27, op := Op.indexAddr 41 (Operand.tmp 26) (Operand.const (Value.int IntKind.i64 1)), type := 0, pos := "law.go:50", after := #[{ on := 8, ground := Ground.data }], guard := none } : Oper)) (v := ?_) rfl (by kernel_rfl) (by kernel_rfl) (by kernel_rfl) (fun _ _ _ h => h) (Or.inl ⟨by rfl, ?_⟩) (by assumption) ?_
            rotate_left
            · intro wS hSw
              first
                | (go_simp; done)
                | (go_simp; with_reducible rfl)
            try simp only [Act.put, List.setIfInBounds_toArray, List.set_cons_zero, List.set_cons_succ]
            refine wpAnyH_take (i := 10) (oi := ({ dst := some 28, op := Op.load 3 (Operand.tmp 27), type := 3, pos := "law.go:50", after := #[{ on := 9, ground := Ground.data }], guard := none } : Oper)) (v := ?_) rfl (by kernel_rfl) (by kernel_rfl) (by kernel_rfl) (fun _ _ _ h => h) (Or.inl ⟨by rfl, ?_⟩) (by assumption) ?_
            rotate_left
            · intro wS hSw
              obtain ⟨hq1, hq2⟩ := hSw
              first
                | (go_simp; done)
                | (go_simp; with_reducible rfl)
            try simp only [Act.put, List.setIfInBounds_toArray, List.set_cons_zero, List.set_cons_succ]
            refine wpAnyH_take (i := 11) (oi := ({ dst := some 29, op := Op.build 35 #[(0, Operand.tmp 23), (1, Operand.tmp 28)], type := 35, pos := "law.go:50", after := #[{ on := 5, ground := Ground.data }, { on := 10, ground := Ground.data }], guard := none } : Oper)) (v := ?_) rfl (by kernel_rfl) (by kernel_rfl) (by kernel_rfl) (fun _ _ _ h => h) (Or.inl ⟨by rfl, ?_⟩) (by assumption) ?_
            rotate_left
            · intro wS hSw
              first
                | (go_simp; done)
                | (go_simp; with_reducible rfl)
            try simp only [Act.put, List.setIfInBounds_toArray, List.set_cons_zero, List.set_cons_succ]
            refine wpAnyH_ready (rs := [12]) (by kernel_rfl) (by simp) ?_
            refine AllReadyH.cons (o := ({ dst := some 30, op := Op.buildSlice 30 1 #[(0, Operand.tmp 29)], type := 30, pos := "law.go:50", after := #[{ on := 11, ground := Ground.data }], guard := none } : Oper)) rfl (fun Kq hK => ?_) (AllReadyH.nil)
            go_simp
            have hal : Below Wa.heap.size Wa (Wa.alloc (.cells #[.int .i64 x, .int .i64 y] 35)) := (Below.refl _ _).alloc (Nat.le_refl _) _
            refine hK.out _ _ ?_ (fun hHeld => ?_)
            · exact ⟨(hal.cell (p := ⟨b, o + k * 2, none⟩) (Kit.block_lt hHeld.1)).trans hHeld.1, (hal.cell (p := ⟨b, o + k * 2 + 1, none⟩) (Kit.block_lt hHeld.2)).trans hHeld.2⟩
            clear hK Kq
            try simp only [Act.put, List.setIfInBounds_toArray, List.set_cons_zero, List.set_cons_succ]
            have HXR := Lib.hid (Kit.Rd.new Wa [.int .i64 x, .int .i64 y] 35 (Nat.lt_succ_self _))
            replace HO2 := Lib.hid (Kit.own_below HO2.out hal)
            replace HB2 := Lib.hid (HB2.out.trans (hal.mono HB2.out.size))
            clear hal
            generalize Wa.alloc (.cells #[.int .i64 x, .int .i64 y] 35) = Wb at HO2 HB2 HXR hHeld ⊢
            have hzb : w.heap.size ≤ Wb.heap.size := HB2.out.size
            refine wpAnyH_ready (rs := [13]) (by kernel_rfl) (by simp) ?_
            refine AllReadyH.cons (o := ({ dst := some 31, op := Op.call { callee := Callee.builtin Builtin.append, args := #[Operand.tmp 18, Operand.tmp 30], argTypes := #[30, 30] }, type := 30, pos := "law.go:50", after := #[{ on := 0, ground := Ground.data }, { on := 12, ground := Ground.data }], guard := none } : Oper)) rfl (fun Kq hK => ?_) (AllReadyH.nil)
            refine Kit.step_append_rd _ rfl (.tmp 18) (.tmp 30) _ rfl w.heap.size 35 i0 (.agg #[.int .i64 0, .int .i64 0]) 2 16 Try.underlying30 HI.out.1 HI.out.2.1 HI.out.2.2.1 HI.out.2.2.2 rfl (by decide) _ k (pairV P Q k) rfl HO2.out _ _ 1 1 [.int .i64 x, .int .i64 y] rfl rfl HXR.out (Kit.ints_one .i64 [x, y]) (by unfold maxLen; omega) (by omega) hzb ?_
            intro v5 w5 hown5 hg5 _
            have hb5 : Below w.heap.size Wb w5 := (Below.refl _ _).grown hg5 hzb (Kit.own_block_ge HO2.out)
            have HB5 := Lib.hid (HB2.out.trans hb5)
            have HO5 : Hid (w5.ownsRow w.heap.size 35 2 v5 (k + 1) (pairV P Q (k + 1))) := Lib.hid (by show w5.ownsRow _ _ _ _ _ (pairV P Q k ++ [.int .i64 (P k), .int .i64 (Q k)]); rw [HPX.out, HQX.out]; exact hown5)
            dsimp only
            refine hK.out _ _ ?_ (fun hHeld => ?_)
            · exact ⟨(hb5.cell (p := ⟨b, o + k * 2, none⟩) hbw).trans hHeld.1, (hb5.cell (p := ⟨b, o + k * 2 + 1, none⟩) hbw).trans hHeld.2⟩
            clear hK Kq
            try simp only [Act.put, List.setIfInBounds_toArray, List.set_cons_zero, List.set_cons_succ]
            refine wpAnyH_take (i := 14) (oi := ({ dst := some 3, op := Op.assign (Operand.tmp 31), type := 30, pos := "law.go:50", after := #[{ on := 13, ground := Ground.data }, { on := 13, ground := Ground.chain }, { on := 0, ground := Ground.phase }, { on := 1, ground := Ground.phase }, { on := 2, ground := Ground.phase }, { on := 3, ground := Ground.phase }, { on := 4, ground := Ground.phase }, { on := 5, ground := Ground.phase }, { on := 6, ground := Ground.phase }, { on := 7, ground := Ground.phase }, { on := 8, ground := Ground.phase }, { on := 9, ground := Ground.phase }, { on := 10, ground := Ground.phase }, { on := 11, ground := Ground.phase }, { on := 12, ground := Ground.phase }, { on := 13, ground := Ground.phase }], guard := none } : Oper)) (v := ?_) rfl (by kernel_rfl) (by kernel_rfl) (by kernel_rfl) (fun _ _ _ h => h) (Or.inl ⟨by rfl, ?_⟩) (by assumption) ?_
            rotate_left
            · intro wS hSw
              first
                | (go_simp; done)
                | (go_simp; with_reducible rfl)
            try simp only [Act.put, List.setIfInBounds_toArray, List.set_cons_zero, List.set_cons_succ]
            refine wpAnyH_done (by kernel_rfl) ?_ _
            obtain ⟨hcx, hcy⟩ := hHeld
            clear HO2 HB2 HXR hzb hown5 hg5 hb5
            go_wp2_with fail
            go_quiet (fail)
            go_wp2
            go_roundw
            case rel =>
              refine ⟨k + 1, by omega, by go_num, ?_, ?_, ?_, ?_, ?_⟩
              · first | exact congrArg _ HH.out.symm | (rw [HH.out]; simp; done) | (rw [HH.out])
              · first | exact congrArg _ HL.out.symm | (rw [HL.out]; done) | (rw [HL.out]; simp)
              · first | exact congrArg _ HU.out.symm | (rw [HU.out]; done) | (rw [HU.out]; simp)
              · exact Lib.hid (Kit.own_below HO5.out (Kit.below_drewN (Below.refl _ _) _))
              · exact Lib.hid (Kit.below_drewN HB5.out _)
            case measure => simp [intOf]; omega
          · have hx2 : ¬ x ≥ -2147483648 := hx
            have HH := Lib.hid (show holdF P Q (k + 1) = false by simp only [holdF]; rw [hh, HPX.out, HQX.out]; simp [hx])
            have HL := Lib.hid (show loF P (k + 1) = if x < loF P k then x else loF P k by rw [loF_more P (by omega), HPX.out, min_ite])
            have HU := Lib.hid (show hiF Q (k + 1) = if hiF Q k < y then y else hiF Q k by rw [hiF_more Q (by omega), HQX.out, max_ite])
            clear hh
            generalize loF P k = L0 at *
            generalize hiF Q k = U0 at *
            go_wp2_with fail
            refine wp_region_held_drew (S := fun w' => w'.cell? ⟨b, o + k * 2, none⟩ = some (.int .i64 x) ∧ w'.cell? ⟨b, o + k * 2 + 1, none⟩ = some (.int .i64 y)) (by kernel_rfl) ⟨hcx, hcy⟩ (fun hHeld => ?_)
            have HO2 : Hid (wr.drew.ownsRow w.heap.size 35 2 _ k (pairV P Q k)) := Lib.hid (Kit.own_below HO.out (Below.refl _ _).drew)
            have HB2 : Hid (Below w.heap.size w wr.drew) := Lib.hid HB.out.drew
            clear HO HB hcx hcy
            generalize wr.drew = Wa at HO2 HB2 hHeld ⊢
            refine wpAnyH_take (i := 0) (oi := ({ dst := some 18, op := Op.move (Operand.tmp 3), type := 30, pos := "law.go:50", after := #[], guard := none } : Oper)) (v := ?_) rfl (by kernel_rfl) (by kernel_rfl) (by kernel_rfl) (fun _ _ _ h => h) (Or.inl ⟨by rfl, ?_⟩) (by assumption) ?_
            rotate_left
            · intro wS hSw
              first
                | (go_simp; done)
                | (go_simp; with_reducible rfl)
            try simp only [Act.put, List.setIfInBounds_toArray, List.set_cons_zero, List.set_cons_succ]
            refine wpAnyH_take (i := 1) (oi := ({ dst := some 19, op := Op.move (Operand.tmp 0), type := 40, pos := "law.go:50", after := #[], guard := none } : Oper)) (v := ?_) rfl (by kernel_rfl) (by kernel_rfl) (by kernel_rfl) (fun _ _ _ h => h) (Or.inl ⟨by rfl, ?_⟩) (by assumption) ?_
            rotate_left
            · intro wS hSw
              first
                | (go_simp; done)
                | (go_simp; with_reducible rfl)
            try simp only [Act.put, List.setIfInBounds_toArray, List.set_cons_zero, List.set_cons_succ]
            refine wpAnyH_take (i := 2) (oi := ({ dst := some 20, op := Op.move (Operand.tmp 7), type := 3, pos := "law.go:50", after := #[], guard := none } : Oper)) (v := ?_) rfl (by kernel_rfl) (by kernel_rfl) (by kernel_rfl) (fun _ _ _ h => h) (Or.inl ⟨by rfl, ?_⟩) (by assumption) ?_
            rotate_left
            · intro wS hSw
              first
                | (go_simp; done)
                | (go_simp; with_reducible rfl)
            try simp only [Act.put, List.setIfInBounds_toArray, List.set_cons_zero, List.set_cons_succ]
            refine wpAnyH_take (i := 3) (oi := ({ dst := some 21, op := Op.indexAddr 40 (Operand.tmp 19) (Operand.tmp 20), type := 0, pos := "law.go:50", after := #[{ on := 1, ground := Ground.data }, { on := 2, ground := Ground.data }], guard := none } : Oper)) (v := ?_) rfl (by kernel_rfl) (by kernel_rfl) (by kernel_rfl) (fun _ _ _ h => h) (Or.inl ⟨by rfl, ?_⟩) (by assumption) ?_
            rotate_left
            · intro wS hSw
              first
                | (go_simp; done)
                | (go_simp; with_reducible rfl)
            try simp only [Act.put, List.setIfInBounds_toArray, List.set_cons_zero, List.set_cons_succ]
            refine wpAnyH_take (i := 4) (oi := ({ dst := some 22, op := Op.indexAddr 41 (Operand.tmp 21) (Operand.const (Value.int IntKind.i64 0)), type := 0, pos := "law.go:50", after := #[{ on := 3, ground := Ground.data }], guard := none } : Oper)) (v := ?_) rfl (by kernel_rfl) (by kernel_rfl) (by kernel_rfl) (fun _ _ _ h => h) (Or.inl ⟨by rfl, ?_⟩) (by assumption) ?_
            rotate_left
            · intro wS hSw
              first
                | (go_simp; done)
                | (go_simp; with_reducible rfl)
            try simp only [Act.put, List.setIfInBounds_toArray, List.set_cons_zero, List.set_cons_succ]
            refine wpAnyH_take (i := 5) (oi := ({ dst := some 23, op := Op.load 3 (Operand.tmp 22), type := 3, pos := "law.go:50", after := #[{ on := 4, ground := Ground.data }], guard := none } : Oper)) (v := ?_) rfl (by kernel_rfl) (by kernel_rfl) (by kernel_rfl) (fun _ _ _ h => h) (Or.inl ⟨by rfl, ?_⟩) (by assumption) ?_
            rotate_left
            · intro wS hSw
              obtain ⟨hq1, hq2⟩ := hSw
              first
                | (go_simp; done)
                | (go_simp; with_reducible rfl)
            try simp only [Act.put, List.setIfInBounds_toArray, List.set_cons_zero, List.set_cons_succ]
            refine wpAnyH_take (i := 6) (oi := ({ dst := some 24, op := Op.move (Operand.tmp 0), type := 40, pos := "law.go:50", after := #[], guard := none } : Oper)) (v := ?_) rfl (by kernel_rfl) (by kernel_rfl) (by kernel_rfl) (fun _ _ _ h => h) (Or.inl ⟨by rfl, ?_⟩) (by assumption) ?_
            rotate_left
            · intro wS hSw
              first
                | (go_simp; done)
                | (go_simp; with_reducible rfl)
            try simp only [Act.put, List.setIfInBounds_toArray, List.set_cons_zero, List.set_cons_succ]
            refine wpAnyH_take (i := 7) (oi := ({ dst := some 25, op := Op.move (Operand.tmp 7), type := 3, pos := "law.go:50", after := #[], guard := none } : Oper)) (v := ?_) rfl (by kernel_rfl) (by kernel_rfl) (by kernel_rfl) (fun _ _ _ h => h) (Or.inl ⟨by rfl, ?_⟩) (by assumption) ?_
            rotate_left
            · intro wS hSw
              first
                | (go_simp; done)
                | (go_simp; with_reducible rfl)
            try simp only [Act.put, List.setIfInBounds_toArray, List.set_cons_zero, List.set_cons_succ]
            refine wpAnyH_take (i := 8) (oi := ({ dst := some 26, op := Op.indexAddr 40 (Operand.tmp 24) (Operand.tmp 25), type := 0, pos := "law.go:50", after := #[{ on := 6, ground := Ground.data }, { on := 7, ground := Ground.data }], guard := none } : Oper)) (v := ?_) rfl (by kernel_rfl) (by kernel_rfl) (by kernel_rfl) (fun _ _ _ h => h) (Or.inl ⟨by rfl, ?_⟩) (by assumption) ?_
            rotate_left
            · intro wS hSw
              first
                | (go_simp; done)
                | (go_simp; with_reducible rfl)
            try simp only [Act.put, List.setIfInBounds_toArray, List.set_cons_zero, List.set_cons_succ]
            refine wpAnyH_take (i := 9) (oi := ({ dst := some 27, op := Op.indexAddr 41 (Operand.tmp 26) (Operand.const (Value.int IntKind.i64 1)), type := 0, pos := "law.go:50", after := #[{ on := 8, ground := Ground.data }], guard := none } : Oper)) (v := ?_) rfl (by kernel_rfl) (by kernel_rfl) (by kernel_rfl) (fun _ _ _ h => h) (Or.inl ⟨by rfl, ?_⟩) (by assumption) ?_
            rotate_left
            · intro wS hSw
              first
                | (go_simp; done)
                | (go_simp; with_reducible rfl)
            try simp only [Act.put, List.setIfInBounds_toArray, List.set_cons_zero, List.set_cons_succ]
            refine wpAnyH_take (i := 10) (oi := ({ dst := some 28, op := Op.load 3 (Operand.tmp 27), type := 3, pos := "law.go:50", after := #[{ on := 9, ground := Ground.data }], guard := none } : Oper)) (v := ?_) rfl (by kernel_rfl) (by kernel_rfl) (by kernel_rfl) (fun _ _ _ h => h) (Or.inl ⟨by rfl, ?_⟩) (by assumption) ?_
            rotate_left
            · intro wS hSw
              obtain ⟨hq1, hq2⟩ := hSw
              first
                | (go_simp; done)
                | (go_simp; with_reducible rfl)
            try simp only [Act.put, List.setIfInBounds_toArray, List.set_cons_zero, List.set_cons_succ]
            refine wpAnyH_take (i := 11) (oi := ({ dst := some 29, op := Op.build 35 #[(0, Operand.tmp 23), (1, Operand.tmp 28)], type := 35, pos := "law.go:50", after := #[{ on := 5, ground := Ground.data }, { on := 10, ground := Ground.data }], guard := none } : Oper)) (v := ?_) rfl (by kernel_rfl) (by kernel_rfl) (by kernel_rfl) (fun _ _ _ h => h) (Or.inl ⟨by rfl, ?_⟩) (by assumption) ?_
            rotate_left
            · intro wS hSw
              first
                | (go_simp; done)
                | (go_simp; with_reducible rfl)
            try simp only [Act.put, List.setIfInBounds_toArray, List.set_cons_zero, List.set_cons_succ]
            refine wpAnyH_ready (rs := [12]) (by kernel_rfl) (by simp) ?_
            refine AllReadyH.cons (o := ({ dst := some 30, op := Op.buildSlice 30 1 #[(0, Operand.tmp 29)], type := 30, pos := "law.go:50", after := #[{ on := 11, ground := Ground.data }], guard := none } : Oper)) rfl (fun Kq hK => ?_) (AllReadyH.nil)
            go_simp
            have hal : Below Wa.heap.size Wa (Wa.alloc (.cells #[.int .i64 x, .int .i64 y] 35)) := (Below.refl _ _).alloc (Nat.le_refl _) _
            refine hK.out _ _ ?_ (fun hHeld => ?_)
            · exact ⟨(hal.cell (p := ⟨b, o + k * 2, none⟩) (Kit.block_lt hHeld.1)).trans hHeld.1, (hal.cell (p := ⟨b, o + k * 2 + 1, none⟩) (Kit.block_lt hHeld.2)).trans hHeld.2⟩
            clear hK Kq
            try simp only [Act.put, List.setIfInBounds_toArray, List.set_cons_zero, List.set_cons_succ]
            have HXR := Lib.hid (Kit.Rd.new Wa [.int .i64 x, .int .i64 y] 35 (Nat.lt_succ_self _))
            replace HO2 := Lib.hid (Kit.own_below HO2.out hal)
            replace HB2 := Lib.hid (HB2.out.trans (hal.mono HB2.out.size))
            clear hal
            generalize Wa.alloc (.cells #[.int .i64 x, .int .i64 y] 35) = Wb at HO2 HB2 HXR hHeld ⊢
            have hzb : w.heap.size ≤ Wb.heap.size := HB2.out.size
            refine wpAnyH_ready (rs := [13]) (by kernel_rfl) (by simp) ?_
            refine AllReadyH.cons (o := ({ dst := some 31, op := Op.call { callee := Callee.builtin Builtin.append, args := #[Operand.tmp 18, Operand.tmp 30], argTypes := #[30, 30] }, type := 30, pos := "law.go:50", after := #[{ on := 0, ground := Ground.data }, { on := 12, ground := Ground.data }], guard := none } : Oper)) rfl (fun Kq hK => ?_) (AllReadyH.nil)
            refine Kit.step_append_rd _ rfl (.tmp 18) (.tmp 30) _ rfl w.heap.size 35 i0 (.agg #[.int .i64 0, .int .i64 0]) 2 16 Try.underlying30 HI.out.1 HI.out.2.1 HI.out.2.2.1 HI.out.2.2.2 rfl (by decide) _ k (pairV P Q k) rfl HO2.out _ _ 1 1 [.int .i64 x, .int .i64 y] rfl rfl HXR.out (Kit.ints_one .i64 [x, y]) (by unfold maxLen; omega) (by omega) hzb ?_
            intro v5 w5 hown5 hg5 _
            have hb5 : Below w.heap.size Wb w5 := (Below.refl _ _).grown hg5 hzb (Kit.own_block_ge HO2.out)
            have HB5 := Lib.hid (HB2.out.trans hb5)
            have HO5 : Hid (w5.ownsRow w.heap.size 35 2 v5 (k + 1) (pairV P Q (k + 1))) := Lib.hid (by show w5.ownsRow _ _ _ _ _ (pairV P Q k ++ [.int .i64 (P k), .int .i64 (Q k)]); rw [HPX.out, HQX.out]; exact hown5)
            dsimp only
            refine hK.out _ _ ?_ (fun hHeld => ?_)
            · exact ⟨(hb5.cell (p := ⟨b, o + k * 2, none⟩) hbw).trans hHeld.1, (hb5.cell (p := ⟨b, o + k * 2 + 1, none⟩) hbw).trans hHeld.2⟩
            clear hK Kq
            try simp only [Act.put, List.setIfInBounds_toArray, List.set_cons_zero, List.set_cons_succ]
            refine wpAnyH_take (i := 14) (oi := ({ dst := some 3, op := Op.assign (Operand.tmp 31), type := 30, pos := "law.go:50", after := #[{ on := 13, ground := Ground.data }, { on := 13, ground := Ground.chain }, { on := 0, ground := Ground.phase }, { on := 1, ground := Ground.phase }, { on := 2, ground := Ground.phase }, { on := 3, ground := Ground.phase }, { on := 4, ground := Ground.phase }, { on := 5, ground := Ground.phase }, { on := 6, ground := Ground.phase }, { on := 7, ground := Ground.phase }, { on := 8, ground := Ground.phase }, { on := 9, ground := Ground.phase }, { on := 10, ground := Ground.phase }, { on := 11, ground := Ground.phase }, { on := 12, ground := Ground.phase }, { on := 13, ground := Ground.phase }], guard := none } : Oper)) (v := ?_) rfl (by kernel_rfl) (by kernel_rfl) (by kernel_rfl) (fun _ _ _ h => h) (Or.inl ⟨by rfl, ?_⟩) (by assumption) ?_
            rotate_left
            · intro wS hSw
              first
                | (go_simp; done)
                | (go_simp; with_reducible rfl)
            try simp only [Act.put, List.setIfInBounds_toArray, List.set_cons_zero, List.set_cons_succ]
            refine wpAnyH_done (by kernel_rfl) ?_ _
            obtain ⟨hcx, hcy⟩ := hHeld
            clear HO2 HB2 HXR hzb hown5 hg5 hb5
            go_wp2_with fail
            go_quiet (fail)
            go_wp2
            go_roundw
            case rel =>
              refine ⟨k + 1, by omega, by go_num, ?_, ?_, ?_, ?_, ?_⟩
              · first | exact congrArg _ HH.out.symm | (rw [HH.out]; simp; done) | (rw [HH.out])
              · first | exact congrArg _ HL.out.symm | (rw [HL.out]; done) | (rw [HL.out]; simp)
              · first | exact congrArg _ HU.out.symm | (rw [HU.out]; done) | (rw [HU.out]; simp)
              · exact Lib.hid (Kit.own_below HO5.out (Kit.below_drewN (Below.refl _ _) _))
              · exact Lib.hid (Kit.below_drewN HB5.out _)
            case measure => simp [intOf]; omega
    · obtain rfl : k = n := by omega
      obtain ⟨Av, cv, rfl, -, -, hrd⟩ := Kit.own_rd HO.out
      have HRD := Lib.hid hrd
      have HE := eqRange (loF P k) (hiF Q k) (loF P k) (hiF Q k)
      have hg := Try.eqGuardType35
      clear HO hrd
      have C1 := fun (w' : World) (h : Kit.Rd w' w'.heap.size Av (pairV P Q k)) => cholds_to Av P Q k cv (Nat.le_trans hf (by decide)) w' h
      have C2 := fun (w' : World) (h : Kit.Rd w' w'.heap.size Av (pairV P Q k)) => cboth_to Av P Q k cv (Nat.le_trans hf (by decide)) w' h
      have HC1 := Lib.hid C1
      have HC2 := Lib.hid C2
      clear C1 C2
      generalize loF P k = L0 at *
      generalize hiF Q k = U0 at *
      generalize holdF P Q k = h0 at *
      go_wp2_with (first
        | (go_at_call 12; (refine (HC1.out _ HRD.out).mono ?_); rintro e w1 ⟨rfl, hb⟩; (replace HRD := Lib.hid ((HRD.out.below hb).more hb.size)); (replace HB := Lib.hid (HB.out.trans (hb.mono HB.out.size))); clear hb)
        | (go_at_call 13; (refine (HC2.out _ HRD.out).mono ?_); rintro e w2 ⟨rfl, hb⟩; (replace HB := Lib.hid (HB.out.trans (hb.mono HB.out.size))); clear hb)
        | (go_at_call 7; (refine (known24 _).mono ?_); rintro e w3 ⟨rfl, hb⟩; (replace HB := Lib.hid (HB.out.trans (hb.mono HB.out.size))); clear hb))
      go_ret
      exact ⟨rfl, HB.out⟩
theorem i64w {a : Int} (h : (Lit.int .i64 a).wf = true) : -9223372036854775808 ≤ a ∧ a ≤ 9223372036854775807 := by simpa [Lit.wf, IntKind.min, IntKind.max, IntKind.signed, IntKind.bits] using h
theorem walk {w : World} (A : Option Addr) (V : Nat → Nat → Int) (n c : Nat) (hc : n ≤ c) (hm : c ≤ maxLen) (hw : ∀ j i, (Lit.int .i64 (V j i)).wf = true) (hr : Kit.Twos w w.heap.size .i64 A n V) :
    Calls Try.prog 4 #[.slice A n c] w fun e w' => e = .returned (.bool true) ∧ Below w.heap.size w w' := by
  by_cases hf : n ≤ 200
  · refine walk_yes A (fun j => V j 0) (fun j => V j 1) n c (fun j => i64w (hw j 0)) (fun j => i64w (hw j 1)) hf fun k hk => ?_
    obtain ⟨b, o, e, hb, hra⟩ := hr k hk
    exact ⟨b, o, e, hb, by have := hra 0 _ rfl; simpa using this, by have := hra 1 _ rfl; simpa using this⟩
  · exact walk_no A n c hf
/-! ### the frame: written by program -/
theorem own : ownKnob Try.prog.godebug = none := by kernel_rfl
theorem laid : laidOutB Try.prog = true := by kernel_rfl
theorem contract {H : Type} {enc : TypeId × Value → H} {W : World} {base : Nat} {args : Array Value} {ds gs : List (DataW H)} {before : List MemPlace}
    (hval0 : ∀ (j : Nat) t v, Try.f4.params[j]? = some t → args[j]? = some v → Value.okWide Try.prog W .any base t v)
    (hW : DataW.Whole enc Try.prog Try.f4.params.toList Rows.spanBothSpec.vars false W args.toList ds gs before) :
    Calls Try.prog 4 args W fun e W' => e = .returned (.bool true) ∧ Below W.heap.size W W' := by
  have hval : ∀ (j : Nat) t v, Try.f4.params[j]? = some t → args[j]? = some v → Value.okWide Try.prog W .any base t v := hval0
  obtain ⟨p, q, hA0, hV, rfl, hfz, hnd⟩ := hW
  have hA : DataW.TrodAll enc Try.prog W 0 (fun _ => true) true Try.f4.params.toList args.toList ds p := hA0
  rw [Try.params4] at hA hval
  obtain ⟨v0, vs0, d0, ds0, p0, q0, hargs, rfl, rfl, h0, r0⟩ := trodAll_cons hA
  obtain ⟨rfl, rfl, rfl⟩ := trodAll_nil r0
  obtain rfl : args = #[v0] := by cases args; simp_all
  clear hA0 hval0
  obtain ⟨A0, W0, n0, c0, rfl, hc0, hm0, hw0, hr0⟩ := Kit.open_twos Try.underlying40 Try.underlying41 Try.underlying3 (by kernel_rfl) (by kernel_rfl) (by decide) (hval 0 40 v0 rfl rfl) h0
  exact walk (w := W) A0 W0 n0 c0 hc0 hm0 hw0 hr0
theorem fnIs {H : Type} : ∀ ds : List (DataW H), ds.length = Try.f4.params.toList.length → Rows.spanBothSpec.fn H ds = { results := [.lit (.bool true)], args := ds } := by
  intro ds h
  rw [Try.params4] at h
  match ds, h with
  | [d1], _ => rfl
set_option maxRecDepth 100000 in
theorem lifted (os : Os) (started : os.Started) (H : Type) (enc : TypeId × Value → H) :
    ReturnsInHanded {} Try.checked os 4 .any (Rows.spanBothSpec.pre6 enc Try.prog Try.f4 Rows.spanBothRow.domain false) (Rows.spanBothSpec.post enc Try.prog Try.f4 false true false false) := by
  refine returnsInHanded_of_change (C := Try.checked) own started (by kernel_rfl) Try.func4
    (ChangeSpec.witness6 (enc := enc) (C := Try.checked) false ⟨#[], #[.slice none 0 0], []⟩ 8 (by kernel_rfl) (by kernel_rfl) (by kernel_rfl) (by kernel_rfl)) ?_
  intro W base args ds gs before hval hW _ _
  refine (contract hval hW).mono fun e W' ⟨he, hg⟩ => ?_
  subst he
  exact ⟨_, rfl, Kit.law_post (tb := 4) laid (by kernel_rfl) rfl (by kernel_rfl) Try.underlying4 fnIs hW hg⟩
theorem over : Rows.spanBothRow.holds Try.pinned (OpenSpec.ofChange Rows.spanBothSpec) :=
  OpenClaim.holds_of_wide 4 Try.f4 rfl rfl rfl rfl rfl rfl rfl ⟨rfl, rfl, rfl, rfl, rfl⟩ rfl rfl rfl rfl rfl (by kernel_rfl) Try.func4 (by kernel_rfl)
    (of_decide_eq_true (by kernel_rfl)) (by unfold Func.isWrapper; first | (rw [if_pos (by decide +kernel)]; kernel_rfl) | (rw [if_neg (by decide +kernel)]; exact ⟨rfl, rfl⟩))
    (fun os started H enc _ => lifted os started H enc)
/-- the statement. -/
theorem proved : Rows.SpanBothSaid :=
  over
end Go.Proofs.Ytaoadgolplnedaa.lawSpanBoth
