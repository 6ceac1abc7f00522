/- PadBack: what is cropped by what was laid around it is as it was; moved forth and back it is, but for what came from beyond; the call returns true and leaves its arguments as they were. No condition. -/
import Derived.Test.YtgoonenkcikkaaaPadGrid
import Derived.Test.YtgoonenkcikkaaaOpenTensor
import Derived.BigQuiet
namespace Go.Proofs.Ytgoonenkcikkaaa.lawPadBack
open Go Go.ChangeShapes Go.WideShapes Go.ChangeAt Go.RowKit
open Plain CSat CShape CTensor CPad
set_option linter.unusedVariables false

set_option maxRecDepth 100000 in
theorem walk_long {w : World} (H W C : Int) (A : Option Addr) (n c : Nat) (hl : 1024 < n) (p z x y : Int) :
    Calls Try.prog 5 #[.agg #[.int .i64 H, .int .i64 W, .int .i64 C, .slice A n c], .int .u8 p, .int .i8 z, .agg #[.int .i8 x, .int .i8 y]] w fun e w' => e = .returned (.bool true) ∧ Below w.heap.size w w' := by
  have hlI : (1024 : Int) < (n : Int) := by omega
  go_enter Try.func5, Try.ntmps5
  go_wp2_with (go_at_call 6; (refine (known09 _).mono ?_); rintro e w1 ⟨rfl, hb1⟩; (have HB := Lib.hid (((((Below.refl w.heap.size w).alloc (Nat.le_refl _) _)).alloc (by simp) _).trans (hb1.mono (by simp; omega)))); clear hb1)
  go_ret
  exact ⟨rfl, HB.out⟩
set_option maxRecDepth 100000 in
theorem walk_bad {w : World} (H W C : Int) (A : Option Addr) (n c : Nat) (hl : n ≤ 1024) (ht : tensB H W C n = false) (p z x y : Int) :
    Calls Try.prog 5 #[.agg #[.int .i64 H, .int .i64 W, .int .i64 C, .slice A n c], .int .u8 p, .int .i8 z, .agg #[.int .i8 x, .int .i8 y]] w fun e w' => e = .returned (.bool true) ∧ Below w.heap.size w w' := by
  have hlI : (n : Int) ≤ 1024 := by omega
  have HT := Lib.hid ht
  clear ht
  go_enter Try.func5, Try.ntmps5
  go_wp2_with (first
        | (go_at_call 13
           have hal : Below w.heap.size w ((w.alloc (.cells #[.int .i64 H, .int .i64 W, .int .i64 C, .slice A n c] 26)).alloc (.cells #[.int .i8 x, .int .i8 y] 42)) := ((Below.refl _ _).alloc (by first | exact Nat.le_refl _ | (simp; done) | (simp; omega)) _).alloc (by first | exact Nat.le_refl _ | (simp; done) | (simp; omega)) _
           refine (refRight_to H W C A n c false HT.out _).mono ?_
           rintro e w1 ⟨rfl, hb⟩
           have hh : Below w.heap.size w w1 := hal.trans (hb.mono hal.size)
           have qTB := (BoxAt.newq (H) (W) (C) (A) (n) (c) 26) w
           try simp only [World.size_alloc] at qTB
           have TB := Lib.hid ((qTB.below (B' := w.heap.size + 1) (by omega) (((Below.refl _ _).alloc (by first | exact Nat.le_refl _ | (simp; done) | (simp; omega)) _).mono (by simp))).below (by first | (simp; done) | (simp; omega)) hb)
           have yTB : w.heap.size < w1.heap.size := by have := hb.size; simp at this; omega
           clear qTB
           have qPR := (PairAt.new x y 42) (w.alloc (.cells #[.int .i64 H, .int .i64 W, .int .i64 C, .slice A n c] 26))
           try simp only [World.size_alloc] at qPR
           have PR := Lib.hid (qPR.below (by first | (simp; done) | (simp; omega)) hb)
           have yPR : w.heap.size + 1 < w1.heap.size := by have := hb.size; simp at this; omega
           clear qPR
           have HBW : Hid (Below w.heap.size w w1) := Lib.hid hh
           obtain ⟨tbp0, tbp1, tbp2, tbp3⟩ := TB.out
           obtain ⟨prp0, prp1⟩ := PR.out
           clear hb hh hal)
        | (go_at_call 6
           have hal : Below w1.heap.size w1 w1 := Below.refl _ _
           refine (known09 _).mono ?_
           rintro e w2 ⟨rfl, hb⟩
           have hh : Below w1.heap.size w1 w2 := hal.trans (hb.mono hal.size)
           replace TB := Lib.hid (TB.out.below yTB hh)
           replace yTB := Nat.lt_of_lt_of_le yTB hh.size
           replace PR := Lib.hid (PR.out.below yPR hh)
           replace yPR := Nat.lt_of_lt_of_le yPR hh.size
           replace HBW := Lib.hid (HBW.out.trans (hh.mono HBW.out.size))
           clear tbp0 tbp1 tbp2 tbp3 prp0 prp1
           obtain ⟨tbp0, tbp1, tbp2, tbp3⟩ := TB.out
           obtain ⟨prp0, prp1⟩ := PR.out
           clear hb hh hal))
  go_ret
  exact ⟨rfl, HBW.out⟩
set_option maxRecDepth 100000 in
set_option maxHeartbeats 8000000 in
theorem walk_no {w : World} (H W C : Int) (A : Option Addr) (zs : List Int) (n c : Nat) (hn : zs.length = n) (hc : n ≤ c) (hl : n ≤ 1024) (hr : Kit.Rd w w.heap.size A (I8s zs)) (ht : tensB H W C n = true) (p P z x y : Int) (hp0 : 0 ≤ p) (hp1 : p ≤ 255) (hP : p % 5 = P)
    (x1 : -128 ≤ x) (x2 : x ≤ 127) (y1 : -128 ≤ y) (y2 : y ≤ 127) (hs : shapeB (H + 2 * P) (W + 2 * P) C = false) :
    Calls Try.prog 5 #[.agg #[.int .i64 H, .int .i64 W, .int .i64 C, .slice A n c], .int .u8 p, .int .i8 z, .agg #[.int .i8 x, .int .i8 y]] w fun e w' => e = .returned (.bool true) ∧ Below w.heap.size w w' := by
  have hlI : (n : Int) ≤ 1024 := by omega
  have hs0 : shapeB H W C = true := by simp only [tensB, Bool.and_eq_true] at ht; exact ht.1
  have hnn : (n : Int) = H * W * C := by simp only [tensB, Bool.and_eq_true, decide_eq_true_eq] at ht; exact ht.2
  obtain ⟨s1, s2, s3, s4, s5, s6, s7⟩ := shapeB_yes hs0
  obtain ⟨a, ha⟩ : ∃ a : Nat, H = (a : Int) := ⟨H.toNat, by omega⟩
  obtain ⟨b, hb⟩ : ∃ b : Nat, W = (b : Int) := ⟨W.toNat, by omega⟩
  obtain ⟨d, hd⟩ : ∃ d : Nat, C = (d : Int) := ⟨C.toNat, by omega⟩
  have hm : a * b * d = n := by
    have : ((a * b * d : Nat) : Int) = (n : Int) := by rw [hnn, ha, hb, hd]; simp
    omega
  have hP0 : 0 ≤ P := by omega
  have hP4 : P ≤ 4 := by omega
  have hpt : p.tmod 5 = P := by rw [Int.tmod_eq_emod_of_nonneg hp0]; exact hP
  have hpw8 : IntKind.u8.wrap P = P := IntWalk.u8_in _ (by omega)
  have hpw64 : IntKind.i64.wrap P = P := IntWalk.i64_in _ (by omega)
  have hnx : IntKind.i64.wrap (-x) = -x := IntWalk.i64_in _ (by omega)
  have hny : IntKind.i64.wrap (-y) = -y := IntWalk.i64_in _ (by omega)
  have hwx : IntKind.i64.wrap x = x := IntWalk.i64_in _ (by omega)
  have hwy : IntKind.i64.wrap y = y := IntWalk.i64_in _ (by omega)
  have hn6 : n ≤ 1000000 := by omega
  obtain ⟨us, hus⟩ : ∃ us : List Int, us = rowL (gridF b d (fun i j k => pixZ zs a b d ((i : Int) - x) ((j : Int) - y) (k : Int) z)) n := ⟨_, rfl⟩
  have hul : us.length = n := by rw [hus]; simp [rowL]
  obtain ⟨F2, hF2⟩ : ∃ F2 : Nat → Int, F2 = backF zs a b d x y z := ⟨_, rfl⟩
  have hFs : ∀ q : Nat, q < n → 0 ≤ ((q / d / b : Nat) : Int) + x → ((q / d / b : Nat) : Int) + x < H → 0 ≤ ((q / d % b : Nat) : Int) + y → ((q / d % b : Nat) : Int) + y < W → F2 q = zs.getD q 0 := fun q hq h1 h2 h3 h4 => by
    rw [hF2]; exact back_stays zs x y z (by rw [hm]; exact hq) h1 (by omega) h3 (by omega)
  have hFg : ∀ q : Nat, ¬ (0 ≤ ((q / d / b : Nat) : Int) + x ∧ ((q / d / b : Nat) : Int) + x < H ∧ 0 ≤ ((q / d % b : Nat) : Int) + y ∧ ((q / d % b : Nat) : Int) + y < W) → F2 q = z := fun q h => by
    rw [hF2]; exact back_goes zs x y z (fun hh => h ⟨hh.1, by omega, hh.2.2.1, by omega⟩)
  have HM1 : Hid (∀ (w : World), Kit.Rd w w.heap.size A (I8s zs) → Calls Try.prog 12 #[.agg #[.int .i64 H, .int .i64 W, .int .i64 C, .slice A n c], .int .i64 x, .int .i64 y, .int .i8 z] w (Made w H W C n us (.int .i64 0))) := Lib.hid (fun w hr => by
    rw [hus]
    refine move_yes H W C A zs n c x y z hn hc ht a b d ha hb hd n hm _ (fun i j k hi hj hk => ?_) w (Nat.le_refl _) hr
    rw [grid_at b d _ hj hk, IntWalk.i64_in _ (by omega), IntWalk.i64_in _ (by omega), ha, hb, hd])
  have HM2 : Hid (∀ (w : World) (A5 : Option Addr) (c5 : Nat), n ≤ c5 → Kit.Rd w w.heap.size A5 (I8s us) → Calls Try.prog 12 #[.agg #[.int .i64 H, .int .i64 W, .int .i64 C, .slice A5 n c5], .int .i64 (-x), .int .i64 (-y), .int .i8 z] w (Made w H W C n (rowL F2 n) (.int .i64 0))) := Lib.hid (fun w A5 c5 h5 hr => by
    refine move_yes H W C A5 us n c5 (-x) (-y) z hul h5 ht a b d ha hb hd n hm _ (fun i j k hi hj hk => ?_) w (Nat.le_refl _) hr
    rw [hF2]
    unfold backF
    rw [grid_at b d _ hj hk, IntWalk.i64_in _ (by omega), IntWalk.i64_in _ (by omega), ha, hb, hd, hus, hm])
  have HA1 : Hid (∀ (w : World), Kit.Rd w w.heap.size A (I8s zs) → Calls Try.prog 7 #[.agg #[.int .i64 H, .int .i64 W, .int .i64 C, .slice A n c], .int .i64 P, .int .i8 z] w (Made w 0 0 0 0 [] (.int .i64 5))) := Lib.hid (fun w _ => around_no H W C A n c P z ht hP0 hP4 hs w)
  have HFS := Lib.hid hFs
  have HFG := Lib.hid hFg
  have HT := Lib.hid ht
  have HR := Lib.hid hr
  have HN := Lib.hid hn
  have HU := Lib.hid ha
  have HV := Lib.hid hb
  have HCd := Lib.hid hd
  have HMm := Lib.hid hm
  clear hus hul hF2 hFs hFg ht hr hn hm hs hs0 hnn s7 ha hb hd hP
  go_enter Try.func5, Try.ntmps5
  go_wp2_with (first
        | (go_at_call 13
           have hal : Below w.heap.size w ((w.alloc (.cells #[.int .i64 H, .int .i64 W, .int .i64 C, .slice A n c] 26)).alloc (.cells #[.int .i8 x, .int .i8 y] 42)) := ((Below.refl _ _).alloc (by first | exact Nat.le_refl _ | (simp; done) | (simp; omega)) _).alloc (by first | exact Nat.le_refl _ | (simp; done) | (simp; omega)) _
           refine (refRight_to H W C A n c true HT.out _).mono ?_
           rintro e w1 ⟨rfl, hb⟩
           have hh : Below w.heap.size w w1 := hal.trans (hb.mono hal.size)
           have qTB := (BoxAt.newq (H) (W) (C) (A) (n) (c) 26) w
           try simp only [World.size_alloc] at qTB
           have TB := Lib.hid ((qTB.below (B' := w.heap.size + 1) (by omega) (((Below.refl _ _).alloc (by first | exact Nat.le_refl _ | (simp; done) | (simp; omega)) _).mono (by simp))).below (by first | (simp; done) | (simp; omega)) hb)
           have yTB : w.heap.size < w1.heap.size := by have := hb.size; simp at this; omega
           clear qTB
           have qPR := (PairAt.new x y 42) (w.alloc (.cells #[.int .i64 H, .int .i64 W, .int .i64 C, .slice A n c] 26))
           try simp only [World.size_alloc] at qPR
           have PR := Lib.hid (qPR.below (by first | (simp; done) | (simp; omega)) hb)
           have yPR : w.heap.size + 1 < w1.heap.size := by have := hb.size; simp at this; omega
           clear qPR
           replace HR := Lib.hid ((HR.out.below hh).more hh.size)
           have HBW : Hid (Below w.heap.size w w1) := Lib.hid hh
           obtain ⟨tbp0, tbp1, tbp2, tbp3⟩ := TB.out
           obtain ⟨prp0, prp1⟩ := PR.out
           clear hb hh hal)
        | (go_at_call 7
           have hal : Below w1.heap.size w1 w1 := Below.refl _ _
           refine (HA1.out _ ((HR.out.below hal).more hal.size)).mono ?_
           rintro e w2 ⟨v2, rfl, ho2, hb⟩
           have hh : Below w1.heap.size w1 w2 := hal.trans (hb.mono hal.size)
           replace TB := Lib.hid (TB.out.below yTB hh)
           replace yTB := Nat.lt_of_lt_of_le yTB hh.size
           replace PR := Lib.hid (PR.out.below yPR hh)
           replace yPR := Nat.lt_of_lt_of_le yPR hh.size
           replace HR := Lib.hid ((HR.out.below hh).more hh.size)
           replace HBW := Lib.hid (HBW.out.trans (hh.mono HBW.out.size))
           clear tbp0 tbp1 tbp2 tbp3 prp0 prp1
           obtain ⟨A2, c2, rfl, hc2, -, hrd2⟩ := Kit.own_rd ho2
           have RA2 := Lib.hid hrd2
           clear ho2 hrd2
           obtain ⟨tbp0, tbp1, tbp2, tbp3⟩ := TB.out
           obtain ⟨prp0, prp1⟩ := PR.out
           clear hb hh hal))
  clear tbp0 tbp1 tbp2 tbp3 prp0 prp1
  have hal : Below w2.heap.size w2 (w2.alloc (.cells #[.int .i64 (0), .int .i64 (0), .int .i64 (0), .slice A2 0 c2] 26)).drew := ((Below.refl _ _).alloc (Nat.le_refl _) _).drew
  replace TB := Lib.hid (TB.out.below yTB hal)
  replace PR := Lib.hid (PR.out.below yPR hal)
  replace HR := Lib.hid ((HR.out.below hal).more hal.size)
  replace HBW := Lib.hid (HBW.out.trans (hal.mono HBW.out.size))
  replace yTB := Nat.lt_of_lt_of_le yTB hal.size
  clear hal
  refine wp_region_held_drew (S := PairAt (w.heap.size + 1) x y) (by kernel_rfl) PR.out (fun hHeld => ?_)
  generalize (w2.alloc (.cells #[.int .i64 (0), .int .i64 (0), .int .i64 (0), .slice A2 0 c2] 26)).drew = Wa at TB HR HBW yTB hHeld ⊢
  clear PR yPR
  refine wpAnyH_take (i := 0) (oi := ({ dst := some 61, op := Op.indexAddr 42 (Operand.tmp 7) (Operand.const (Value.int IntKind.i64 0)), type := 0, pos := "law.go:56", after := #[], guard := none } : Oper)) (v := ?_) rfl (by kernel_rfl) (by kernel_rfl) (by kernel_rfl) (fun _ _ _ h => h) (Or.inl ⟨by rfl, ?_⟩) (by assumption) ?_
  rotate_left
  · intro wS hSw
    obtain ⟨u1, u2⟩ := hSw
    first
      | (go_simp; done)
      | (go_simp; with_reducible rfl)
  try simp only [Act.put, List.setIfInBounds_toArray, List.set_cons_zero, List.set_cons_succ]
  refine wpAnyH_take (i := 1) (oi := ({ dst := some 62, op := Op.load 27 (Operand.tmp 61), type := 27, pos := "law.go:56", after := #[{ on := 0, ground := Ground.data }], guard := none } : Oper)) (v := ?_) rfl (by kernel_rfl) (by kernel_rfl) (by kernel_rfl) (fun _ _ _ h => h) (Or.inl ⟨by rfl, ?_⟩) (by assumption) ?_
  rotate_left
  · intro wS hSw
    obtain ⟨u1, u2⟩ := hSw
    first
      | (go_simp; done)
      | (go_simp; with_reducible rfl)
  try simp only [Act.put, List.setIfInBounds_toArray, List.set_cons_zero, List.set_cons_succ]
  refine wpAnyH_take (i := 2) (oi := ({ dst := some 63, op := Op.convert 27 3 (Operand.tmp 62), type := 3, pos := "law.go:56", after := #[{ on := 1, ground := Ground.data }], guard := none } : Oper)) (v := ?_) rfl (by kernel_rfl) (by kernel_rfl) (by kernel_rfl) (fun _ _ _ h => h) (Or.inl ⟨by rfl, ?_⟩) (by assumption) ?_
  rotate_left
  · intro wS hSw
    obtain ⟨u1, u2⟩ := hSw
    first
      | (go_simp; done)
      | (go_simp; with_reducible rfl)
  try simp only [Act.put, List.setIfInBounds_toArray, List.set_cons_zero, List.set_cons_succ]
  refine wpAnyH_take (i := 3) (oi := ({ dst := some 64, op := Op.indexAddr 42 (Operand.tmp 7) (Operand.const (Value.int IntKind.i64 1)), type := 0, pos := "law.go:56", after := #[{ on := 6, ground := Ground.gcOnly Departure.lateStores }], guard := none } : Oper)) (v := ?_) rfl (by kernel_rfl) (by kernel_rfl) (by kernel_rfl) (fun _ _ _ h => h) (Or.inl ⟨by rfl, ?_⟩) (by assumption) ?_
  rotate_left
  · intro wS hSw
    obtain ⟨u1, u2⟩ := hSw
    first
      | (go_simp; done)
      | (go_simp; with_reducible rfl)
  try simp only [Act.put, List.setIfInBounds_toArray, List.set_cons_zero, List.set_cons_succ]
  refine wpAnyH_take (i := 4) (oi := ({ dst := some 65, op := Op.load 27 (Operand.tmp 64), type := 27, pos := "law.go:56", after := #[{ on := 3, ground := Ground.data }, { on := 6, ground := Ground.gcOnly Departure.lateStores }], guard := none } : Oper)) (v := ?_) rfl (by kernel_rfl) (by kernel_rfl) (by kernel_rfl) (fun _ _ _ h => h) (Or.inl ⟨by rfl, ?_⟩) (by assumption) ?_
  rotate_left
  · intro wS hSw
    obtain ⟨u1, u2⟩ := hSw
    first
      | (go_simp; done)
      | (go_simp; with_reducible rfl)
  try simp only [Act.put, List.setIfInBounds_toArray, List.set_cons_zero, List.set_cons_succ]
  refine wpAnyH_take (i := 5) (oi := ({ dst := some 66, op := Op.convert 27 3 (Operand.tmp 65), type := 3, pos := "law.go:56", after := #[{ on := 4, ground := Ground.data }, { on := 6, ground := Ground.gcOnly Departure.lateStores }], guard := none } : Oper)) (v := ?_) rfl (by kernel_rfl) (by kernel_rfl) (by kernel_rfl) (fun _ _ _ h => h) (Or.inl ⟨by rfl, ?_⟩) (by assumption) ?_
  rotate_left
  · intro wS hSw
    obtain ⟨u1, u2⟩ := hSw
    first
      | (go_simp; done)
      | (go_simp; with_reducible rfl)
  try simp only [Act.put, List.setIfInBounds_toArray, List.set_cons_zero, List.set_cons_succ]
  refine wpAnyH_take (i := 6) (oi := ({ dst := some 13, op := Op.assign (Operand.tmp 63), type := 3, pos := "law.go:56", after := #[{ on := 2, ground := Ground.data }, { on := 0, ground := Ground.phase }, { on := 1, ground := Ground.phase }, { on := 2, ground := Ground.phase }, { on := 3, ground := Ground.textOnly Departure.lateStores }, { on := 4, ground := Ground.textOnly Departure.lateStores }, { on := 5, ground := Ground.textOnly Departure.lateStores }], guard := none } : Oper)) (v := ?_) rfl (by kernel_rfl) (by kernel_rfl) (by kernel_rfl) (fun _ _ _ h => h) (Or.inl ⟨by rfl, ?_⟩) (by assumption) ?_
  rotate_left
  · intro wS hSw
    obtain ⟨u1, u2⟩ := hSw
    first
      | (go_simp; done)
      | (go_simp; with_reducible rfl)
  try simp only [Act.put, List.setIfInBounds_toArray, List.set_cons_zero, List.set_cons_succ]
  refine wpAnyH_take (i := 7) (oi := ({ dst := some 14, op := Op.assign (Operand.tmp 66), type := 3, pos := "law.go:56", after := #[{ on := 5, ground := Ground.data }, { on := 6, ground := Ground.chain }, { on := 0, ground := Ground.phase }, { on := 1, ground := Ground.phase }, { on := 2, ground := Ground.phase }, { on := 3, ground := Ground.phase }, { on := 4, ground := Ground.phase }, { on := 5, ground := Ground.phase }, { on := 6, ground := Ground.phase }], guard := none } : Oper)) (v := ?_) rfl (by kernel_rfl) (by kernel_rfl) (by kernel_rfl) (fun _ _ _ h => h) (Or.inl ⟨by rfl, ?_⟩) (by assumption) ?_
  rotate_left
  · intro wS hSw
    obtain ⟨u1, u2⟩ := hSw
    first
      | (go_simp; done)
      | (go_simp; with_reducible rfl)
  try simp only [Act.put, List.setIfInBounds_toArray, List.set_cons_zero, List.set_cons_succ]
  refine wpAnyH_done (by kernel_rfl) ?_ _
  clear hHeld
  obtain ⟨tbp0, tbp1, tbp2, tbp3⟩ := TB.out
  go_wp2_with (first
        | (go_at_call 12
           have hal : Below Wa.heap.size Wa Wa := Below.refl _ _
           refine (HM1.out _ ((HR.out.below hal).more hal.size)).mono ?_
           rintro e w5 ⟨v5, rfl, ho5, hb⟩
           have hh : Below Wa.heap.size Wa w5 := hal.trans (hb.mono hal.size)
           replace TB := Lib.hid (TB.out.below yTB hh)
           replace yTB := Nat.lt_of_lt_of_le yTB hh.size
           replace HR := Lib.hid ((HR.out.below hh).more hh.size)
           replace HBW := Lib.hid (HBW.out.trans (hh.mono HBW.out.size))
           clear tbp0 tbp1 tbp2 tbp3
           obtain ⟨A5, c5, rfl, hc5, -, hrd5⟩ := Kit.own_rd ho5
           have RA5 := Lib.hid hrd5
           clear ho5 hrd5
           obtain ⟨tbp0, tbp1, tbp2, tbp3⟩ := TB.out
           clear hb hh hal)
        | (go_at_call 12
           have hal : Below w5.heap.size w5 (w5.alloc (.cells #[.int .i64 (H), .int .i64 (W), .int .i64 (C), .slice A5 n c5] 26)) := (Below.refl _ _).alloc (by first | exact Nat.le_refl _ | (simp; done) | (simp; omega)) _
           refine (HM2.out _ A5 c5 hc5 ((RA5.out.below hal).more hal.size)).mono ?_
           rintro e w6 ⟨v6, rfl, ho6, hb⟩
           have hh : Below w5.heap.size w5 w6 := hal.trans (hb.mono hal.size)
           have qTU := (BoxAt.newq (H) (W) (C) (A5) (n) (c5) 26) w5
           try simp only [World.size_alloc] at qTU
           have TU := Lib.hid (qTU.below (by first | (simp; done) | (simp; omega)) hb)
           have yTU : w5.heap.size < w6.heap.size := by have := hb.size; simp at this; omega
           clear qTU
           replace TB := Lib.hid (TB.out.below yTB hh)
           replace yTB := Nat.lt_of_lt_of_le yTB hh.size
           replace HR := Lib.hid ((HR.out.below hh).more hh.size)
           replace RA5 := Lib.hid ((RA5.out.below hh).more hh.size)
           replace HBW := Lib.hid (HBW.out.trans (hh.mono HBW.out.size))
           clear tbp0 tbp1 tbp2 tbp3
           obtain ⟨A6, c6, rfl, hc6, -, hrd6⟩ := Kit.own_rd ho6
           have RA6 := Lib.hid hrd6
           clear ho6 hrd6
           obtain ⟨tbp0, tbp1, tbp2, tbp3⟩ := TB.out
           obtain ⟨tup0, tup1, tup2, tup3⟩ := TU.out
           clear hb hh hal))
  clear tbp0 tbp1 tbp2 tbp3 tup0 tup1 tup2 tup3 TU yTU RA5
  have hal : Below w6.heap.size w6 ((w6.alloc (.cells #[.int .i64 (H), .int .i64 (W), .int .i64 (C), .slice A6 n c6] 26)).alloc (.cells #[.int .i64 H, .int .i64 W, .int .i64 C] 23)) := ((Below.refl _ _).alloc (Nat.le_refl _) _).alloc (by simp) _
  replace TB := Lib.hid (TB.out.below yTB hal)
  have TV := Lib.hid ((BoxAt.newq H W C A6 n c6 26 w6).below (B' := w6.heap.size + 1) (by omega) ((Below.refl _ _).alloc (by simp) (.cells #[.int .i64 H, .int .i64 W, .int .i64 C] 23)))
  have hsh := ShapeAt.new H W C 23 (w6.alloc (.cells #[.int .i64 (H), .int .i64 (W), .int .i64 (C), .slice A6 n c6] 26))
  rw [World.size_alloc] at hsh
  have TS := Lib.hid hsh
  replace HR := Lib.hid ((HR.out.below hal).more hal.size)
  have RV := Lib.hid ((RA6.out.below hal).more hal.size)
  replace HBW := Lib.hid (HBW.out.trans (hal.mono HBW.out.size))
  have zTB : w.heap.size < ((w6.alloc (.cells #[.int .i64 (H), .int .i64 (W), .int .i64 (C), .slice A6 n c6] 26)).alloc (.cells #[.int .i64 H, .int .i64 W, .int .i64 C] 23)).heap.size := Nat.lt_of_lt_of_le yTB hal.size
  have zTV : w6.heap.size < ((w6.alloc (.cells #[.int .i64 (H), .int .i64 (W), .int .i64 (C), .slice A6 n c6] 26)).alloc (.cells #[.int .i64 H, .int .i64 W, .int .i64 C] 23)).heap.size := by simp; omega
  have zTS : w6.heap.size + 1 < ((w6.alloc (.cells #[.int .i64 (H), .int .i64 (W), .int .i64 (C), .slice A6 n c6] 26)).alloc (.cells #[.int .i64 H, .int .i64 W, .int .i64 C] 23)).heap.size := by simp
  clear hal hsh RA6
  generalize ((w6.alloc (.cells #[.int .i64 (H), .int .i64 (W), .int .i64 (C), .slice A6 n c6] 26)).alloc (.cells #[.int .i64 H, .int .i64 W, .int .i64 C] 23)) = Wm at TB TV TS HR RV HBW zTB zTV zTS ⊢
  generalize w6.heap.size = g6 at TV TS zTV zTS ⊢
  go_loopw [20] (fun u wr => ∃ i : Nat, i ≤ n ∧ u = .int .i64 i ∧ Hid (Below Wm.heap.size Wm wr)) (fun u _ => n - (intOf u).toNat)
  case atStart => exact ⟨0, Nat.zero_le _, rfl, Lib.hid (Below.refl _ _)⟩
  case round =>
    obtain ⟨i, hi, rfl, hBr⟩ := hrel
    obtain ⟨tb0, tb1, tb2, tb3⟩ := TB.out.below zTB hBr.out
    obtain ⟨tv0, tv1, tv2, tv3⟩ := TV.out.below zTV hBr.out
    obtain ⟨ts0, ts1, ts2⟩ := TS.out.below zTS hBr.out
    have HR9 := Lib.hid (HR.out.below hBr.out)
    have RV9 := Lib.hid (RV.out.below hBr.out)
    by_cases hlt : i < n
    · have hiI : (i : Int) < (n : Int) := by omega
      have hi0 : (0 : Int) ≤ (i : Int) := by omega
      have hx1 : i < zs.length := by have := HN.out; omega
      have hy1 : i < (rowL F2 n).length := by rw [rowL_len]; exact hlt
      obtain ⟨b1, off1, rfl, -, hcx⟩ := HR9.out.ints hx1
      obtain ⟨b2, off2, rfl, -, hcy⟩ := RV9.out.ints hy1
      have hvx : (rowL F2 n)[i] = F2 i := by simp [rowL]
      have hzx : zs[i] = zs.getD i 0 := by simp [List.getD_eq_getElem?_getD, List.getElem?_eq_getElem hx1]
      rw [hvx] at hcy
      rw [hzx] at hcx
      obtain ⟨p1, p2, p3⟩ := parts_lt (a := a) (b := b) (d := d) (q := i) (by rw [HMm.out]; exact hlt)
      have hS := HFS.out i hlt
      have hG := HFG.out i
      obtain ⟨r, hr⟩ : ∃ r, i / d / b = r := ⟨_, rfl⟩
      obtain ⟨s, hsr⟩ : ∃ s, i / d % b = s := ⟨_, rfl⟩
      obtain ⟨t, htr⟩ : ∃ t, i / d = t := ⟨_, rfl⟩
      have htb : t < 257 := by
        have := Nat.div_add_mod t b
        rw [htr] at hr hsr p1 p2
        have h16 : b ≤ 16 := by have := HV.out; omega
        have h17 : a ≤ 16 := by have := HU.out; omega
        have : b * (t / b) ≤ 16 * 15 := Nat.mul_le_mul h16 (by omega)
        omega
      rw [htr] at hr hsr p1 p2 hS hG
      rw [hr] at p1 hS hG
      rw [hsr] at p2 hS hG
      have hq1 : ((i : Int)).tdiv C = (t : Int) := by rw [HCd.out, Int.tdiv_eq_ediv_of_nonneg hi0, ← htr]; rfl
      have hq2 : ((t : Int)).tdiv W = (r : Int) := by rw [HV.out, Int.tdiv_eq_ediv_of_nonneg (by omega), ← hr]; rfl
      have hq3 : ((t : Int)).tmod W = (s : Int) := by rw [HV.out, Int.tmod_eq_emod_of_nonneg (by omega), ← hsr]; rfl
      have hwt : IntKind.i64.wrap (t : Int) = (t : Int) := IntWalk.i64_in _ (by omega)
      have hwr : IntKind.i64.wrap (r : Int) = (r : Int) := IntWalk.i64_in _ (by have := HU.out; omega)
      have hws : IntKind.i64.wrap (s : Int) = (s : Int) := IntWalk.i64_in _ (by have := HV.out; omega)
      have hC0 : ¬ C = 0 := by omega
      have hW0 : ¬ W = 0 := by omega
      have hrH : (r : Int) < H := by have := HU.out; omega
      have hsW : (s : Int) < W := by have := HV.out; omega
      have hr0 : (0 : Int) ≤ (r : Int) := by omega
      have hs0 : (0 : Int) ≤ (s : Int) := by omega
      have hrx : IntKind.i64.wrap ((r : Int) + x) = (r : Int) + x := IntWalk.i64_in _ (by omega)
      have hsy : IntKind.i64.wrap ((s : Int) + y) = (s : Int) + y := IntWalk.i64_in _ (by omega)
      clear hr hsr htr hvx hzx p1 p2 p3 htb
      go_wp2_with fail
      go_quiet (fail)
      clear hq1 hq2 hq3
      rcases (show ((r : Int) + x < 0) ∨ (0 ≤ (r : Int) + x ∧ H ≤ (r : Int) + x) ∨ (0 ≤ (r : Int) + x ∧ (r : Int) + x < H ∧ (s : Int) + y < 0) ∨ (0 ≤ (r : Int) + x ∧ (r : Int) + x < H ∧ 0 ≤ (s : Int) + y ∧ W ≤ (s : Int) + y) ∨ (0 ≤ (r : Int) + x ∧ (r : Int) + x < H ∧ 0 ≤ (s : Int) + y ∧ (s : Int) + y < W) by omega) with h1 | ⟨h1, h2⟩ | ⟨h1, h2, h3⟩ | ⟨h1, h2, h3, h4⟩ | ⟨h1, h2, h3, h4⟩
      · rw [hG (by omega)] at hcy
        clear hS hG
        generalize zs.getD i 0 = u at hcx
        go_wp2_with fail
        refine wp_region_held_drew (S := fun w' => w'.cell? ⟨w.heap.size, 3, none⟩ = some (.slice (some ⟨b1, off1, none⟩) n c) ∧ w'.cell? ⟨g6, 3, none⟩ = some (.slice (some ⟨b2, off2, none⟩) n c6) ∧ w'.cell? ⟨b1, off1 + i, none⟩ = some (.int .i8 u) ∧ w'.cell? ⟨b2, off2 + i, none⟩ = some (.int .i8 z)) (by kernel_rfl) ⟨tb3, tv3, hcx, hcy⟩ (fun hHeld => ?_)
        refine wpAnyH_take (i := 0) (oi := ({ dst := some 149, op := Op.move (Operand.tmp 23), type := 4, pos := "law.go:66", after := #[], guard := none } : Oper)) (v := ?_) rfl (by kernel_rfl) (by kernel_rfl) (by kernel_rfl) (fun _ _ _ h => h) (Or.inl ⟨by rfl, ?_⟩) (by assumption) ?_
        rotate_left
        · intro wS hSw
          first
            | (go_simp; done)
            | (go_simp; with_reducible rfl)
        try simp only [Act.put, List.setIfInBounds_toArray, List.set_cons_zero, List.set_cons_succ]
        refine wpAnyH_take (i := 1) (oi := ({ dst := some 150, op := Op.move (Operand.tmp 149), type := 4, pos := "law.go:66", after := #[{ on := 0, ground := Ground.data }], guard := none } : Oper)) (v := ?_) rfl (by kernel_rfl) (by kernel_rfl) (by kernel_rfl) (fun _ _ _ h => h) (Or.inl ⟨by rfl, ?_⟩) (by assumption) ?_
        rotate_left
        · intro wS hSw
          first
            | (go_simp; done)
            | (go_simp; with_reducible rfl)
        try simp only [Act.put, List.setIfInBounds_toArray, List.set_cons_zero, List.set_cons_succ]
        refine wpAnyH_take (i := 2) (oi := ({ dst := some 151, op := Op.fieldAddr 26 (Operand.tmp 17) 1, type := 0, pos := "law.go:66", after := #[{ on := 1, ground := Ground.guard }], guard := some (1, true) } : Oper)) (v := undef) rfl (by kernel_rfl) (by kernel_rfl) (by kernel_rfl) (fun _ _ _ h => h) (Or.inr ⟨by rfl, rfl⟩) (by assumption) ?_
        try simp only [Act.put, List.setIfInBounds_toArray, List.set_cons_zero, List.set_cons_succ]
        refine wpAnyH_take (i := 3) (oi := ({ dst := some 152, op := Op.load 24 (Operand.tmp 151), type := 24, pos := "law.go:66", after := #[{ on := 2, ground := Ground.data }, { on := 1, ground := Ground.guard }], guard := some (1, true) } : Oper)) (v := undef) rfl (by kernel_rfl) (by kernel_rfl) (by kernel_rfl) (fun _ _ _ h => h) (Or.inr ⟨by rfl, rfl⟩) (by assumption) ?_
        try simp only [Act.put, List.setIfInBounds_toArray, List.set_cons_zero, List.set_cons_succ]
        refine wpAnyH_take (i := 4) (oi := ({ dst := some 153, op := Op.move (Operand.tmp 20), type := 3, pos := "law.go:66", after := #[{ on := 1, ground := Ground.guard }], guard := some (1, true) } : Oper)) (v := undef) rfl (by kernel_rfl) (by kernel_rfl) (by kernel_rfl) (fun _ _ _ h => h) (Or.inr ⟨by rfl, rfl⟩) (by assumption) ?_
        try simp only [Act.put, List.setIfInBounds_toArray, List.set_cons_zero, List.set_cons_succ]
        refine wpAnyH_take (i := 5) (oi := ({ dst := some 154, op := Op.indexAddr 24 (Operand.tmp 152) (Operand.tmp 153), type := 0, pos := "law.go:66", after := #[{ on := 3, ground := Ground.data }, { on := 4, ground := Ground.data }, { on := 1, ground := Ground.guard }], guard := some (1, true) } : Oper)) (v := undef) rfl (by kernel_rfl) (by kernel_rfl) (by kernel_rfl) (fun _ _ _ h => h) (Or.inr ⟨by rfl, rfl⟩) (by assumption) ?_
        try simp only [Act.put, List.setIfInBounds_toArray, List.set_cons_zero, List.set_cons_succ]
        refine wpAnyH_take (i := 6) (oi := ({ dst := some 155, op := Op.load 27 (Operand.tmp 154), type := 27, pos := "law.go:66", after := #[{ on := 5, ground := Ground.data }, { on := 1, ground := Ground.guard }], guard := some (1, true) } : Oper)) (v := undef) rfl (by kernel_rfl) (by kernel_rfl) (by kernel_rfl) (fun _ _ _ h => h) (Or.inr ⟨by rfl, rfl⟩) (by assumption) ?_
        try simp only [Act.put, List.setIfInBounds_toArray, List.set_cons_zero, List.set_cons_succ]
        refine wpAnyH_take (i := 7) (oi := ({ dst := some 156, op := Op.fieldAddr 26 (Operand.tmp 4) 1, type := 0, pos := "law.go:66", after := #[{ on := 1, ground := Ground.guard }], guard := some (1, true) } : Oper)) (v := undef) rfl (by kernel_rfl) (by kernel_rfl) (by kernel_rfl) (fun _ _ _ h => h) (Or.inr ⟨by rfl, rfl⟩) (by assumption) ?_
        try simp only [Act.put, List.setIfInBounds_toArray, List.set_cons_zero, List.set_cons_succ]
        refine wpAnyH_take (i := 8) (oi := ({ dst := some 157, op := Op.load 24 (Operand.tmp 156), type := 24, pos := "law.go:66", after := #[{ on := 7, ground := Ground.data }, { on := 1, ground := Ground.guard }], guard := some (1, true) } : Oper)) (v := undef) rfl (by kernel_rfl) (by kernel_rfl) (by kernel_rfl) (fun _ _ _ h => h) (Or.inr ⟨by rfl, rfl⟩) (by assumption) ?_
        try simp only [Act.put, List.setIfInBounds_toArray, List.set_cons_zero, List.set_cons_succ]
        refine wpAnyH_take (i := 9) (oi := ({ dst := some 158, op := Op.move (Operand.tmp 20), type := 3, pos := "law.go:66", after := #[{ on := 1, ground := Ground.guard }], guard := some (1, true) } : Oper)) (v := undef) rfl (by kernel_rfl) (by kernel_rfl) (by kernel_rfl) (fun _ _ _ h => h) (Or.inr ⟨by rfl, rfl⟩) (by assumption) ?_
        try simp only [Act.put, List.setIfInBounds_toArray, List.set_cons_zero, List.set_cons_succ]
        refine wpAnyH_take (i := 10) (oi := ({ dst := some 159, op := Op.indexAddr 24 (Operand.tmp 157) (Operand.tmp 158), type := 0, pos := "law.go:66", after := #[{ on := 8, ground := Ground.data }, { on := 9, ground := Ground.data }, { on := 1, ground := Ground.guard }], guard := some (1, true) } : Oper)) (v := undef) rfl (by kernel_rfl) (by kernel_rfl) (by kernel_rfl) (fun _ _ _ h => h) (Or.inr ⟨by rfl, rfl⟩) (by assumption) ?_
        try simp only [Act.put, List.setIfInBounds_toArray, List.set_cons_zero, List.set_cons_succ]
        refine wpAnyH_take (i := 11) (oi := ({ dst := some 160, op := Op.load 27 (Operand.tmp 159), type := 27, pos := "law.go:66", after := #[{ on := 10, ground := Ground.data }, { on := 1, ground := Ground.guard }], guard := some (1, true) } : Oper)) (v := undef) rfl (by kernel_rfl) (by kernel_rfl) (by kernel_rfl) (fun _ _ _ h => h) (Or.inr ⟨by rfl, rfl⟩) (by assumption) ?_
        try simp only [Act.put, List.setIfInBounds_toArray, List.set_cons_zero, List.set_cons_succ]
        refine wpAnyH_take (i := 12) (oi := ({ dst := some 161, op := Op.binOp BinOp.neq 27 (Operand.tmp 155) (Operand.tmp 160) 27, type := 4, pos := "law.go:66", after := #[{ on := 6, ground := Ground.data }, { on := 11, ground := Ground.data }, { on := 1, ground := Ground.guard }], guard := some (1, true) } : Oper)) (v := undef) rfl (by kernel_rfl) (by kernel_rfl) (by kernel_rfl) (fun _ _ _ h => h) (Or.inr ⟨by rfl, rfl⟩) (by assumption) ?_
        try simp only [Act.put, List.setIfInBounds_toArray, List.set_cons_zero, List.set_cons_succ]
        refine wpAnyH_take (i := 13) (oi := ({ dst := some 162, op := Op.pick (Operand.tmp 150) (Operand.tmp 161) (Operand.const (Value.bool false)), type := 4, pos := "law.go:66", after := #[{ on := 1, ground := Ground.data }, { on := 12, ground := Ground.data }], guard := none } : Oper)) (v := ?_) rfl (by kernel_rfl) (by kernel_rfl) (by kernel_rfl) (fun _ _ _ h => h) (Or.inl ⟨by rfl, ?_⟩) (by assumption) ?_
        rotate_left
        · intro wS hSw
          first
            | (go_simp; done)
            | (go_simp; with_reducible rfl)
        try simp only [Act.put, List.setIfInBounds_toArray, List.set_cons_zero, List.set_cons_succ]
        refine wpAnyH_take (i := 14) (oi := ({ dst := some 163, op := Op.move (Operand.tmp 162), type := 4, pos := "law.go:66", after := #[{ on := 13, ground := Ground.data }, { on := 1, ground := Ground.chain }], guard := none } : Oper)) (v := ?_) rfl (by kernel_rfl) (by kernel_rfl) (by kernel_rfl) (fun _ _ _ h => h) (Or.inl ⟨by rfl, ?_⟩) (by assumption) ?_
        rotate_left
        · intro wS hSw
          first
            | (go_simp; done)
            | (go_simp; with_reducible rfl)
        try simp only [Act.put, List.setIfInBounds_toArray, List.set_cons_zero, List.set_cons_succ]
        refine wpAnyH_take (i := 15) (oi := ({ dst := some 164, op := Op.move (Operand.tmp 23), type := 4, pos := "law.go:66", after := #[{ on := 14, ground := Ground.guard }], guard := some (14, false) } : Oper)) (v := ?_) rfl (by kernel_rfl) (by kernel_rfl) (by kernel_rfl) (fun _ _ _ h => h) (Or.inl ⟨by rfl, ?_⟩) (by assumption) ?_
        rotate_left
        · intro wS hSw
          first
            | (go_simp; done)
            | (go_simp; with_reducible rfl)
        try simp only [Act.put, List.setIfInBounds_toArray, List.set_cons_zero, List.set_cons_succ]
        refine wpAnyH_take (i := 16) (oi := ({ dst := some 165, op := Op.unOp UnOp.not 4 (Operand.tmp 164), type := 4, pos := "law.go:66", after := #[{ on := 15, ground := Ground.data }, { on := 14, ground := Ground.guard }], guard := some (14, false) } : Oper)) (v := ?_) rfl (by kernel_rfl) (by kernel_rfl) (by kernel_rfl) (fun _ _ _ h => h) (Or.inl ⟨by rfl, ?_⟩) (by assumption) ?_
        rotate_left
        · intro wS hSw
          first
            | (go_simp; done)
            | (go_simp; with_reducible rfl)
        try simp only [Act.put, List.setIfInBounds_toArray, List.set_cons_zero, List.set_cons_succ]
        refine wpAnyH_take (i := 17) (oi := ({ dst := some 166, op := Op.move (Operand.tmp 165), type := 4, pos := "law.go:66", after := #[{ on := 16, ground := Ground.data }, { on := 14, ground := Ground.chain }, { on := 14, ground := Ground.guard }], guard := some (14, false) } : Oper)) (v := ?_) rfl (by kernel_rfl) (by kernel_rfl) (by kernel_rfl) (fun _ _ _ h => h) (Or.inl ⟨by rfl, ?_⟩) (by assumption) ?_
        rotate_left
        · intro wS hSw
          first
            | (go_simp; done)
            | (go_simp; with_reducible rfl)
        try simp only [Act.put, List.setIfInBounds_toArray, List.set_cons_zero, List.set_cons_succ]
        refine wpAnyH_take (i := 18) (oi := ({ dst := some 167, op := Op.fieldAddr 26 (Operand.tmp 17) 1, type := 0, pos := "law.go:66", after := #[{ on := 17, ground := Ground.guard }], guard := some (17, true) } : Oper)) (v := ?_) rfl (by kernel_rfl) (by kernel_rfl) (by kernel_rfl) (fun _ _ _ h => h) (Or.inl ⟨by rfl, ?_⟩) (by assumption) ?_
        rotate_left
        · intro wS hSw
          first
            | (go_simp; done)
            | (go_simp; with_reducible rfl)
        try simp only [Act.put, List.setIfInBounds_toArray, List.set_cons_zero, List.set_cons_succ]
        refine wpAnyH_take (i := 19) (oi := ({ dst := some 168, op := Op.load 24 (Operand.tmp 167), type := 24, pos := "law.go:66", after := #[{ on := 18, ground := Ground.data }, { on := 17, ground := Ground.guard }], guard := some (17, true) } : Oper)) (v := ?_) rfl (by kernel_rfl) (by kernel_rfl) (by kernel_rfl) (fun _ _ _ h => h) (Or.inl ⟨by rfl, ?_⟩) (by assumption) ?_
        rotate_left
        · intro wS hSw
          obtain ⟨u1, u2, u3, u4⟩ := hSw
          first
            | (go_simp; done)
            | (go_simp; with_reducible rfl)
        try simp only [Act.put, List.setIfInBounds_toArray, List.set_cons_zero, List.set_cons_succ]
        refine wpAnyH_take (i := 20) (oi := ({ dst := some 169, op := Op.move (Operand.tmp 20), type := 3, pos := "law.go:66", after := #[{ on := 17, ground := Ground.guard }], guard := some (17, true) } : Oper)) (v := ?_) rfl (by kernel_rfl) (by kernel_rfl) (by kernel_rfl) (fun _ _ _ h => h) (Or.inl ⟨by rfl, ?_⟩) (by assumption) ?_
        rotate_left
        · intro wS hSw
          first
            | (go_simp; done)
            | (go_simp; with_reducible rfl)
        try simp only [Act.put, List.setIfInBounds_toArray, List.set_cons_zero, List.set_cons_succ]
        refine wpAnyH_take (i := 21) (oi := ({ dst := some 170, op := Op.indexAddr 24 (Operand.tmp 168) (Operand.tmp 169), type := 0, pos := "law.go:66", after := #[{ on := 19, ground := Ground.data }, { on := 20, ground := Ground.data }, { on := 17, ground := Ground.guard }], guard := some (17, true) } : Oper)) (v := ?_) rfl (by kernel_rfl) (by kernel_rfl) (by kernel_rfl) (fun _ _ _ h => h) (Or.inl ⟨by rfl, ?_⟩) (by assumption) ?_
        rotate_left
        · intro wS hSw
          first
            | (go_simp; done)
            | (go_simp; with_reducible rfl)
        try simp only [Act.put, List.setIfInBounds_toArray, List.set_cons_zero, List.set_cons_succ]
        refine wpAnyH_take (i := 22) (oi := ({ dst := some 171, op := Op.load 27 (Operand.tmp 170), type := 27, pos := "law.go:66", after := #[{ on := 21, ground := Ground.data }, { on := 17, ground := Ground.guard }], guard := some (17, true) } : Oper)) (v := ?_) rfl (by kernel_rfl) (by kernel_rfl) (by kernel_rfl) (fun _ _ _ h => h) (Or.inl ⟨by rfl, ?_⟩) (by assumption) ?_
        rotate_left
        · intro wS hSw
          obtain ⟨u1, u2, u3, u4⟩ := hSw
          first
            | (go_simp; done)
            | (go_simp; with_reducible rfl)
        try simp only [Act.put, List.setIfInBounds_toArray, List.set_cons_zero, List.set_cons_succ]
        refine wpAnyH_take (i := 23) (oi := ({ dst := some 172, op := Op.move (Operand.tmp 2), type := 27, pos := "law.go:66", after := #[{ on := 17, ground := Ground.guard }], guard := some (17, true) } : Oper)) (v := ?_) rfl (by kernel_rfl) (by kernel_rfl) (by kernel_rfl) (fun _ _ _ h => h) (Or.inl ⟨by rfl, ?_⟩) (by assumption) ?_
        rotate_left
        · intro wS hSw
          first
            | (go_simp; done)
            | (go_simp; with_reducible rfl)
        try simp only [Act.put, List.setIfInBounds_toArray, List.set_cons_zero, List.set_cons_succ]
        refine wpAnyH_take (i := 24) (oi := ({ dst := some 173, op := Op.binOp BinOp.neq 27 (Operand.tmp 171) (Operand.tmp 172) 27, type := 4, pos := "law.go:66", after := #[{ on := 22, ground := Ground.data }, { on := 23, ground := Ground.data }, { on := 17, ground := Ground.guard }], guard := some (17, true) } : Oper)) (v := ?_) rfl (by kernel_rfl) (by kernel_rfl) (by kernel_rfl) (fun _ _ _ h => h) (Or.inl ⟨by rfl, ?_⟩) (by assumption) ?_
        rotate_left
        · intro wS hSw
          first
            | (go_simp; done)
            | (go_simp; with_reducible rfl)
        try simp only [Act.put, List.setIfInBounds_toArray, List.set_cons_zero, List.set_cons_succ]
        refine wpAnyH_take (i := 25) (oi := ({ dst := some 174, op := Op.pick (Operand.tmp 166) (Operand.tmp 173) (Operand.const (Value.bool false)), type := 4, pos := "law.go:66", after := #[{ on := 17, ground := Ground.data }, { on := 24, ground := Ground.data }, { on := 14, ground := Ground.guard }], guard := some (14, false) } : Oper)) (v := ?_) rfl (by kernel_rfl) (by kernel_rfl) (by kernel_rfl) (fun _ _ _ h => h) (Or.inl ⟨by rfl, ?_⟩) (by assumption) ?_
        rotate_left
        · intro wS hSw
          first
            | (go_simp; done)
            | (go_simp; with_reducible rfl)
        try simp only [Act.put, List.setIfInBounds_toArray, List.set_cons_zero, List.set_cons_succ]
        refine wpAnyH_take (i := 26) (oi := ({ dst := some 175, op := Op.pick (Operand.tmp 163) (Operand.const (Value.bool true)) (Operand.tmp 174), type := 4, pos := "law.go:66", after := #[{ on := 14, ground := Ground.data }, { on := 25, ground := Ground.data }], guard := none } : Oper)) (v := ?_) rfl (by kernel_rfl) (by kernel_rfl) (by kernel_rfl) (fun _ _ _ h => h) (Or.inl ⟨by rfl, ?_⟩) (by assumption) ?_
        rotate_left
        · intro wS hSw
          first
            | (go_simp; done)
            | (go_simp; with_reducible rfl)
        try simp only [Act.put, List.setIfInBounds_toArray, List.set_cons_zero, List.set_cons_succ]
        refine wpAnyH_done (by kernel_rfl) ?_ _
        clear hHeld
        go_wp2_with fail
        go_roundw
        case rel => exact ⟨i + 1, by omega, by go_num, Lib.hid (Kit.below_drewN hBr.out _).drew⟩
        case measure => simp [intOf]; omega
      · rw [hG (by omega)] at hcy
        clear hS hG
        generalize zs.getD i 0 = u at hcx
        go_wp2_with fail
        refine wp_region_held_drew (S := fun w' => w'.cell? ⟨w.heap.size, 3, none⟩ = some (.slice (some ⟨b1, off1, none⟩) n c) ∧ w'.cell? ⟨g6, 3, none⟩ = some (.slice (some ⟨b2, off2, none⟩) n c6) ∧ w'.cell? ⟨b1, off1 + i, none⟩ = some (.int .i8 u) ∧ w'.cell? ⟨b2, off2 + i, none⟩ = some (.int .i8 z)) (by kernel_rfl) ⟨tb3, tv3, hcx, hcy⟩ (fun hHeld => ?_)
        refine wpAnyH_take (i := 0) (oi := ({ dst := some 149, op := Op.move (Operand.tmp 23), type := 4, pos := "law.go:66", after := #[], guard := none } : Oper)) (v := ?_) rfl (by kernel_rfl) (by kernel_rfl) (by kernel_rfl) (fun _ _ _ h => h) (Or.inl ⟨by rfl, ?_⟩) (by assumption) ?_
        rotate_left
        · intro wS hSw
          first
            | (go_simp; done)
            | (go_simp; with_reducible rfl)
        try simp only [Act.put, List.setIfInBounds_toArray, List.set_cons_zero, List.set_cons_succ]
        refine wpAnyH_take (i := 1) (oi := ({ dst := some 150, op := Op.move (Operand.tmp 149), type := 4, pos := "law.go:66", after := #[{ on := 0, ground := Ground.data }], guard := none } : Oper)) (v := ?_) rfl (by kernel_rfl) (by kernel_rfl) (by kernel_rfl) (fun _ _ _ h => h) (Or.inl ⟨by rfl, ?_⟩) (by assumption) ?_
        rotate_left
        · intro wS hSw
          first
            | (go_simp; done)
            | (go_simp; with_reducible rfl)
        try simp only [Act.put, List.setIfInBounds_toArray, List.set_cons_zero, List.set_cons_succ]
        refine wpAnyH_take (i := 2) (oi := ({ dst := some 151, op := Op.fieldAddr 26 (Operand.tmp 17) 1, type := 0, pos := "law.go:66", after := #[{ on := 1, ground := Ground.guard }], guard := some (1, true) } : Oper)) (v := undef) rfl (by kernel_rfl) (by kernel_rfl) (by kernel_rfl) (fun _ _ _ h => h) (Or.inr ⟨by rfl, rfl⟩) (by assumption) ?_
        try simp only [Act.put, List.setIfInBounds_toArray, List.set_cons_zero, List.set_cons_succ]
        refine wpAnyH_take (i := 3) (oi := ({ dst := some 152, op := Op.load 24 (Operand.tmp 151), type := 24, pos := "law.go:66", after := #[{ on := 2, ground := Ground.data }, { on := 1, ground := Ground.guard }], guard := some (1, true) } : Oper)) (v := undef) rfl (by kernel_rfl) (by kernel_rfl) (by kernel_rfl) (fun _ _ _ h => h) (Or.inr ⟨by rfl, rfl⟩) (by assumption) ?_
        try simp only [Act.put, List.setIfInBounds_toArray, List.set_cons_zero, List.set_cons_succ]
        refine wpAnyH_take (i := 4) (oi := ({ dst := some 153, op := Op.move (Operand.tmp 20), type := 3, pos := "law.go:66", after := #[{ on := 1, ground := Ground.guard }], guard := some (1, true) } : Oper)) (v := undef) rfl (by kernel_rfl) (by kernel_rfl) (by kernel_rfl) (fun _ _ _ h => h) (Or.inr ⟨by rfl, rfl⟩) (by assumption) ?_
        try simp only [Act.put, List.setIfInBounds_toArray, List.set_cons_zero, List.set_cons_succ]
        refine wpAnyH_take (i := 5) (oi := ({ dst := some 154, op := Op.indexAddr 24 (Operand.tmp 152) (Operand.tmp 153), type := 0, pos := "law.go:66", after := #[{ on := 3, ground := Ground.data }, { on := 4, ground := Ground.data }, { on := 1, ground := Ground.guard }], guard := some (1, true) } : Oper)) (v := undef) rfl (by kernel_rfl) (by kernel_rfl) (by kernel_rfl) (fun _ _ _ h => h) (Or.inr ⟨by rfl, rfl⟩) (by assumption) ?_
        try simp only [Act.put, List.setIfInBounds_toArray, List.set_cons_zero, List.set_cons_succ]
        refine wpAnyH_take (i := 6) (oi := ({ dst := some 155, op := Op.load 27 (Operand.tmp 154), type := 27, pos := "law.go:66", after := #[{ on := 5, ground := Ground.data }, { on := 1, ground := Ground.guard }], guard := some (1, true) } : Oper)) (v := undef) rfl (by kernel_rfl) (by kernel_rfl) (by kernel_rfl) (fun _ _ _ h => h) (Or.inr ⟨by rfl, rfl⟩) (by assumption) ?_
        try simp only [Act.put, List.setIfInBounds_toArray, List.set_cons_zero, List.set_cons_succ]
        refine wpAnyH_take (i := 7) (oi := ({ dst := some 156, op := Op.fieldAddr 26 (Operand.tmp 4) 1, type := 0, pos := "law.go:66", after := #[{ on := 1, ground := Ground.guard }], guard := some (1, true) } : Oper)) (v := undef) rfl (by kernel_rfl) (by kernel_rfl) (by kernel_rfl) (fun _ _ _ h => h) (Or.inr ⟨by rfl, rfl⟩) (by assumption) ?_
        try simp only [Act.put, List.setIfInBounds_toArray, List.set_cons_zero, List.set_cons_succ]
        refine wpAnyH_take (i := 8) (oi := ({ dst := some 157, op := Op.load 24 (Operand.tmp 156), type := 24, pos := "law.go:66", after := #[{ on := 7, ground := Ground.data }, { on := 1, ground := Ground.guard }], guard := some (1, true) } : Oper)) (v := undef) rfl (by kernel_rfl) (by kernel_rfl) (by kernel_rfl) (fun _ _ _ h => h) (Or.inr ⟨by rfl, rfl⟩) (by assumption) ?_
        try simp only [Act.put, List.setIfInBounds_toArray, List.set_cons_zero, List.set_cons_succ]
        refine wpAnyH_take (i := 9) (oi := ({ dst := some 158, op := Op.move (Operand.tmp 20), type := 3, pos := "law.go:66", after := #[{ on := 1, ground := Ground.guard }], guard := some (1, true) } : Oper)) (v := undef) rfl (by kernel_rfl) (by kernel_rfl) (by kernel_rfl) (fun _ _ _ h => h) (Or.inr ⟨by rfl, rfl⟩) (by assumption) ?_
        try simp only [Act.put, List.setIfInBounds_toArray, List.set_cons_zero, List.set_cons_succ]
        refine wpAnyH_take (i := 10) (oi := ({ dst := some 159, op := Op.indexAddr 24 (Operand.tmp 157) (Operand.tmp 158), type := 0, pos := "law.go:66", after := #[{ on := 8, ground := Ground.data }, { on := 9, ground := Ground.data }, { on := 1, ground := Ground.guard }], guard := some (1, true) } : Oper)) (v := undef) rfl (by kernel_rfl) (by kernel_rfl) (by kernel_rfl) (fun _ _ _ h => h) (Or.inr ⟨by rfl, rfl⟩) (by assumption) ?_
        try simp only [Act.put, List.setIfInBounds_toArray, List.set_cons_zero, List.set_cons_succ]
        refine wpAnyH_take (i := 11) (oi := ({ dst := some 160, op := Op.load 27 (Operand.tmp 159), type := 27, pos := "law.go:66", after := #[{ on := 10, ground := Ground.data }, { on := 1, ground := Ground.guard }], guard := some (1, true) } : Oper)) (v := undef) rfl (by kernel_rfl) (by kernel_rfl) (by kernel_rfl) (fun _ _ _ h => h) (Or.inr ⟨by rfl, rfl⟩) (by assumption) ?_
        try simp only [Act.put, List.setIfInBounds_toArray, List.set_cons_zero, List.set_cons_succ]
        refine wpAnyH_take (i := 12) (oi := ({ dst := some 161, op := Op.binOp BinOp.neq 27 (Operand.tmp 155) (Operand.tmp 160) 27, type := 4, pos := "law.go:66", after := #[{ on := 6, ground := Ground.data }, { on := 11, ground := Ground.data }, { on := 1, ground := Ground.guard }], guard := some (1, true) } : Oper)) (v := undef) rfl (by kernel_rfl) (by kernel_rfl) (by kernel_rfl) (fun _ _ _ h => h) (Or.inr ⟨by rfl, rfl⟩) (by assumption) ?_
        try simp only [Act.put, List.setIfInBounds_toArray, List.set_cons_zero, List.set_cons_succ]
        refine wpAnyH_take (i := 13) (oi := ({ dst := some 162, op := Op.pick (Operand.tmp 150) (Operand.tmp 161) (Operand.const (Value.bool false)), type := 4, pos := "law.go:66", after := #[{ on := 1, ground := Ground.data }, { on := 12, ground := Ground.data }], guard := none } : Oper)) (v := ?_) rfl (by kernel_rfl) (by kernel_rfl) (by kernel_rfl) (fun _ _ _ h => h) (Or.inl ⟨by rfl, ?_⟩) (by assumption) ?_
        rotate_left
        · intro wS hSw
          first
            | (go_simp; done)
            | (go_simp; with_reducible rfl)
        try simp only [Act.put, List.setIfInBounds_toArray, List.set_cons_zero, List.set_cons_succ]
        refine wpAnyH_take (i := 14) (oi := ({ dst := some 163, op := Op.move (Operand.tmp 162), type := 4, pos := "law.go:66", after := #[{ on := 13, ground := Ground.data }, { on := 1, ground := Ground.chain }], guard := none } : Oper)) (v := ?_) rfl (by kernel_rfl) (by kernel_rfl) (by kernel_rfl) (fun _ _ _ h => h) (Or.inl ⟨by rfl, ?_⟩) (by assumption) ?_
        rotate_left
        · intro wS hSw
          first
            | (go_simp; done)
            | (go_simp; with_reducible rfl)
        try simp only [Act.put, List.setIfInBounds_toArray, List.set_cons_zero, List.set_cons_succ]
        refine wpAnyH_take (i := 15) (oi := ({ dst := some 164, op := Op.move (Operand.tmp 23), type := 4, pos := "law.go:66", after := #[{ on := 14, ground := Ground.guard }], guard := some (14, false) } : Oper)) (v := ?_) rfl (by kernel_rfl) (by kernel_rfl) (by kernel_rfl) (fun _ _ _ h => h) (Or.inl ⟨by rfl, ?_⟩) (by assumption) ?_
        rotate_left
        · intro wS hSw
          first
            | (go_simp; done)
            | (go_simp; with_reducible rfl)
        try simp only [Act.put, List.setIfInBounds_toArray, List.set_cons_zero, List.set_cons_succ]
        refine wpAnyH_take (i := 16) (oi := ({ dst := some 165, op := Op.unOp UnOp.not 4 (Operand.tmp 164), type := 4, pos := "law.go:66", after := #[{ on := 15, ground := Ground.data }, { on := 14, ground := Ground.guard }], guard := some (14, false) } : Oper)) (v := ?_) rfl (by kernel_rfl) (by kernel_rfl) (by kernel_rfl) (fun _ _ _ h => h) (Or.inl ⟨by rfl, ?_⟩) (by assumption) ?_
        rotate_left
        · intro wS hSw
          first
            | (go_simp; done)
            | (go_simp; with_reducible rfl)
        try simp only [Act.put, List.setIfInBounds_toArray, List.set_cons_zero, List.set_cons_succ]
        refine wpAnyH_take (i := 17) (oi := ({ dst := some 166, op := Op.move (Operand.tmp 165), type := 4, pos := "law.go:66", after := #[{ on := 16, ground := Ground.data }, { on := 14, ground := Ground.chain }, { on := 14, ground := Ground.guard }], guard := some (14, false) } : Oper)) (v := ?_) rfl (by kernel_rfl) (by kernel_rfl) (by kernel_rfl) (fun _ _ _ h => h) (Or.inl ⟨by rfl, ?_⟩) (by assumption) ?_
        rotate_left
        · intro wS hSw
          first
            | (go_simp; done)
            | (go_simp; with_reducible rfl)
        try simp only [Act.put, List.setIfInBounds_toArray, List.set_cons_zero, List.set_cons_succ]
        refine wpAnyH_take (i := 18) (oi := ({ dst := some 167, op := Op.fieldAddr 26 (Operand.tmp 17) 1, type := 0, pos := "law.go:66", after := #[{ on := 17, ground := Ground.guard }], guard := some (17, true) } : Oper)) (v := ?_) rfl (by kernel_rfl) (by kernel_rfl) (by kernel_rfl) (fun _ _ _ h => h) (Or.inl ⟨by rfl, ?_⟩) (by assumption) ?_
        rotate_left
        · intro wS hSw
          first
            | (go_simp; done)
            | (go_simp; with_reducible rfl)
        try simp only [Act.put, List.setIfInBounds_toArray, List.set_cons_zero, List.set_cons_succ]
        refine wpAnyH_take (i := 19) (oi := ({ dst := some 168, op := Op.load 24 (Operand.tmp 167), type := 24, pos := "law.go:66", after := #[{ on := 18, ground := Ground.data }, { on := 17, ground := Ground.guard }], guard := some (17, true) } : Oper)) (v := ?_) rfl (by kernel_rfl) (by kernel_rfl) (by kernel_rfl) (fun _ _ _ h => h) (Or.inl ⟨by rfl, ?_⟩) (by assumption) ?_
        rotate_left
        · intro wS hSw
          obtain ⟨u1, u2, u3, u4⟩ := hSw
          first
            | (go_simp; done)
            | (go_simp; with_reducible rfl)
        try simp only [Act.put, List.setIfInBounds_toArray, List.set_cons_zero, List.set_cons_succ]
        refine wpAnyH_take (i := 20) (oi := ({ dst := some 169, op := Op.move (Operand.tmp 20), type := 3, pos := "law.go:66", after := #[{ on := 17, ground := Ground.guard }], guard := some (17, true) } : Oper)) (v := ?_) rfl (by kernel_rfl) (by kernel_rfl) (by kernel_rfl) (fun _ _ _ h => h) (Or.inl ⟨by rfl, ?_⟩) (by assumption) ?_
        rotate_left
        · intro wS hSw
          first
            | (go_simp; done)
            | (go_simp; with_reducible rfl)
        try simp only [Act.put, List.setIfInBounds_toArray, List.set_cons_zero, List.set_cons_succ]
        refine wpAnyH_take (i := 21) (oi := ({ dst := some 170, op := Op.indexAddr 24 (Operand.tmp 168) (Operand.tmp 169), type := 0, pos := "law.go:66", after := #[{ on := 19, ground := Ground.data }, { on := 20, ground := Ground.data }, { on := 17, ground := Ground.guard }], guard := some (17, true) } : Oper)) (v := ?_) rfl (by kernel_rfl) (by kernel_rfl) (by kernel_rfl) (fun _ _ _ h => h) (Or.inl ⟨by rfl, ?_⟩) (by assumption) ?_
        rotate_left
        · intro wS hSw
          first
            | (go_simp; done)
            | (go_simp; with_reducible rfl)
        try simp only [Act.put, List.setIfInBounds_toArray, List.set_cons_zero, List.set_cons_succ]
        refine wpAnyH_take (i := 22) (oi := ({ dst := some 171, op := Op.load 27 (Operand.tmp 170), type := 27, pos := "law.go:66", after := #[{ on := 21, ground := Ground.data }, { on := 17, ground := Ground.guard }], guard := some (17, true) } : Oper)) (v := ?_) rfl (by kernel_rfl) (by kernel_rfl) (by kernel_rfl) (fun _ _ _ h => h) (Or.inl ⟨by rfl, ?_⟩) (by assumption) ?_
        rotate_left
        · intro wS hSw
          obtain ⟨u1, u2, u3, u4⟩ := hSw
          first
            | (go_simp; done)
            | (go_simp; with_reducible rfl)
        try simp only [Act.put, List.setIfInBounds_toArray, List.set_cons_zero, List.set_cons_succ]
        refine wpAnyH_take (i := 23) (oi := ({ dst := some 172, op := Op.move (Operand.tmp 2), type := 27, pos := "law.go:66", after := #[{ on := 17, ground := Ground.guard }], guard := some (17, true) } : Oper)) (v := ?_) rfl (by kernel_rfl) (by kernel_rfl) (by kernel_rfl) (fun _ _ _ h => h) (Or.inl ⟨by rfl, ?_⟩) (by assumption) ?_
        rotate_left
        · intro wS hSw
          first
            | (go_simp; done)
            | (go_simp; with_reducible rfl)
        try simp only [Act.put, List.setIfInBounds_toArray, List.set_cons_zero, List.set_cons_succ]
        refine wpAnyH_take (i := 24) (oi := ({ dst := some 173, op := Op.binOp BinOp.neq 27 (Operand.tmp 171) (Operand.tmp 172) 27, type := 4, pos := "law.go:66", after := #[{ on := 22, ground := Ground.data }, { on := 23, ground := Ground.data }, { on := 17, ground := Ground.guard }], guard := some (17, true) } : Oper)) (v := ?_) rfl (by kernel_rfl) (by kernel_rfl) (by kernel_rfl) (fun _ _ _ h => h) (Or.inl ⟨by rfl, ?_⟩) (by assumption) ?_
        rotate_left
        · intro wS hSw
          first
            | (go_simp; done)
            | (go_simp; with_reducible rfl)
        try simp only [Act.put, List.setIfInBounds_toArray, List.set_cons_zero, List.set_cons_succ]
        refine wpAnyH_take (i := 25) (oi := ({ dst := some 174, op := Op.pick (Operand.tmp 166) (Operand.tmp 173) (Operand.const (Value.bool false)), type := 4, pos := "law.go:66", after := #[{ on := 17, ground := Ground.data }, { on := 24, ground := Ground.data }, { on := 14, ground := Ground.guard }], guard := some (14, false) } : Oper)) (v := ?_) rfl (by kernel_rfl) (by kernel_rfl) (by kernel_rfl) (fun _ _ _ h => h) (Or.inl ⟨by rfl, ?_⟩) (by assumption) ?_
        rotate_left
        · intro wS hSw
          first
            | (go_simp; done)
            | (go_simp; with_reducible rfl)
        try simp only [Act.put, List.setIfInBounds_toArray, List.set_cons_zero, List.set_cons_succ]
        refine wpAnyH_take (i := 26) (oi := ({ dst := some 175, op := Op.pick (Operand.tmp 163) (Operand.const (Value.bool true)) (Operand.tmp 174), type := 4, pos := "law.go:66", after := #[{ on := 14, ground := Ground.data }, { on := 25, ground := Ground.data }], guard := none } : Oper)) (v := ?_) rfl (by kernel_rfl) (by kernel_rfl) (by kernel_rfl) (fun _ _ _ h => h) (Or.inl ⟨by rfl, ?_⟩) (by assumption) ?_
        rotate_left
        · intro wS hSw
          first
            | (go_simp; done)
            | (go_simp; with_reducible rfl)
        try simp only [Act.put, List.setIfInBounds_toArray, List.set_cons_zero, List.set_cons_succ]
        refine wpAnyH_done (by kernel_rfl) ?_ _
        clear hHeld
        go_wp2_with fail
        go_roundw
        case rel => exact ⟨i + 1, by omega, by go_num, Lib.hid (Kit.below_drewN hBr.out _).drew⟩
        case measure => simp [intOf]; omega
      · rw [hG (by omega)] at hcy
        clear hS hG
        generalize zs.getD i 0 = u at hcx
        go_wp2_with fail
        refine wp_region_held_drew (S := fun w' => w'.cell? ⟨w.heap.size, 3, none⟩ = some (.slice (some ⟨b1, off1, none⟩) n c) ∧ w'.cell? ⟨g6, 3, none⟩ = some (.slice (some ⟨b2, off2, none⟩) n c6) ∧ w'.cell? ⟨b1, off1 + i, none⟩ = some (.int .i8 u) ∧ w'.cell? ⟨b2, off2 + i, none⟩ = some (.int .i8 z)) (by kernel_rfl) ⟨tb3, tv3, hcx, hcy⟩ (fun hHeld => ?_)
        refine wpAnyH_take (i := 0) (oi := ({ dst := some 149, op := Op.move (Operand.tmp 23), type := 4, pos := "law.go:66", after := #[], guard := none } : Oper)) (v := ?_) rfl (by kernel_rfl) (by kernel_rfl) (by kernel_rfl) (fun _ _ _ h => h) (Or.inl ⟨by rfl, ?_⟩) (by assumption) ?_
        rotate_left
        · intro wS hSw
          first
            | (go_simp; done)
            | (go_simp; with_reducible rfl)
        try simp only [Act.put, List.setIfInBounds_toArray, List.set_cons_zero, List.set_cons_succ]
        refine wpAnyH_take (i := 1) (oi := ({ dst := some 150, op := Op.move (Operand.tmp 149), type := 4, pos := "law.go:66", after := #[{ on := 0, ground := Ground.data }], guard := none } : Oper)) (v := ?_) rfl (by kernel_rfl) (by kernel_rfl) (by kernel_rfl) (fun _ _ _ h => h) (Or.inl ⟨by rfl, ?_⟩) (by assumption) ?_
        rotate_left
        · intro wS hSw
          first
            | (go_simp; done)
            | (go_simp; with_reducible rfl)
        try simp only [Act.put, List.setIfInBounds_toArray, List.set_cons_zero, List.set_cons_succ]
        refine wpAnyH_take (i := 2) (oi := ({ dst := some 151, op := Op.fieldAddr 26 (Operand.tmp 17) 1, type := 0, pos := "law.go:66", after := #[{ on := 1, ground := Ground.guard }], guard := some (1, true) } : Oper)) (v := undef) rfl (by kernel_rfl) (by kernel_rfl) (by kernel_rfl) (fun _ _ _ h => h) (Or.inr ⟨by rfl, rfl⟩) (by assumption) ?_
        try simp only [Act.put, List.setIfInBounds_toArray, List.set_cons_zero, List.set_cons_succ]
        refine wpAnyH_take (i := 3) (oi := ({ dst := some 152, op := Op.load 24 (Operand.tmp 151), type := 24, pos := "law.go:66", after := #[{ on := 2, ground := Ground.data }, { on := 1, ground := Ground.guard }], guard := some (1, true) } : Oper)) (v := undef) rfl (by kernel_rfl) (by kernel_rfl) (by kernel_rfl) (fun _ _ _ h => h) (Or.inr ⟨by rfl, rfl⟩) (by assumption) ?_
        try simp only [Act.put, List.setIfInBounds_toArray, List.set_cons_zero, List.set_cons_succ]
        refine wpAnyH_take (i := 4) (oi := ({ dst := some 153, op := Op.move (Operand.tmp 20), type := 3, pos := "law.go:66", after := #[{ on := 1, ground := Ground.guard }], guard := some (1, true) } : Oper)) (v := undef) rfl (by kernel_rfl) (by kernel_rfl) (by kernel_rfl) (fun _ _ _ h => h) (Or.inr ⟨by rfl, rfl⟩) (by assumption) ?_
        try simp only [Act.put, List.setIfInBounds_toArray, List.set_cons_zero, List.set_cons_succ]
        refine wpAnyH_take (i := 5) (oi := ({ dst := some 154, op := Op.indexAddr 24 (Operand.tmp 152) (Operand.tmp 153), type := 0, pos := "law.go:66", after := #[{ on := 3, ground := Ground.data }, { on := 4, ground := Ground.data }, { on := 1, ground := Ground.guard }], guard := some (1, true) } : Oper)) (v := undef) rfl (by kernel_rfl) (by kernel_rfl) (by kernel_rfl) (fun _ _ _ h => h) (Or.inr ⟨by rfl, rfl⟩) (by assumption) ?_
        try simp only [Act.put, List.setIfInBounds_toArray, List.set_cons_zero, List.set_cons_succ]
        refine wpAnyH_take (i := 6) (oi := ({ dst := some 155, op := Op.load 27 (Operand.tmp 154), type := 27, pos := "law.go:66", after := #[{ on := 5, ground := Ground.data }, { on := 1, ground := Ground.guard }], guard := some (1, true) } : Oper)) (v := undef) rfl (by kernel_rfl) (by kernel_rfl) (by kernel_rfl) (fun _ _ _ h => h) (Or.inr ⟨by rfl, rfl⟩) (by assumption) ?_
        try simp only [Act.put, List.setIfInBounds_toArray, List.set_cons_zero, List.set_cons_succ]
        refine wpAnyH_take (i := 7) (oi := ({ dst := some 156, op := Op.fieldAddr 26 (Operand.tmp 4) 1, type := 0, pos := "law.go:66", after := #[{ on := 1, ground := Ground.guard }], guard := some (1, true) } : Oper)) (v := undef) rfl (by kernel_rfl) (by kernel_rfl) (by kernel_rfl) (fun _ _ _ h => h) (Or.inr ⟨by rfl, rfl⟩) (by assumption) ?_
        try simp only [Act.put, List.setIfInBounds_toArray, List.set_cons_zero, List.set_cons_succ]
        refine wpAnyH_take (i := 8) (oi := ({ dst := some 157, op := Op.load 24 (Operand.tmp 156), type := 24, pos := "law.go:66", after := #[{ on := 7, ground := Ground.data }, { on := 1, ground := Ground.guard }], guard := some (1, true) } : Oper)) (v := undef) rfl (by kernel_rfl) (by kernel_rfl) (by kernel_rfl) (fun _ _ _ h => h) (Or.inr ⟨by rfl, rfl⟩) (by assumption) ?_
        try simp only [Act.put, List.setIfInBounds_toArray, List.set_cons_zero, List.set_cons_succ]
        refine wpAnyH_take (i := 9) (oi := ({ dst := some 158, op := Op.move (Operand.tmp 20), type := 3, pos := "law.go:66", after := #[{ on := 1, ground := Ground.guard }], guard := some (1, true) } : Oper)) (v := undef) rfl (by kernel_rfl) (by kernel_rfl) (by kernel_rfl) (fun _ _ _ h => h) (Or.inr ⟨by rfl, rfl⟩) (by assumption) ?_
        try simp only [Act.put, List.setIfInBounds_toArray, List.set_cons_zero, List.set_cons_succ]
        refine wpAnyH_take (i := 10) (oi := ({ dst := some 159, op := Op.indexAddr 24 (Operand.tmp 157) (Operand.tmp 158), type := 0, pos := "law.go:66", after := #[{ on := 8, ground := Ground.data }, { on := 9, ground := Ground.data }, { on := 1, ground := Ground.guard }], guard := some (1, true) } : Oper)) (v := undef) rfl (by kernel_rfl) (by kernel_rfl) (by kernel_rfl) (fun _ _ _ h => h) (Or.inr ⟨by rfl, rfl⟩) (by assumption) ?_
        try simp only [Act.put, List.setIfInBounds_toArray, List.set_cons_zero, List.set_cons_succ]
        refine wpAnyH_take (i := 11) (oi := ({ dst := some 160, op := Op.load 27 (Operand.tmp 159), type := 27, pos := "law.go:66", after := #[{ on := 10, ground := Ground.data }, { on := 1, ground := Ground.guard }], guard := some (1, true) } : Oper)) (v := undef) rfl (by kernel_rfl) (by kernel_rfl) (by kernel_rfl) (fun _ _ _ h => h) (Or.inr ⟨by rfl, rfl⟩) (by assumption) ?_
        try simp only [Act.put, List.setIfInBounds_toArray, List.set_cons_zero, List.set_cons_succ]
        refine wpAnyH_take (i := 12) (oi := ({ dst := some 161, op := Op.binOp BinOp.neq 27 (Operand.tmp 155) (Operand.tmp 160) 27, type := 4, pos := "law.go:66", after := #[{ on := 6, ground := Ground.data }, { on := 11, ground := Ground.data }, { on := 1, ground := Ground.guard }], guard := some (1, true) } : Oper)) (v := undef) rfl (by kernel_rfl) (by kernel_rfl) (by kernel_rfl) (fun _ _ _ h => h) (Or.inr ⟨by rfl, rfl⟩) (by assumption) ?_
        try simp only [Act.put, List.setIfInBounds_toArray, List.set_cons_zero, List.set_cons_succ]
        refine wpAnyH_take (i := 13) (oi := ({ dst := some 162, op := Op.pick (Operand.tmp 150) (Operand.tmp 161) (Operand.const (Value.bool false)), type := 4, pos := "law.go:66", after := #[{ on := 1, ground := Ground.data }, { on := 12, ground := Ground.data }], guard := none } : Oper)) (v := ?_) rfl (by kernel_rfl) (by kernel_rfl) (by kernel_rfl) (fun _ _ _ h => h) (Or.inl ⟨by rfl, ?_⟩) (by assumption) ?_
        rotate_left
        · intro wS hSw
          first
            | (go_simp; done)
            | (go_simp; with_reducible rfl)
        try simp only [Act.put, List.setIfInBounds_toArray, List.set_cons_zero, List.set_cons_succ]
        refine wpAnyH_take (i := 14) (oi := ({ dst := some 163, op := Op.move (Operand.tmp 162), type := 4, pos := "law.go:66", after := #[{ on := 13, ground := Ground.data }, { on := 1, ground := Ground.chain }], guard := none } : Oper)) (v := ?_) rfl (by kernel_rfl) (by kernel_rfl) (by kernel_rfl) (fun _ _ _ h => h) (Or.inl ⟨by rfl, ?_⟩) (by assumption) ?_
        rotate_left
        · intro wS hSw
          first
            | (go_simp; done)
            | (go_simp; with_reducible rfl)
        try simp only [Act.put, List.setIfInBounds_toArray, List.set_cons_zero, List.set_cons_succ]
        refine wpAnyH_take (i := 15) (oi := ({ dst := some 164, op := Op.move (Operand.tmp 23), type := 4, pos := "law.go:66", after := #[{ on := 14, ground := Ground.guard }], guard := some (14, false) } : Oper)) (v := ?_) rfl (by kernel_rfl) (by kernel_rfl) (by kernel_rfl) (fun _ _ _ h => h) (Or.inl ⟨by rfl, ?_⟩) (by assumption) ?_
        rotate_left
        · intro wS hSw
          first
            | (go_simp; done)
            | (go_simp; with_reducible rfl)
        try simp only [Act.put, List.setIfInBounds_toArray, List.set_cons_zero, List.set_cons_succ]
        refine wpAnyH_take (i := 16) (oi := ({ dst := some 165, op := Op.unOp UnOp.not 4 (Operand.tmp 164), type := 4, pos := "law.go:66", after := #[{ on := 15, ground := Ground.data }, { on := 14, ground := Ground.guard }], guard := some (14, false) } : Oper)) (v := ?_) rfl (by kernel_rfl) (by kernel_rfl) (by kernel_rfl) (fun _ _ _ h => h) (Or.inl ⟨by rfl, ?_⟩) (by assumption) ?_
        rotate_left
        · intro wS hSw
          first
            | (go_simp; done)
            | (go_simp; with_reducible rfl)
        try simp only [Act.put, List.setIfInBounds_toArray, List.set_cons_zero, List.set_cons_succ]
        refine wpAnyH_take (i := 17) (oi := ({ dst := some 166, op := Op.move (Operand.tmp 165), type := 4, pos := "law.go:66", after := #[{ on := 16, ground := Ground.data }, { on := 14, ground := Ground.chain }, { on := 14, ground := Ground.guard }], guard := some (14, false) } : Oper)) (v := ?_) rfl (by kernel_rfl) (by kernel_rfl) (by kernel_rfl) (fun _ _ _ h => h) (Or.inl ⟨by rfl, ?_⟩) (by assumption) ?_
        rotate_left
        · intro wS hSw
          first
            | (go_simp; done)
            | (go_simp; with_reducible rfl)
        try simp only [Act.put, List.setIfInBounds_toArray, List.set_cons_zero, List.set_cons_succ]
        refine wpAnyH_take (i := 18) (oi := ({ dst := some 167, op := Op.fieldAddr 26 (Operand.tmp 17) 1, type := 0, pos := "law.go:66", after := #[{ on := 17, ground := Ground.guard }], guard := some (17, true) } : Oper)) (v := ?_) rfl (by kernel_rfl) (by kernel_rfl) (by kernel_rfl) (fun _ _ _ h => h) (Or.inl ⟨by rfl, ?_⟩) (by assumption) ?_
        rotate_left
        · intro wS hSw
          first
            | (go_simp; done)
            | (go_simp; with_reducible rfl)
        try simp only [Act.put, List.setIfInBounds_toArray, List.set_cons_zero, List.set_cons_succ]
        refine wpAnyH_take (i := 19) (oi := ({ dst := some 168, op := Op.load 24 (Operand.tmp 167), type := 24, pos := "law.go:66", after := #[{ on := 18, ground := Ground.data }, { on := 17, ground := Ground.guard }], guard := some (17, true) } : Oper)) (v := ?_) rfl (by kernel_rfl) (by kernel_rfl) (by kernel_rfl) (fun _ _ _ h => h) (Or.inl ⟨by rfl, ?_⟩) (by assumption) ?_
        rotate_left
        · intro wS hSw
          obtain ⟨u1, u2, u3, u4⟩ := hSw
          first
            | (go_simp; done)
            | (go_simp; with_reducible rfl)
        try simp only [Act.put, List.setIfInBounds_toArray, List.set_cons_zero, List.set_cons_succ]
        refine wpAnyH_take (i := 20) (oi := ({ dst := some 169, op := Op.move (Operand.tmp 20), type := 3, pos := "law.go:66", after := #[{ on := 17, ground := Ground.guard }], guard := some (17, true) } : Oper)) (v := ?_) rfl (by kernel_rfl) (by kernel_rfl) (by kernel_rfl) (fun _ _ _ h => h) (Or.inl ⟨by rfl, ?_⟩) (by assumption) ?_
        rotate_left
        · intro wS hSw
          first
            | (go_simp; done)
            | (go_simp; with_reducible rfl)
        try simp only [Act.put, List.setIfInBounds_toArray, List.set_cons_zero, List.set_cons_succ]
        refine wpAnyH_take (i := 21) (oi := ({ dst := some 170, op := Op.indexAddr 24 (Operand.tmp 168) (Operand.tmp 169), type := 0, pos := "law.go:66", after := #[{ on := 19, ground := Ground.data }, { on := 20, ground := Ground.data }, { on := 17, ground := Ground.guard }], guard := some (17, true) } : Oper)) (v := ?_) rfl (by kernel_rfl) (by kernel_rfl) (by kernel_rfl) (fun _ _ _ h => h) (Or.inl ⟨by rfl, ?_⟩) (by assumption) ?_
        rotate_left
        · intro wS hSw
          first
            | (go_simp; done)
            | (go_simp; with_reducible rfl)
        try simp only [Act.put, List.setIfInBounds_toArray, List.set_cons_zero, List.set_cons_succ]
        refine wpAnyH_take (i := 22) (oi := ({ dst := some 171, op := Op.load 27 (Operand.tmp 170), type := 27, pos := "law.go:66", after := #[{ on := 21, ground := Ground.data }, { on := 17, ground := Ground.guard }], guard := some (17, true) } : Oper)) (v := ?_) rfl (by kernel_rfl) (by kernel_rfl) (by kernel_rfl) (fun _ _ _ h => h) (Or.inl ⟨by rfl, ?_⟩) (by assumption) ?_
        rotate_left
        · intro wS hSw
          obtain ⟨u1, u2, u3, u4⟩ := hSw
          first
            | (go_simp; done)
            | (go_simp; with_reducible rfl)
        try simp only [Act.put, List.setIfInBounds_toArray, List.set_cons_zero, List.set_cons_succ]
        refine wpAnyH_take (i := 23) (oi := ({ dst := some 172, op := Op.move (Operand.tmp 2), type := 27, pos := "law.go:66", after := #[{ on := 17, ground := Ground.guard }], guard := some (17, true) } : Oper)) (v := ?_) rfl (by kernel_rfl) (by kernel_rfl) (by kernel_rfl) (fun _ _ _ h => h) (Or.inl ⟨by rfl, ?_⟩) (by assumption) ?_
        rotate_left
        · intro wS hSw
          first
            | (go_simp; done)
            | (go_simp; with_reducible rfl)
        try simp only [Act.put, List.setIfInBounds_toArray, List.set_cons_zero, List.set_cons_succ]
        refine wpAnyH_take (i := 24) (oi := ({ dst := some 173, op := Op.binOp BinOp.neq 27 (Operand.tmp 171) (Operand.tmp 172) 27, type := 4, pos := "law.go:66", after := #[{ on := 22, ground := Ground.data }, { on := 23, ground := Ground.data }, { on := 17, ground := Ground.guard }], guard := some (17, true) } : Oper)) (v := ?_) rfl (by kernel_rfl) (by kernel_rfl) (by kernel_rfl) (fun _ _ _ h => h) (Or.inl ⟨by rfl, ?_⟩) (by assumption) ?_
        rotate_left
        · intro wS hSw
          first
            | (go_simp; done)
            | (go_simp; with_reducible rfl)
        try simp only [Act.put, List.setIfInBounds_toArray, List.set_cons_zero, List.set_cons_succ]
        refine wpAnyH_take (i := 25) (oi := ({ dst := some 174, op := Op.pick (Operand.tmp 166) (Operand.tmp 173) (Operand.const (Value.bool false)), type := 4, pos := "law.go:66", after := #[{ on := 17, ground := Ground.data }, { on := 24, ground := Ground.data }, { on := 14, ground := Ground.guard }], guard := some (14, false) } : Oper)) (v := ?_) rfl (by kernel_rfl) (by kernel_rfl) (by kernel_rfl) (fun _ _ _ h => h) (Or.inl ⟨by rfl, ?_⟩) (by assumption) ?_
        rotate_left
        · intro wS hSw
          first
            | (go_simp; done)
            | (go_simp; with_reducible rfl)
        try simp only [Act.put, List.setIfInBounds_toArray, List.set_cons_zero, List.set_cons_succ]
        refine wpAnyH_take (i := 26) (oi := ({ dst := some 175, op := Op.pick (Operand.tmp 163) (Operand.const (Value.bool true)) (Operand.tmp 174), type := 4, pos := "law.go:66", after := #[{ on := 14, ground := Ground.data }, { on := 25, ground := Ground.data }], guard := none } : Oper)) (v := ?_) rfl (by kernel_rfl) (by kernel_rfl) (by kernel_rfl) (fun _ _ _ h => h) (Or.inl ⟨by rfl, ?_⟩) (by assumption) ?_
        rotate_left
        · intro wS hSw
          first
            | (go_simp; done)
            | (go_simp; with_reducible rfl)
        try simp only [Act.put, List.setIfInBounds_toArray, List.set_cons_zero, List.set_cons_succ]
        refine wpAnyH_done (by kernel_rfl) ?_ _
        clear hHeld
        go_wp2_with fail
        go_roundw
        case rel => exact ⟨i + 1, by omega, by go_num, Lib.hid (Kit.below_drewN hBr.out _).drew⟩
        case measure => simp [intOf]; omega
      · have D4 := Lib.hid (show decide ((s : Int) + y < W) = false by simpa using h4)
        rw [hG (by omega)] at hcy
        clear hS hG
        generalize zs.getD i 0 = u at hcx
        go_wp2_with fail
        try rw [D4.out]
        refine wp_region_held_drew (S := fun w' => w'.cell? ⟨w.heap.size, 3, none⟩ = some (.slice (some ⟨b1, off1, none⟩) n c) ∧ w'.cell? ⟨g6, 3, none⟩ = some (.slice (some ⟨b2, off2, none⟩) n c6) ∧ w'.cell? ⟨b1, off1 + i, none⟩ = some (.int .i8 u) ∧ w'.cell? ⟨b2, off2 + i, none⟩ = some (.int .i8 z)) (by kernel_rfl) ⟨tb3, tv3, hcx, hcy⟩ (fun hHeld => ?_)
        refine wpAnyH_take (i := 0) (oi := ({ dst := some 149, op := Op.move (Operand.tmp 23), type := 4, pos := "law.go:66", after := #[], guard := none } : Oper)) (v := ?_) rfl (by kernel_rfl) (by kernel_rfl) (by kernel_rfl) (fun _ _ _ h => h) (Or.inl ⟨by rfl, ?_⟩) (by assumption) ?_
        rotate_left
        · intro wS hSw
          first
            | (go_simp; done)
            | (go_simp; with_reducible rfl)
        try simp only [Act.put, List.setIfInBounds_toArray, List.set_cons_zero, List.set_cons_succ]
        refine wpAnyH_take (i := 1) (oi := ({ dst := some 150, op := Op.move (Operand.tmp 149), type := 4, pos := "law.go:66", after := #[{ on := 0, ground := Ground.data }], guard := none } : Oper)) (v := ?_) rfl (by kernel_rfl) (by kernel_rfl) (by kernel_rfl) (fun _ _ _ h => h) (Or.inl ⟨by rfl, ?_⟩) (by assumption) ?_
        rotate_left
        · intro wS hSw
          first
            | (go_simp; done)
            | (go_simp; with_reducible rfl)
        try simp only [Act.put, List.setIfInBounds_toArray, List.set_cons_zero, List.set_cons_succ]
        refine wpAnyH_take (i := 2) (oi := ({ dst := some 151, op := Op.fieldAddr 26 (Operand.tmp 17) 1, type := 0, pos := "law.go:66", after := #[{ on := 1, ground := Ground.guard }], guard := some (1, true) } : Oper)) (v := undef) rfl (by kernel_rfl) (by kernel_rfl) (by kernel_rfl) (fun _ _ _ h => h) (Or.inr ⟨by rfl, rfl⟩) (by assumption) ?_
        try simp only [Act.put, List.setIfInBounds_toArray, List.set_cons_zero, List.set_cons_succ]
        refine wpAnyH_take (i := 3) (oi := ({ dst := some 152, op := Op.load 24 (Operand.tmp 151), type := 24, pos := "law.go:66", after := #[{ on := 2, ground := Ground.data }, { on := 1, ground := Ground.guard }], guard := some (1, true) } : Oper)) (v := undef) rfl (by kernel_rfl) (by kernel_rfl) (by kernel_rfl) (fun _ _ _ h => h) (Or.inr ⟨by rfl, rfl⟩) (by assumption) ?_
        try simp only [Act.put, List.setIfInBounds_toArray, List.set_cons_zero, List.set_cons_succ]
        refine wpAnyH_take (i := 4) (oi := ({ dst := some 153, op := Op.move (Operand.tmp 20), type := 3, pos := "law.go:66", after := #[{ on := 1, ground := Ground.guard }], guard := some (1, true) } : Oper)) (v := undef) rfl (by kernel_rfl) (by kernel_rfl) (by kernel_rfl) (fun _ _ _ h => h) (Or.inr ⟨by rfl, rfl⟩) (by assumption) ?_
        try simp only [Act.put, List.setIfInBounds_toArray, List.set_cons_zero, List.set_cons_succ]
        refine wpAnyH_take (i := 5) (oi := ({ dst := some 154, op := Op.indexAddr 24 (Operand.tmp 152) (Operand.tmp 153), type := 0, pos := "law.go:66", after := #[{ on := 3, ground := Ground.data }, { on := 4, ground := Ground.data }, { on := 1, ground := Ground.guard }], guard := some (1, true) } : Oper)) (v := undef) rfl (by kernel_rfl) (by kernel_rfl) (by kernel_rfl) (fun _ _ _ h => h) (Or.inr ⟨by rfl, rfl⟩) (by assumption) ?_
        try simp only [Act.put, List.setIfInBounds_toArray, List.set_cons_zero, List.set_cons_succ]
        refine wpAnyH_take (i := 6) (oi := ({ dst := some 155, op := Op.load 27 (Operand.tmp 154), type := 27, pos := "law.go:66", after := #[{ on := 5, ground := Ground.data }, { on := 1, ground := Ground.guard }], guard := some (1, true) } : Oper)) (v := undef) rfl (by kernel_rfl) (by kernel_rfl) (by kernel_rfl) (fun _ _ _ h => h) (Or.inr ⟨by rfl, rfl⟩) (by assumption) ?_
        try simp only [Act.put, List.setIfInBounds_toArray, List.set_cons_zero, List.set_cons_succ]
        refine wpAnyH_take (i := 7) (oi := ({ dst := some 156, op := Op.fieldAddr 26 (Operand.tmp 4) 1, type := 0, pos := "law.go:66", after := #[{ on := 1, ground := Ground.guard }], guard := some (1, true) } : Oper)) (v := undef) rfl (by kernel_rfl) (by kernel_rfl) (by kernel_rfl) (fun _ _ _ h => h) (Or.inr ⟨by rfl, rfl⟩) (by assumption) ?_
        try simp only [Act.put, List.setIfInBounds_toArray, List.set_cons_zero, List.set_cons_succ]
        refine wpAnyH_take (i := 8) (oi := ({ dst := some 157, op := Op.load 24 (Operand.tmp 156), type := 24, pos := "law.go:66", after := #[{ on := 7, ground := Ground.data }, { on := 1, ground := Ground.guard }], guard := some (1, true) } : Oper)) (v := undef) rfl (by kernel_rfl) (by kernel_rfl) (by kernel_rfl) (fun _ _ _ h => h) (Or.inr ⟨by rfl, rfl⟩) (by assumption) ?_
        try simp only [Act.put, List.setIfInBounds_toArray, List.set_cons_zero, List.set_cons_succ]
        refine wpAnyH_take (i := 9) (oi := ({ dst := some 158, op := Op.move (Operand.tmp 20), type := 3, pos := "law.go:66", after := #[{ on := 1, ground := Ground.guard }], guard := some (1, true) } : Oper)) (v := undef) rfl (by kernel_rfl) (by kernel_rfl) (by kernel_rfl) (fun _ _ _ h => h) (Or.inr ⟨by rfl, rfl⟩) (by assumption) ?_
        try simp only [Act.put, List.setIfInBounds_toArray, List.set_cons_zero, List.set_cons_succ]
        refine wpAnyH_take (i := 10) (oi := ({ dst := some 159, op := Op.indexAddr 24 (Operand.tmp 157) (Operand.tmp 158), type := 0, pos := "law.go:66", after := #[{ on := 8, ground := Ground.data }, { on := 9, ground := Ground.data }, { on := 1, ground := Ground.guard }], guard := some (1, true) } : Oper)) (v := undef) rfl (by kernel_rfl) (by kernel_rfl) (by kernel_rfl) (fun _ _ _ h => h) (Or.inr ⟨by rfl, rfl⟩) (by assumption) ?_
        try simp only [Act.put, List.setIfInBounds_toArray, List.set_cons_zero, List.set_cons_succ]
        refine wpAnyH_take (i := 11) (oi := ({ dst := some 160, op := Op.load 27 (Operand.tmp 159), type := 27, pos := "law.go:66", after := #[{ on := 10, ground := Ground.data }, { on := 1, ground := Ground.guard }], guard := some (1, true) } : Oper)) (v := undef) rfl (by kernel_rfl) (by kernel_rfl) (by kernel_rfl) (fun _ _ _ h => h) (Or.inr ⟨by rfl, rfl⟩) (by assumption) ?_
        try simp only [Act.put, List.setIfInBounds_toArray, List.set_cons_zero, List.set_cons_succ]
        refine wpAnyH_take (i := 12) (oi := ({ dst := some 161, op := Op.binOp BinOp.neq 27 (Operand.tmp 155) (Operand.tmp 160) 27, type := 4, pos := "law.go:66", after := #[{ on := 6, ground := Ground.data }, { on := 11, ground := Ground.data }, { on := 1, ground := Ground.guard }], guard := some (1, true) } : Oper)) (v := undef) rfl (by kernel_rfl) (by kernel_rfl) (by kernel_rfl) (fun _ _ _ h => h) (Or.inr ⟨by rfl, rfl⟩) (by assumption) ?_
        try simp only [Act.put, List.setIfInBounds_toArray, List.set_cons_zero, List.set_cons_succ]
        refine wpAnyH_take (i := 13) (oi := ({ dst := some 162, op := Op.pick (Operand.tmp 150) (Operand.tmp 161) (Operand.const (Value.bool false)), type := 4, pos := "law.go:66", after := #[{ on := 1, ground := Ground.data }, { on := 12, ground := Ground.data }], guard := none } : Oper)) (v := ?_) rfl (by kernel_rfl) (by kernel_rfl) (by kernel_rfl) (fun _ _ _ h => h) (Or.inl ⟨by rfl, ?_⟩) (by assumption) ?_
        rotate_left
        · intro wS hSw
          first
            | (go_simp; done)
            | (go_simp; with_reducible rfl)
        try simp only [Act.put, List.setIfInBounds_toArray, List.set_cons_zero, List.set_cons_succ]
        refine wpAnyH_take (i := 14) (oi := ({ dst := some 163, op := Op.move (Operand.tmp 162), type := 4, pos := "law.go:66", after := #[{ on := 13, ground := Ground.data }, { on := 1, ground := Ground.chain }], guard := none } : Oper)) (v := ?_) rfl (by kernel_rfl) (by kernel_rfl) (by kernel_rfl) (fun _ _ _ h => h) (Or.inl ⟨by rfl, ?_⟩) (by assumption) ?_
        rotate_left
        · intro wS hSw
          first
            | (go_simp; done)
            | (go_simp; with_reducible rfl)
        try simp only [Act.put, List.setIfInBounds_toArray, List.set_cons_zero, List.set_cons_succ]
        refine wpAnyH_take (i := 15) (oi := ({ dst := some 164, op := Op.move (Operand.tmp 23), type := 4, pos := "law.go:66", after := #[{ on := 14, ground := Ground.guard }], guard := some (14, false) } : Oper)) (v := ?_) rfl (by kernel_rfl) (by kernel_rfl) (by kernel_rfl) (fun _ _ _ h => h) (Or.inl ⟨by rfl, ?_⟩) (by assumption) ?_
        rotate_left
        · intro wS hSw
          first
            | (go_simp; done)
            | (go_simp; with_reducible rfl)
        try simp only [Act.put, List.setIfInBounds_toArray, List.set_cons_zero, List.set_cons_succ]
        refine wpAnyH_take (i := 16) (oi := ({ dst := some 165, op := Op.unOp UnOp.not 4 (Operand.tmp 164), type := 4, pos := "law.go:66", after := #[{ on := 15, ground := Ground.data }, { on := 14, ground := Ground.guard }], guard := some (14, false) } : Oper)) (v := ?_) rfl (by kernel_rfl) (by kernel_rfl) (by kernel_rfl) (fun _ _ _ h => h) (Or.inl ⟨by rfl, ?_⟩) (by assumption) ?_
        rotate_left
        · intro wS hSw
          first
            | (go_simp; done)
            | (go_simp; with_reducible rfl)
        try simp only [Act.put, List.setIfInBounds_toArray, List.set_cons_zero, List.set_cons_succ]
        refine wpAnyH_take (i := 17) (oi := ({ dst := some 166, op := Op.move (Operand.tmp 165), type := 4, pos := "law.go:66", after := #[{ on := 16, ground := Ground.data }, { on := 14, ground := Ground.chain }, { on := 14, ground := Ground.guard }], guard := some (14, false) } : Oper)) (v := ?_) rfl (by kernel_rfl) (by kernel_rfl) (by kernel_rfl) (fun _ _ _ h => h) (Or.inl ⟨by rfl, ?_⟩) (by assumption) ?_
        rotate_left
        · intro wS hSw
          first
            | (go_simp; done)
            | (go_simp; with_reducible rfl)
        try simp only [Act.put, List.setIfInBounds_toArray, List.set_cons_zero, List.set_cons_succ]
        refine wpAnyH_take (i := 18) (oi := ({ dst := some 167, op := Op.fieldAddr 26 (Operand.tmp 17) 1, type := 0, pos := "law.go:66", after := #[{ on := 17, ground := Ground.guard }], guard := some (17, true) } : Oper)) (v := ?_) rfl (by kernel_rfl) (by kernel_rfl) (by kernel_rfl) (fun _ _ _ h => h) (Or.inl ⟨by rfl, ?_⟩) (by assumption) ?_
        rotate_left
        · intro wS hSw
          first
            | (go_simp; done)
            | (go_simp; with_reducible rfl)
        try simp only [Act.put, List.setIfInBounds_toArray, List.set_cons_zero, List.set_cons_succ]
        refine wpAnyH_take (i := 19) (oi := ({ dst := some 168, op := Op.load 24 (Operand.tmp 167), type := 24, pos := "law.go:66", after := #[{ on := 18, ground := Ground.data }, { on := 17, ground := Ground.guard }], guard := some (17, true) } : Oper)) (v := ?_) rfl (by kernel_rfl) (by kernel_rfl) (by kernel_rfl) (fun _ _ _ h => h) (Or.inl ⟨by rfl, ?_⟩) (by assumption) ?_
        rotate_left
        · intro wS hSw
          obtain ⟨u1, u2, u3, u4⟩ := hSw
          first
            | (go_simp; done)
            | (go_simp; with_reducible rfl)
        try simp only [Act.put, List.setIfInBounds_toArray, List.set_cons_zero, List.set_cons_succ]
        refine wpAnyH_take (i := 20) (oi := ({ dst := some 169, op := Op.move (Operand.tmp 20), type := 3, pos := "law.go:66", after := #[{ on := 17, ground := Ground.guard }], guard := some (17, true) } : Oper)) (v := ?_) rfl (by kernel_rfl) (by kernel_rfl) (by kernel_rfl) (fun _ _ _ h => h) (Or.inl ⟨by rfl, ?_⟩) (by assumption) ?_
        rotate_left
        · intro wS hSw
          first
            | (go_simp; done)
            | (go_simp; with_reducible rfl)
        try simp only [Act.put, List.setIfInBounds_toArray, List.set_cons_zero, List.set_cons_succ]
        refine wpAnyH_take (i := 21) (oi := ({ dst := some 170, op := Op.indexAddr 24 (Operand.tmp 168) (Operand.tmp 169), type := 0, pos := "law.go:66", after := #[{ on := 19, ground := Ground.data }, { on := 20, ground := Ground.data }, { on := 17, ground := Ground.guard }], guard := some (17, true) } : Oper)) (v := ?_) rfl (by kernel_rfl) (by kernel_rfl) (by kernel_rfl) (fun _ _ _ h => h) (Or.inl ⟨by rfl, ?_⟩) (by assumption) ?_
        rotate_left
        · intro wS hSw
          first
            | (go_simp; done)
            | (go_simp; with_reducible rfl)
        try simp only [Act.put, List.setIfInBounds_toArray, List.set_cons_zero, List.set_cons_succ]
        refine wpAnyH_take (i := 22) (oi := ({ dst := some 171, op := Op.load 27 (Operand.tmp 170), type := 27, pos := "law.go:66", after := #[{ on := 21, ground := Ground.data }, { on := 17, ground := Ground.guard }], guard := some (17, true) } : Oper)) (v := ?_) rfl (by kernel_rfl) (by kernel_rfl) (by kernel_rfl) (fun _ _ _ h => h) (Or.inl ⟨by rfl, ?_⟩) (by assumption) ?_
        rotate_left
        · intro wS hSw
          obtain ⟨u1, u2, u3, u4⟩ := hSw
          first
            | (go_simp; done)
            | (go_simp; with_reducible rfl)
        try simp only [Act.put, List.setIfInBounds_toArray, List.set_cons_zero, List.set_cons_succ]
        refine wpAnyH_take (i := 23) (oi := ({ dst := some 172, op := Op.move (Operand.tmp 2), type := 27, pos := "law.go:66", after := #[{ on := 17, ground := Ground.guard }], guard := some (17, true) } : Oper)) (v := ?_) rfl (by kernel_rfl) (by kernel_rfl) (by kernel_rfl) (fun _ _ _ h => h) (Or.inl ⟨by rfl, ?_⟩) (by assumption) ?_
        rotate_left
        · intro wS hSw
          first
            | (go_simp; done)
            | (go_simp; with_reducible rfl)
        try simp only [Act.put, List.setIfInBounds_toArray, List.set_cons_zero, List.set_cons_succ]
        refine wpAnyH_take (i := 24) (oi := ({ dst := some 173, op := Op.binOp BinOp.neq 27 (Operand.tmp 171) (Operand.tmp 172) 27, type := 4, pos := "law.go:66", after := #[{ on := 22, ground := Ground.data }, { on := 23, ground := Ground.data }, { on := 17, ground := Ground.guard }], guard := some (17, true) } : Oper)) (v := ?_) rfl (by kernel_rfl) (by kernel_rfl) (by kernel_rfl) (fun _ _ _ h => h) (Or.inl ⟨by rfl, ?_⟩) (by assumption) ?_
        rotate_left
        · intro wS hSw
          first
            | (go_simp; done)
            | (go_simp; with_reducible rfl)
        try simp only [Act.put, List.setIfInBounds_toArray, List.set_cons_zero, List.set_cons_succ]
        refine wpAnyH_take (i := 25) (oi := ({ dst := some 174, op := Op.pick (Operand.tmp 166) (Operand.tmp 173) (Operand.const (Value.bool false)), type := 4, pos := "law.go:66", after := #[{ on := 17, ground := Ground.data }, { on := 24, ground := Ground.data }, { on := 14, ground := Ground.guard }], guard := some (14, false) } : Oper)) (v := ?_) rfl (by kernel_rfl) (by kernel_rfl) (by kernel_rfl) (fun _ _ _ h => h) (Or.inl ⟨by rfl, ?_⟩) (by assumption) ?_
        rotate_left
        · intro wS hSw
          first
            | (go_simp; done)
            | (go_simp; with_reducible rfl)
        try simp only [Act.put, List.setIfInBounds_toArray, List.set_cons_zero, List.set_cons_succ]
        refine wpAnyH_take (i := 26) (oi := ({ dst := some 175, op := Op.pick (Operand.tmp 163) (Operand.const (Value.bool true)) (Operand.tmp 174), type := 4, pos := "law.go:66", after := #[{ on := 14, ground := Ground.data }, { on := 25, ground := Ground.data }], guard := none } : Oper)) (v := ?_) rfl (by kernel_rfl) (by kernel_rfl) (by kernel_rfl) (fun _ _ _ h => h) (Or.inl ⟨by rfl, ?_⟩) (by assumption) ?_
        rotate_left
        · intro wS hSw
          first
            | (go_simp; done)
            | (go_simp; with_reducible rfl)
        try simp only [Act.put, List.setIfInBounds_toArray, List.set_cons_zero, List.set_cons_succ]
        refine wpAnyH_done (by kernel_rfl) ?_ _
        clear hHeld
        go_wp2_with fail
        go_roundw
        case rel => exact ⟨i + 1, by omega, by go_num, Lib.hid (Kit.below_drewN hBr.out _).drew⟩
        case measure => simp [intOf]; omega
      · have d1 : decide (0 ≤ (r : Int) + x) = true := by simpa using h1
        have d2 : decide ((r : Int) + x < H) = true := by simpa using h2
        have d3 : decide (0 ≤ (s : Int) + y) = true := by simpa using h3
        have d4 : decide ((s : Int) + y < W) = true := by simpa using h4
        have D1 := Lib.hid d1
        have D2 := Lib.hid d2
        have D3 := Lib.hid d3
        have D4 := Lib.hid d4
        clear d1 d2 d3 d4
        rw [hS h1 h2 h3 h4] at hcy
        clear hS hG
        generalize zs.getD i 0 = u at hcx hcy
        go_wp2_with fail
        try rw [D1.out]
        try rw [D2.out]
        try rw [D3.out]
        try rw [D4.out]
        refine wp_region_held_drew (S := fun w' => w'.cell? ⟨w.heap.size, 3, none⟩ = some (.slice (some ⟨b1, off1, none⟩) n c) ∧ w'.cell? ⟨g6, 3, none⟩ = some (.slice (some ⟨b2, off2, none⟩) n c6) ∧ w'.cell? ⟨b1, off1 + i, none⟩ = some (.int .i8 u) ∧ w'.cell? ⟨b2, off2 + i, none⟩ = some (.int .i8 u)) (by kernel_rfl) ⟨tb3, tv3, hcx, hcy⟩ (fun hHeld => ?_)
        refine wpAnyH_take (i := 0) (oi := ({ dst := some 149, op := Op.move (Operand.tmp 23), type := 4, pos := "law.go:66", after := #[], guard := none } : Oper)) (v := ?_) rfl (by kernel_rfl) (by kernel_rfl) (by kernel_rfl) (fun _ _ _ h => h) (Or.inl ⟨by rfl, ?_⟩) (by assumption) ?_
        rotate_left
        · intro wS hSw
          first
            | (go_simp; done)
            | (go_simp; with_reducible rfl)
        try simp only [Act.put, List.setIfInBounds_toArray, List.set_cons_zero, List.set_cons_succ]
        refine wpAnyH_take (i := 1) (oi := ({ dst := some 150, op := Op.move (Operand.tmp 149), type := 4, pos := "law.go:66", after := #[{ on := 0, ground := Ground.data }], guard := none } : Oper)) (v := ?_) rfl (by kernel_rfl) (by kernel_rfl) (by kernel_rfl) (fun _ _ _ h => h) (Or.inl ⟨by rfl, ?_⟩) (by assumption) ?_
        rotate_left
        · intro wS hSw
          first
            | (go_simp; done)
            | (go_simp; with_reducible rfl)
        try simp only [Act.put, List.setIfInBounds_toArray, List.set_cons_zero, List.set_cons_succ]
        refine wpAnyH_take (i := 2) (oi := ({ dst := some 151, op := Op.fieldAddr 26 (Operand.tmp 17) 1, type := 0, pos := "law.go:66", after := #[{ on := 1, ground := Ground.guard }], guard := some (1, true) } : Oper)) (v := ?_) rfl (by kernel_rfl) (by kernel_rfl) (by kernel_rfl) (fun _ _ _ h => h) (Or.inl ⟨by rfl, ?_⟩) (by assumption) ?_
        rotate_left
        · intro wS hSw
          first
            | (go_simp; done)
            | (go_simp; with_reducible rfl)
        try simp only [Act.put, List.setIfInBounds_toArray, List.set_cons_zero, List.set_cons_succ]
        refine wpAnyH_take (i := 3) (oi := ({ dst := some 152, op := Op.load 24 (Operand.tmp 151), type := 24, pos := "law.go:66", after := #[{ on := 2, ground := Ground.data }, { on := 1, ground := Ground.guard }], guard := some (1, true) } : Oper)) (v := ?_) rfl (by kernel_rfl) (by kernel_rfl) (by kernel_rfl) (fun _ _ _ h => h) (Or.inl ⟨by rfl, ?_⟩) (by assumption) ?_
        rotate_left
        · intro wS hSw
          obtain ⟨u1, u2, u3, u4⟩ := hSw
          first
            | (go_simp; done)
            | (go_simp; with_reducible rfl)
        try simp only [Act.put, List.setIfInBounds_toArray, List.set_cons_zero, List.set_cons_succ]
        refine wpAnyH_take (i := 4) (oi := ({ dst := some 153, op := Op.move (Operand.tmp 20), type := 3, pos := "law.go:66", after := #[{ on := 1, ground := Ground.guard }], guard := some (1, true) } : Oper)) (v := ?_) rfl (by kernel_rfl) (by kernel_rfl) (by kernel_rfl) (fun _ _ _ h => h) (Or.inl ⟨by rfl, ?_⟩) (by assumption) ?_
        rotate_left
        · intro wS hSw
          first
            | (go_simp; done)
            | (go_simp; with_reducible rfl)
        try simp only [Act.put, List.setIfInBounds_toArray, List.set_cons_zero, List.set_cons_succ]
        refine wpAnyH_take (i := 5) (oi := ({ dst := some 154, op := Op.indexAddr 24 (Operand.tmp 152) (Operand.tmp 153), type := 0, pos := "law.go:66", after := #[{ on := 3, ground := Ground.data }, { on := 4, ground := Ground.data }, { on := 1, ground := Ground.guard }], guard := some (1, true) } : Oper)) (v := ?_) rfl (by kernel_rfl) (by kernel_rfl) (by kernel_rfl) (fun _ _ _ h => h) (Or.inl ⟨by rfl, ?_⟩) (by assumption) ?_
        rotate_left
        · intro wS hSw
          first
            | (go_simp; done)
            | (go_simp; with_reducible rfl)
        try simp only [Act.put, List.setIfInBounds_toArray, List.set_cons_zero, List.set_cons_succ]
        refine wpAnyH_take (i := 6) (oi := ({ dst := some 155, op := Op.load 27 (Operand.tmp 154), type := 27, pos := "law.go:66", after := #[{ on := 5, ground := Ground.data }, { on := 1, ground := Ground.guard }], guard := some (1, true) } : Oper)) (v := ?_) rfl (by kernel_rfl) (by kernel_rfl) (by kernel_rfl) (fun _ _ _ h => h) (Or.inl ⟨by rfl, ?_⟩) (by assumption) ?_
        rotate_left
        · intro wS hSw
          obtain ⟨u1, u2, u3, u4⟩ := hSw
          first
            | (go_simp; done)
            | (go_simp; with_reducible rfl)
        try simp only [Act.put, List.setIfInBounds_toArray, List.set_cons_zero, List.set_cons_succ]
        refine wpAnyH_take (i := 7) (oi := ({ dst := some 156, op := Op.fieldAddr 26 (Operand.tmp 4) 1, type := 0, pos := "law.go:66", after := #[{ on := 1, ground := Ground.guard }], guard := some (1, true) } : Oper)) (v := ?_) rfl (by kernel_rfl) (by kernel_rfl) (by kernel_rfl) (fun _ _ _ h => h) (Or.inl ⟨by rfl, ?_⟩) (by assumption) ?_
        rotate_left
        · intro wS hSw
          first
            | (go_simp; done)
            | (go_simp; with_reducible rfl)
        try simp only [Act.put, List.setIfInBounds_toArray, List.set_cons_zero, List.set_cons_succ]
        refine wpAnyH_take (i := 8) (oi := ({ dst := some 157, op := Op.load 24 (Operand.tmp 156), type := 24, pos := "law.go:66", after := #[{ on := 7, ground := Ground.data }, { on := 1, ground := Ground.guard }], guard := some (1, true) } : Oper)) (v := ?_) rfl (by kernel_rfl) (by kernel_rfl) (by kernel_rfl) (fun _ _ _ h => h) (Or.inl ⟨by rfl, ?_⟩) (by assumption) ?_
        rotate_left
        · intro wS hSw
          obtain ⟨u1, u2, u3, u4⟩ := hSw
          first
            | (go_simp; done)
            | (go_simp; with_reducible rfl)
        try simp only [Act.put, List.setIfInBounds_toArray, List.set_cons_zero, List.set_cons_succ]
        refine wpAnyH_take (i := 9) (oi := ({ dst := some 158, op := Op.move (Operand.tmp 20), type := 3, pos := "law.go:66", after := #[{ on := 1, ground := Ground.guard }], guard := some (1, true) } : Oper)) (v := ?_) rfl (by kernel_rfl) (by kernel_rfl) (by kernel_rfl) (fun _ _ _ h => h) (Or.inl ⟨by rfl, ?_⟩) (by assumption) ?_
        rotate_left
        · intro wS hSw
          first
            | (go_simp; done)
            | (go_simp; with_reducible rfl)
        try simp only [Act.put, List.setIfInBounds_toArray, List.set_cons_zero, List.set_cons_succ]
        refine wpAnyH_take (i := 10) (oi := ({ dst := some 159, op := Op.indexAddr 24 (Operand.tmp 157) (Operand.tmp 158), type := 0, pos := "law.go:66", after := #[{ on := 8, ground := Ground.data }, { on := 9, ground := Ground.data }, { on := 1, ground := Ground.guard }], guard := some (1, true) } : Oper)) (v := ?_) rfl (by kernel_rfl) (by kernel_rfl) (by kernel_rfl) (fun _ _ _ h => h) (Or.inl ⟨by rfl, ?_⟩) (by assumption) ?_
        rotate_left
        · intro wS hSw
          first
            | (go_simp; done)
            | (go_simp; with_reducible rfl)
        try simp only [Act.put, List.setIfInBounds_toArray, List.set_cons_zero, List.set_cons_succ]
        refine wpAnyH_take (i := 11) (oi := ({ dst := some 160, op := Op.load 27 (Operand.tmp 159), type := 27, pos := "law.go:66", after := #[{ on := 10, ground := Ground.data }, { on := 1, ground := Ground.guard }], guard := some (1, true) } : Oper)) (v := ?_) rfl (by kernel_rfl) (by kernel_rfl) (by kernel_rfl) (fun _ _ _ h => h) (Or.inl ⟨by rfl, ?_⟩) (by assumption) ?_
        rotate_left
        · intro wS hSw
          obtain ⟨u1, u2, u3, u4⟩ := hSw
          first
            | (go_simp; done)
            | (go_simp; with_reducible rfl)
        try simp only [Act.put, List.setIfInBounds_toArray, List.set_cons_zero, List.set_cons_succ]
        refine wpAnyH_take (i := 12) (oi := ({ dst := some 161, op := Op.binOp BinOp.neq 27 (Operand.tmp 155) (Operand.tmp 160) 27, type := 4, pos := "law.go:66", after := #[{ on := 6, ground := Ground.data }, { on := 11, ground := Ground.data }, { on := 1, ground := Ground.guard }], guard := some (1, true) } : Oper)) (v := ?_) rfl (by kernel_rfl) (by kernel_rfl) (by kernel_rfl) (fun _ _ _ h => h) (Or.inl ⟨by rfl, ?_⟩) (by assumption) ?_
        rotate_left
        · intro wS hSw
          first
            | (go_simp; done)
            | (go_simp; with_reducible rfl)
        try simp only [Act.put, List.setIfInBounds_toArray, List.set_cons_zero, List.set_cons_succ]
        refine wpAnyH_take (i := 13) (oi := ({ dst := some 162, op := Op.pick (Operand.tmp 150) (Operand.tmp 161) (Operand.const (Value.bool false)), type := 4, pos := "law.go:66", after := #[{ on := 1, ground := Ground.data }, { on := 12, ground := Ground.data }], guard := none } : Oper)) (v := ?_) rfl (by kernel_rfl) (by kernel_rfl) (by kernel_rfl) (fun _ _ _ h => h) (Or.inl ⟨by rfl, ?_⟩) (by assumption) ?_
        rotate_left
        · intro wS hSw
          first
            | (go_simp; done)
            | (go_simp; with_reducible rfl)
        try simp only [Act.put, List.setIfInBounds_toArray, List.set_cons_zero, List.set_cons_succ]
        refine wpAnyH_take (i := 14) (oi := ({ dst := some 163, op := Op.move (Operand.tmp 162), type := 4, pos := "law.go:66", after := #[{ on := 13, ground := Ground.data }, { on := 1, ground := Ground.chain }], guard := none } : Oper)) (v := ?_) rfl (by kernel_rfl) (by kernel_rfl) (by kernel_rfl) (fun _ _ _ h => h) (Or.inl ⟨by rfl, ?_⟩) (by assumption) ?_
        rotate_left
        · intro wS hSw
          first
            | (go_simp; done)
            | (go_simp; with_reducible rfl)
        try simp only [Act.put, List.setIfInBounds_toArray, List.set_cons_zero, List.set_cons_succ]
        refine wpAnyH_take (i := 15) (oi := ({ dst := some 164, op := Op.move (Operand.tmp 23), type := 4, pos := "law.go:66", after := #[{ on := 14, ground := Ground.guard }], guard := some (14, false) } : Oper)) (v := ?_) rfl (by kernel_rfl) (by kernel_rfl) (by kernel_rfl) (fun _ _ _ h => h) (Or.inl ⟨by rfl, ?_⟩) (by assumption) ?_
        rotate_left
        · intro wS hSw
          first
            | (go_simp; done)
            | (go_simp; with_reducible rfl)
        try simp only [Act.put, List.setIfInBounds_toArray, List.set_cons_zero, List.set_cons_succ]
        refine wpAnyH_take (i := 16) (oi := ({ dst := some 165, op := Op.unOp UnOp.not 4 (Operand.tmp 164), type := 4, pos := "law.go:66", after := #[{ on := 15, ground := Ground.data }, { on := 14, ground := Ground.guard }], guard := some (14, false) } : Oper)) (v := ?_) rfl (by kernel_rfl) (by kernel_rfl) (by kernel_rfl) (fun _ _ _ h => h) (Or.inl ⟨by rfl, ?_⟩) (by assumption) ?_
        rotate_left
        · intro wS hSw
          first
            | (go_simp; done)
            | (go_simp; with_reducible rfl)
        try simp only [Act.put, List.setIfInBounds_toArray, List.set_cons_zero, List.set_cons_succ]
        refine wpAnyH_take (i := 17) (oi := ({ dst := some 166, op := Op.move (Operand.tmp 165), type := 4, pos := "law.go:66", after := #[{ on := 16, ground := Ground.data }, { on := 14, ground := Ground.chain }, { on := 14, ground := Ground.guard }], guard := some (14, false) } : Oper)) (v := ?_) rfl (by kernel_rfl) (by kernel_rfl) (by kernel_rfl) (fun _ _ _ h => h) (Or.inl ⟨by rfl, ?_⟩) (by assumption) ?_
        rotate_left
        · intro wS hSw
          first
            | (go_simp; done)
            | (go_simp; with_reducible rfl)
        try simp only [Act.put, List.setIfInBounds_toArray, List.set_cons_zero, List.set_cons_succ]
        refine wpAnyH_take (i := 18) (oi := ({ dst := some 167, op := Op.fieldAddr 26 (Operand.tmp 17) 1, type := 0, pos := "law.go:66", after := #[{ on := 17, ground := Ground.guard }], guard := some (17, true) } : Oper)) (v := undef) rfl (by kernel_rfl) (by kernel_rfl) (by kernel_rfl) (fun _ _ _ h => h) (Or.inr ⟨by rfl, rfl⟩) (by assumption) ?_
        try simp only [Act.put, List.setIfInBounds_toArray, List.set_cons_zero, List.set_cons_succ]
        refine wpAnyH_take (i := 19) (oi := ({ dst := some 168, op := Op.load 24 (Operand.tmp 167), type := 24, pos := "law.go:66", after := #[{ on := 18, ground := Ground.data }, { on := 17, ground := Ground.guard }], guard := some (17, true) } : Oper)) (v := undef) rfl (by kernel_rfl) (by kernel_rfl) (by kernel_rfl) (fun _ _ _ h => h) (Or.inr ⟨by rfl, rfl⟩) (by assumption) ?_
        try simp only [Act.put, List.setIfInBounds_toArray, List.set_cons_zero, List.set_cons_succ]
        refine wpAnyH_take (i := 20) (oi := ({ dst := some 169, op := Op.move (Operand.tmp 20), type := 3, pos := "law.go:66", after := #[{ on := 17, ground := Ground.guard }], guard := some (17, true) } : Oper)) (v := undef) rfl (by kernel_rfl) (by kernel_rfl) (by kernel_rfl) (fun _ _ _ h => h) (Or.inr ⟨by rfl, rfl⟩) (by assumption) ?_
        try simp only [Act.put, List.setIfInBounds_toArray, List.set_cons_zero, List.set_cons_succ]
        refine wpAnyH_take (i := 21) (oi := ({ dst := some 170, op := Op.indexAddr 24 (Operand.tmp 168) (Operand.tmp 169), type := 0, pos := "law.go:66", after := #[{ on := 19, ground := Ground.data }, { on := 20, ground := Ground.data }, { on := 17, ground := Ground.guard }], guard := some (17, true) } : Oper)) (v := undef) rfl (by kernel_rfl) (by kernel_rfl) (by kernel_rfl) (fun _ _ _ h => h) (Or.inr ⟨by rfl, rfl⟩) (by assumption) ?_
        try simp only [Act.put, List.setIfInBounds_toArray, List.set_cons_zero, List.set_cons_succ]
        refine wpAnyH_take (i := 22) (oi := ({ dst := some 171, op := Op.load 27 (Operand.tmp 170), type := 27, pos := "law.go:66", after := #[{ on := 21, ground := Ground.data }, { on := 17, ground := Ground.guard }], guard := some (17, true) } : Oper)) (v := undef) rfl (by kernel_rfl) (by kernel_rfl) (by kernel_rfl) (fun _ _ _ h => h) (Or.inr ⟨by rfl, rfl⟩) (by assumption) ?_
        try simp only [Act.put, List.setIfInBounds_toArray, List.set_cons_zero, List.set_cons_succ]
        refine wpAnyH_take (i := 23) (oi := ({ dst := some 172, op := Op.move (Operand.tmp 2), type := 27, pos := "law.go:66", after := #[{ on := 17, ground := Ground.guard }], guard := some (17, true) } : Oper)) (v := undef) rfl (by kernel_rfl) (by kernel_rfl) (by kernel_rfl) (fun _ _ _ h => h) (Or.inr ⟨by rfl, rfl⟩) (by assumption) ?_
        try simp only [Act.put, List.setIfInBounds_toArray, List.set_cons_zero, List.set_cons_succ]
        refine wpAnyH_take (i := 24) (oi := ({ dst := some 173, op := Op.binOp BinOp.neq 27 (Operand.tmp 171) (Operand.tmp 172) 27, type := 4, pos := "law.go:66", after := #[{ on := 22, ground := Ground.data }, { on := 23, ground := Ground.data }, { on := 17, ground := Ground.guard }], guard := some (17, true) } : Oper)) (v := undef) rfl (by kernel_rfl) (by kernel_rfl) (by kernel_rfl) (fun _ _ _ h => h) (Or.inr ⟨by rfl, rfl⟩) (by assumption) ?_
        try simp only [Act.put, List.setIfInBounds_toArray, List.set_cons_zero, List.set_cons_succ]
        refine wpAnyH_take (i := 25) (oi := ({ dst := some 174, op := Op.pick (Operand.tmp 166) (Operand.tmp 173) (Operand.const (Value.bool false)), type := 4, pos := "law.go:66", after := #[{ on := 17, ground := Ground.data }, { on := 24, ground := Ground.data }, { on := 14, ground := Ground.guard }], guard := some (14, false) } : Oper)) (v := ?_) rfl (by kernel_rfl) (by kernel_rfl) (by kernel_rfl) (fun _ _ _ h => h) (Or.inl ⟨by rfl, ?_⟩) (by assumption) ?_
        rotate_left
        · intro wS hSw
          first
            | (go_simp; done)
            | (go_simp; with_reducible rfl)
        try simp only [Act.put, List.setIfInBounds_toArray, List.set_cons_zero, List.set_cons_succ]
        refine wpAnyH_take (i := 26) (oi := ({ dst := some 175, op := Op.pick (Operand.tmp 163) (Operand.const (Value.bool true)) (Operand.tmp 174), type := 4, pos := "law.go:66", after := #[{ on := 14, ground := Ground.data }, { on := 25, ground := Ground.data }], guard := none } : Oper)) (v := ?_) rfl (by kernel_rfl) (by kernel_rfl) (by kernel_rfl) (fun _ _ _ h => h) (Or.inl ⟨by rfl, ?_⟩) (by assumption) ?_
        rotate_left
        · intro wS hSw
          first
            | (go_simp; done)
            | (go_simp; with_reducible rfl)
        try simp only [Act.put, List.setIfInBounds_toArray, List.set_cons_zero, List.set_cons_succ]
        refine wpAnyH_done (by kernel_rfl) ?_ _
        clear hHeld
        go_wp2_with fail
        go_roundw
        case rel => exact ⟨i + 1, by omega, by go_num, Lib.hid (Kit.below_drewN hBr.out _).drew⟩
        case measure => simp [intOf]; omega
    · obtain rfl : i = n := by omega
      go_wp2_with (go_at_call 6; (refine (known09 _).mono ?_); rintro e w7 ⟨rfl, hb⟩; (have HB := Lib.hid ((HBW.out.trans (hBr.out.mono HBW.out.size)).trans (hb.mono (Nat.le_trans HBW.out.size hBr.out.size)))); clear hb)
      go_ret
      exact ⟨rfl, HB.out⟩
set_option maxRecDepth 100000 in
set_option maxHeartbeats 8000000 in
theorem walk_yes {w : World} (H W C : Int) (A : Option Addr) (zs : List Int) (n c : Nat) (hn : zs.length = n) (hc : n ≤ c) (hl : n ≤ 1024) (hr : Kit.Rd w w.heap.size A (I8s zs)) (ht : tensB H W C n = true) (p P z x y : Int) (hp0 : 0 ≤ p) (hp1 : p ≤ 255) (hP : p % 5 = P)
    (x1 : -128 ≤ x) (x2 : x ≤ 127) (y1 : -128 ≤ y) (y2 : y ≤ 127) (hs : shapeB (H + 2 * P) (W + 2 * P) C = true) :
    Calls Try.prog 5 #[.agg #[.int .i64 H, .int .i64 W, .int .i64 C, .slice A n c], .int .u8 p, .int .i8 z, .agg #[.int .i8 x, .int .i8 y]] w fun e w' => e = .returned (.bool true) ∧ Below w.heap.size w w' := by
  have hlI : (n : Int) ≤ 1024 := by omega
  have hs0 : shapeB H W C = true := by simp only [tensB, Bool.and_eq_true] at ht; exact ht.1
  have hnn : (n : Int) = H * W * C := by simp only [tensB, Bool.and_eq_true, decide_eq_true_eq] at ht; exact ht.2
  obtain ⟨s1, s2, s3, s4, s5, s6, s7⟩ := shapeB_yes hs0
  obtain ⟨a, ha⟩ : ∃ a : Nat, H = (a : Int) := ⟨H.toNat, by omega⟩
  obtain ⟨b, hb⟩ : ∃ b : Nat, W = (b : Int) := ⟨W.toNat, by omega⟩
  obtain ⟨d, hd⟩ : ∃ d : Nat, C = (d : Int) := ⟨C.toNat, by omega⟩
  have hm : a * b * d = n := by
    have : ((a * b * d : Nat) : Int) = (n : Int) := by rw [hnn, ha, hb, hd]; simp
    omega
  have hP0 : 0 ≤ P := by omega
  have hP4 : P ≤ 4 := by omega
  have hpt : p.tmod 5 = P := by rw [Int.tmod_eq_emod_of_nonneg hp0]; exact hP
  have hpw8 : IntKind.u8.wrap P = P := IntWalk.u8_in _ (by omega)
  have hpw64 : IntKind.i64.wrap P = P := IntWalk.i64_in _ (by omega)
  have hnx : IntKind.i64.wrap (-x) = -x := IntWalk.i64_in _ (by omega)
  have hny : IntKind.i64.wrap (-y) = -y := IntWalk.i64_in _ (by omega)
  have hwx : IntKind.i64.wrap x = x := IntWalk.i64_in _ (by omega)
  have hwy : IntKind.i64.wrap y = y := IntWalk.i64_in _ (by omega)
  have hn6 : n ≤ 1000000 := by omega
  obtain ⟨us, hus⟩ : ∃ us : List Int, us = rowL (gridF b d (fun i j k => pixZ zs a b d ((i : Int) - x) ((j : Int) - y) (k : Int) z)) n := ⟨_, rfl⟩
  have hul : us.length = n := by rw [hus]; simp [rowL]
  obtain ⟨F2, hF2⟩ : ∃ F2 : Nat → Int, F2 = backF zs a b d x y z := ⟨_, rfl⟩
  have hFs : ∀ q : Nat, q < n → 0 ≤ ((q / d / b : Nat) : Int) + x → ((q / d / b : Nat) : Int) + x < H → 0 ≤ ((q / d % b : Nat) : Int) + y → ((q / d % b : Nat) : Int) + y < W → F2 q = zs.getD q 0 := fun q hq h1 h2 h3 h4 => by
    rw [hF2]; exact back_stays zs x y z (by rw [hm]; exact hq) h1 (by omega) h3 (by omega)
  have hFg : ∀ q : Nat, ¬ (0 ≤ ((q / d / b : Nat) : Int) + x ∧ ((q / d / b : Nat) : Int) + x < H ∧ 0 ≤ ((q / d % b : Nat) : Int) + y ∧ ((q / d % b : Nat) : Int) + y < W) → F2 q = z := fun q h => by
    rw [hF2]; exact back_goes zs x y z (fun hh => h ⟨hh.1, by omega, hh.2.2.1, by omega⟩)
  have HM1 : Hid (∀ (w : World), Kit.Rd w w.heap.size A (I8s zs) → Calls Try.prog 12 #[.agg #[.int .i64 H, .int .i64 W, .int .i64 C, .slice A n c], .int .i64 x, .int .i64 y, .int .i8 z] w (Made w H W C n us (.int .i64 0))) := Lib.hid (fun w hr => by
    rw [hus]
    refine move_yes H W C A zs n c x y z hn hc ht a b d ha hb hd n hm _ (fun i j k hi hj hk => ?_) w (Nat.le_refl _) hr
    rw [grid_at b d _ hj hk, IntWalk.i64_in _ (by omega), IntWalk.i64_in _ (by omega), ha, hb, hd])
  have HM2 : Hid (∀ (w : World) (A5 : Option Addr) (c5 : Nat), n ≤ c5 → Kit.Rd w w.heap.size A5 (I8s us) → Calls Try.prog 12 #[.agg #[.int .i64 H, .int .i64 W, .int .i64 C, .slice A5 n c5], .int .i64 (-x), .int .i64 (-y), .int .i8 z] w (Made w H W C n (rowL F2 n) (.int .i64 0))) := Lib.hid (fun w A5 c5 h5 hr => by
    refine move_yes H W C A5 us n c5 (-x) (-y) z hul h5 ht a b d ha hb hd n hm _ (fun i j k hi hj hk => ?_) w (Nat.le_refl _) hr
    rw [hF2]
    unfold backF
    rw [grid_at b d _ hj hk, IntWalk.i64_in _ (by omega), IntWalk.i64_in _ (by omega), ha, hb, hd, hus, hm])
  obtain ⟨k1, k2, k3, k4, k5, k6, k7⟩ := shapeB_yes hs
  obtain ⟨a1, ha1⟩ : ∃ a1 : Nat, H + 2 * P = (a1 : Int) := ⟨(H + 2 * P).toNat, by omega⟩
  obtain ⟨b1, hb1⟩ : ∃ b1 : Nat, W + 2 * P = (b1 : Int) := ⟨(W + 2 * P).toNat, by omega⟩
  obtain ⟨m, hm1⟩ : ∃ m, a1 * b1 * d = m := ⟨_, rfl⟩
  obtain ⟨xs, hxs⟩ : ∃ xs : List Int, xs = rowL (gridF b1 d (fun i j k => pixZ zs H W C ((i : Int) - P) ((j : Int) - P) (k : Int) z)) m := ⟨_, rfl⟩
  obtain ⟨U, hU⟩ : ∃ U, H + 2 * P = U := ⟨_, rfl⟩
  obtain ⟨V, hV⟩ : ∃ V, W + 2 * P = V := ⟨_, rfl⟩
  have HA1 : Hid (∀ (w : World), Kit.Rd w w.heap.size A (I8s zs) → Calls Try.prog 7 #[.agg #[.int .i64 H, .int .i64 W, .int .i64 C, .slice A n c], .int .i64 P, .int .i8 z] w (Made w U V C m xs (.int .i64 0))) := Lib.hid (fun w hr => by
    rw [hxs, ← hU, ← hV]
    refine around_yes H W C A zs n c P z hn hc ht hP0 hP4 hs a1 b1 d ha1 hb1 hd m hm1 _ (fun i j k hi hj hk => ?_) w (Nat.le_refl _) hr
    rw [grid_at b1 d _ hj hk, IntWalk.i64_in _ (by omega), IntWalk.i64_in _ (by omega)])
  have HC1 : Hid (∀ (w : World) (A1 : Option Addr) (c1 : Nat), m ≤ c1 → Kit.Rd w w.heap.size A1 (I8s xs) → Calls Try.prog 8 #[.agg #[.int .i64 U, .int .i64 V, .int .i64 C, .slice A1 m c1], .int .i64 P] w (Made w H W C n zs (.int .i64 0))) := Lib.hid (fun w A1 c1 h1 hr => by
    rw [← hm1, ← hU, ← hV]
    rw [hxs, ← hm1] at hr
    exact crop_back H W C A1 zs n c1 hn ht P z hP0 hP4 hs a b a1 b1 d ha hb hd hm ha1 hb1 (by rw [hm1]; exact h1) w hr)
  clear hxs ha1 hb1 hm1 hU hV k1 k2 k3 k4 k5 k6 k7
  have HFS := Lib.hid hFs
  have HFG := Lib.hid hFg
  have HT := Lib.hid ht
  have HR := Lib.hid hr
  have HN := Lib.hid hn
  have HU := Lib.hid ha
  have HV := Lib.hid hb
  have HCd := Lib.hid hd
  have HMm := Lib.hid hm
  clear hus hul hF2 hFs hFg ht hr hn hm hs hs0 hnn s7 ha hb hd hP
  go_enter Try.func5, Try.ntmps5
  go_wp2_with (first
        | (go_at_call 13
           have hal : Below w.heap.size w ((w.alloc (.cells #[.int .i64 H, .int .i64 W, .int .i64 C, .slice A n c] 26)).alloc (.cells #[.int .i8 x, .int .i8 y] 42)) := ((Below.refl _ _).alloc (by first | exact Nat.le_refl _ | (simp; done) | (simp; omega)) _).alloc (by first | exact Nat.le_refl _ | (simp; done) | (simp; omega)) _
           refine (refRight_to H W C A n c true HT.out _).mono ?_
           rintro e w1 ⟨rfl, hb⟩
           have hh : Below w.heap.size w w1 := hal.trans (hb.mono hal.size)
           have qTB := (BoxAt.newq (H) (W) (C) (A) (n) (c) 26) w
           try simp only [World.size_alloc] at qTB
           have TB := Lib.hid ((qTB.below (B' := w.heap.size + 1) (by omega) (((Below.refl _ _).alloc (by first | exact Nat.le_refl _ | (simp; done) | (simp; omega)) _).mono (by simp))).below (by first | (simp; done) | (simp; omega)) hb)
           have yTB : w.heap.size < w1.heap.size := by have := hb.size; simp at this; omega
           clear qTB
           have qPR := (PairAt.new x y 42) (w.alloc (.cells #[.int .i64 H, .int .i64 W, .int .i64 C, .slice A n c] 26))
           try simp only [World.size_alloc] at qPR
           have PR := Lib.hid (qPR.below (by first | (simp; done) | (simp; omega)) hb)
           have yPR : w.heap.size + 1 < w1.heap.size := by have := hb.size; simp at this; omega
           clear qPR
           replace HR := Lib.hid ((HR.out.below hh).more hh.size)
           have HBW : Hid (Below w.heap.size w w1) := Lib.hid hh
           obtain ⟨tbp0, tbp1, tbp2, tbp3⟩ := TB.out
           obtain ⟨prp0, prp1⟩ := PR.out
           clear hb hh hal)
        | (go_at_call 7
           have hal : Below w1.heap.size w1 w1 := Below.refl _ _
           refine (HA1.out _ ((HR.out.below hal).more hal.size)).mono ?_
           rintro e w2 ⟨v2, rfl, ho2, hb⟩
           have hh : Below w1.heap.size w1 w2 := hal.trans (hb.mono hal.size)
           replace TB := Lib.hid (TB.out.below yTB hh)
           replace yTB := Nat.lt_of_lt_of_le yTB hh.size
           replace PR := Lib.hid (PR.out.below yPR hh)
           replace yPR := Nat.lt_of_lt_of_le yPR hh.size
           replace HR := Lib.hid ((HR.out.below hh).more hh.size)
           replace HBW := Lib.hid (HBW.out.trans (hh.mono HBW.out.size))
           clear tbp0 tbp1 tbp2 tbp3 prp0 prp1
           obtain ⟨A2, c2, rfl, hc2, -, hrd2⟩ := Kit.own_rd ho2
           have RA2 := Lib.hid hrd2
           clear ho2 hrd2
           obtain ⟨tbp0, tbp1, tbp2, tbp3⟩ := TB.out
           obtain ⟨prp0, prp1⟩ := PR.out
           clear hb hh hal)
        | (go_at_call 8
           have hal : Below w2.heap.size w2 (w2.alloc (.cells #[.int .i64 (U), .int .i64 (V), .int .i64 (C), .slice A2 m c2] 26)) := (Below.refl _ _).alloc (by first | exact Nat.le_refl _ | (simp; done) | (simp; omega)) _
           refine (HC1.out _ A2 c2 hc2 ((RA2.out.below hal).more hal.size)).mono ?_
           rintro e w3 ⟨v3, rfl, ho3, hb⟩
           have hh : Below w2.heap.size w2 w3 := hal.trans (hb.mono hal.size)
           have qTA := (BoxAt.newq (U) (V) (C) (A2) (m) (c2) 26) w2
           try simp only [World.size_alloc] at qTA
           have TA := Lib.hid (qTA.below (by first | (simp; done) | (simp; omega)) hb)
           have yTA : w2.heap.size < w3.heap.size := by have := hb.size; simp at this; omega
           clear qTA
           replace TB := Lib.hid (TB.out.below yTB hh)
           replace yTB := Nat.lt_of_lt_of_le yTB hh.size
           replace PR := Lib.hid (PR.out.below yPR hh)
           replace yPR := Nat.lt_of_lt_of_le yPR hh.size
           replace HR := Lib.hid ((HR.out.below hh).more hh.size)
           replace RA2 := Lib.hid ((RA2.out.below hh).more hh.size)
           replace HBW := Lib.hid (HBW.out.trans (hh.mono HBW.out.size))
           clear tbp0 tbp1 tbp2 tbp3 prp0 prp1
           obtain ⟨A3, c3, rfl, hc3, -, hrd3⟩ := Kit.own_rd ho3
           have RA3 := Lib.hid hrd3
           clear ho3 hrd3
           obtain ⟨tbp0, tbp1, tbp2, tbp3⟩ := TB.out
           obtain ⟨prp0, prp1⟩ := PR.out
           obtain ⟨tap0, tap1, tap2, tap3⟩ := TA.out
           clear hb hh hal)
        | (go_at_call 10
           have hal : Below w3.heap.size w3 (w3.alloc (.cells #[.int .i64 (H), .int .i64 (W), .int .i64 (C), .slice A3 n c3] 26)) := (Below.refl _ _).alloc (by first | exact Nat.le_refl _ | (simp; done) | (simp; omega)) _
           refine (refSame_to H W C A3 A zs zs n c3 c HN.out HN.out hn6 true (by simp) _ hal.size hal.size (RA3.out.below hal) (HR.out.below hal)).mono ?_
           rintro e w4 ⟨rfl, hb⟩
           have hh : Below w3.heap.size w3 w4 := hal.trans (hb.mono hal.size)
           have qTC := (BoxAt.newq (H) (W) (C) (A3) (n) (c3) 26) w3
           try simp only [World.size_alloc] at qTC
           have TC := Lib.hid (qTC.below (by first | (simp; done) | (simp; omega)) hb)
           have yTC : w3.heap.size < w4.heap.size := by have := hb.size; simp at this; omega
           clear qTC
           replace TB := Lib.hid (TB.out.below yTB hh)
           replace yTB := Nat.lt_of_lt_of_le yTB hh.size
           replace PR := Lib.hid (PR.out.below yPR hh)
           replace yPR := Nat.lt_of_lt_of_le yPR hh.size
           replace TA := Lib.hid (TA.out.below yTA hh)
           replace yTA := Nat.lt_of_lt_of_le yTA hh.size
           replace HR := Lib.hid ((HR.out.below hh).more hh.size)
           replace RA2 := Lib.hid ((RA2.out.below hh).more hh.size)
           replace RA3 := Lib.hid ((RA3.out.below hh).more hh.size)
           replace HBW := Lib.hid (HBW.out.trans (hh.mono HBW.out.size))
           clear tbp0 tbp1 tbp2 tbp3 prp0 prp1 tap0 tap1 tap2 tap3
           obtain ⟨tbp0, tbp1, tbp2, tbp3⟩ := TB.out
           obtain ⟨prp0, prp1⟩ := PR.out
           obtain ⟨tap0, tap1, tap2, tap3⟩ := TA.out
           obtain ⟨tcp0, tcp1, tcp2, tcp3⟩ := TC.out
           clear hb hh hal))
  clear TA TC yTA yTC RA2 RA3 tap0 tap1 tap2 tap3 tcp0 tcp1 tcp2 tcp3
  clear tbp0 tbp1 tbp2 tbp3 prp0 prp1
  have hal : Below w4.heap.size w4 w4.drew := (Below.refl _ _).drew
  replace TB := Lib.hid (TB.out.below yTB hal)
  replace PR := Lib.hid (PR.out.below yPR hal)
  replace HR := Lib.hid ((HR.out.below hal).more hal.size)
  replace HBW := Lib.hid (HBW.out.trans (hal.mono HBW.out.size))
  replace yTB := Nat.lt_of_lt_of_le yTB hal.size
  clear hal
  refine wp_region_held_drew (S := PairAt (w.heap.size + 1) x y) (by kernel_rfl) PR.out (fun hHeld => ?_)
  generalize w4.drew = Wa at TB HR HBW yTB hHeld ⊢
  clear PR yPR
  refine wpAnyH_take (i := 0) (oi := ({ dst := some 61, op := Op.indexAddr 42 (Operand.tmp 7) (Operand.const (Value.int IntKind.i64 0)), type := 0, pos := "law.go:56", after := #[], guard := none } : Oper)) (v := ?_) rfl (by kernel_rfl) (by kernel_rfl) (by kernel_rfl) (fun _ _ _ h => h) (Or.inl ⟨by rfl, ?_⟩) (by assumption) ?_
  rotate_left
  · intro wS hSw
    obtain ⟨u1, u2⟩ := hSw
    first
      | (go_simp; done)
      | (go_simp; with_reducible rfl)
  try simp only [Act.put, List.setIfInBounds_toArray, List.set_cons_zero, List.set_cons_succ]
  refine wpAnyH_take (i := 1) (oi := ({ dst := some 62, op := Op.load 27 (Operand.tmp 61), type := 27, pos := "law.go:56", after := #[{ on := 0, ground := Ground.data }], guard := none } : Oper)) (v := ?_) rfl (by kernel_rfl) (by kernel_rfl) (by kernel_rfl) (fun _ _ _ h => h) (Or.inl ⟨by rfl, ?_⟩) (by assumption) ?_
  rotate_left
  · intro wS hSw
    obtain ⟨u1, u2⟩ := hSw
    first
      | (go_simp; done)
      | (go_simp; with_reducible rfl)
  try simp only [Act.put, List.setIfInBounds_toArray, List.set_cons_zero, List.set_cons_succ]
  refine wpAnyH_take (i := 2) (oi := ({ dst := some 63, op := Op.convert 27 3 (Operand.tmp 62), type := 3, pos := "law.go:56", after := #[{ on := 1, ground := Ground.data }], guard := none } : Oper)) (v := ?_) rfl (by kernel_rfl) (by kernel_rfl) (by kernel_rfl) (fun _ _ _ h => h) (Or.inl ⟨by rfl, ?_⟩) (by assumption) ?_
  rotate_left
  · intro wS hSw
    obtain ⟨u1, u2⟩ := hSw
    first
      | (go_simp; done)
      | (go_simp; with_reducible rfl)
  try simp only [Act.put, List.setIfInBounds_toArray, List.set_cons_zero, List.set_cons_succ]
  refine wpAnyH_take (i := 3) (oi := ({ dst := some 64, op := Op.indexAddr 42 (Operand.tmp 7) (Operand.const (Value.int IntKind.i64 1)), type := 0, pos := "law.go:56", after := #[{ on := 6, ground := Ground.gcOnly Departure.lateStores }], guard := none } : Oper)) (v := ?_) rfl (by kernel_rfl) (by kernel_rfl) (by kernel_rfl) (fun _ _ _ h => h) (Or.inl ⟨by rfl, ?_⟩) (by assumption) ?_
  rotate_left
  · intro wS hSw
    obtain ⟨u1, u2⟩ := hSw
    first
      | (go_simp; done)
      | (go_simp; with_reducible rfl)
  try simp only [Act.put, List.setIfInBounds_toArray, List.set_cons_zero, List.set_cons_succ]
  refine wpAnyH_take (i := 4) (oi := ({ dst := some 65, op := Op.load 27 (Operand.tmp 64), type := 27, pos := "law.go:56", after := #[{ on := 3, ground := Ground.data }, { on := 6, ground := Ground.gcOnly Departure.lateStores }], guard := none } : Oper)) (v := ?_) rfl (by kernel_rfl) (by kernel_rfl) (by kernel_rfl) (fun _ _ _ h => h) (Or.inl ⟨by rfl, ?_⟩) (by assumption) ?_
  rotate_left
  · intro wS hSw
    obtain ⟨u1, u2⟩ := hSw
    first
      | (go_simp; done)
      | (go_simp; with_reducible rfl)
  try simp only [Act.put, List.setIfInBounds_toArray, List.set_cons_zero, List.set_cons_succ]
  refine wpAnyH_take (i := 5) (oi := ({ dst := some 66, op := Op.convert 27 3 (Operand.tmp 65), type := 3, pos := "law.go:56", after := #[{ on := 4, ground := Ground.data }, { on := 6, ground := Ground.gcOnly Departure.lateStores }], guard := none } : Oper)) (v := ?_) rfl (by kernel_rfl) (by kernel_rfl) (by kernel_rfl) (fun _ _ _ h => h) (Or.inl ⟨by rfl, ?_⟩) (by assumption) ?_
  rotate_left
  · intro wS hSw
    obtain ⟨u1, u2⟩ := hSw
    first
      | (go_simp; done)
      | (go_simp; with_reducible rfl)
  try simp only [Act.put, List.setIfInBounds_toArray, List.set_cons_zero, List.set_cons_succ]
  refine wpAnyH_take (i := 6) (oi := ({ dst := some 13, op := Op.assign (Operand.tmp 63), type := 3, pos := "law.go:56", after := #[{ on := 2, ground := Ground.data }, { on := 0, ground := Ground.phase }, { on := 1, ground := Ground.phase }, { on := 2, ground := Ground.phase }, { on := 3, ground := Ground.textOnly Departure.lateStores }, { on := 4, ground := Ground.textOnly Departure.lateStores }, { on := 5, ground := Ground.textOnly Departure.lateStores }], guard := none } : Oper)) (v := ?_) rfl (by kernel_rfl) (by kernel_rfl) (by kernel_rfl) (fun _ _ _ h => h) (Or.inl ⟨by rfl, ?_⟩) (by assumption) ?_
  rotate_left
  · intro wS hSw
    obtain ⟨u1, u2⟩ := hSw
    first
      | (go_simp; done)
      | (go_simp; with_reducible rfl)
  try simp only [Act.put, List.setIfInBounds_toArray, List.set_cons_zero, List.set_cons_succ]
  refine wpAnyH_take (i := 7) (oi := ({ dst := some 14, op := Op.assign (Operand.tmp 66), type := 3, pos := "law.go:56", after := #[{ on := 5, ground := Ground.data }, { on := 6, ground := Ground.chain }, { on := 0, ground := Ground.phase }, { on := 1, ground := Ground.phase }, { on := 2, ground := Ground.phase }, { on := 3, ground := Ground.phase }, { on := 4, ground := Ground.phase }, { on := 5, ground := Ground.phase }, { on := 6, ground := Ground.phase }], guard := none } : Oper)) (v := ?_) rfl (by kernel_rfl) (by kernel_rfl) (by kernel_rfl) (fun _ _ _ h => h) (Or.inl ⟨by rfl, ?_⟩) (by assumption) ?_
  rotate_left
  · intro wS hSw
    obtain ⟨u1, u2⟩ := hSw
    first
      | (go_simp; done)
      | (go_simp; with_reducible rfl)
  try simp only [Act.put, List.setIfInBounds_toArray, List.set_cons_zero, List.set_cons_succ]
  refine wpAnyH_done (by kernel_rfl) ?_ _
  clear hHeld
  obtain ⟨tbp0, tbp1, tbp2, tbp3⟩ := TB.out
  go_wp2_with (first
        | (go_at_call 12
           have hal : Below Wa.heap.size Wa Wa := Below.refl _ _
           refine (HM1.out _ ((HR.out.below hal).more hal.size)).mono ?_
           rintro e w5 ⟨v5, rfl, ho5, hb⟩
           have hh : Below Wa.heap.size Wa w5 := hal.trans (hb.mono hal.size)
           replace TB := Lib.hid (TB.out.below yTB hh)
           replace yTB := Nat.lt_of_lt_of_le yTB hh.size
           replace HR := Lib.hid ((HR.out.below hh).more hh.size)
           replace HBW := Lib.hid (HBW.out.trans (hh.mono HBW.out.size))
           clear tbp0 tbp1 tbp2 tbp3
           obtain ⟨A5, c5, rfl, hc5, -, hrd5⟩ := Kit.own_rd ho5
           have RA5 := Lib.hid hrd5
           clear ho5 hrd5
           obtain ⟨tbp0, tbp1, tbp2, tbp3⟩ := TB.out
           clear hb hh hal)
        | (go_at_call 12
           have hal : Below w5.heap.size w5 (w5.alloc (.cells #[.int .i64 (H), .int .i64 (W), .int .i64 (C), .slice A5 n c5] 26)) := (Below.refl _ _).alloc (by first | exact Nat.le_refl _ | (simp; done) | (simp; omega)) _
           refine (HM2.out _ A5 c5 hc5 ((RA5.out.below hal).more hal.size)).mono ?_
           rintro e w6 ⟨v6, rfl, ho6, hb⟩
           have hh : Below w5.heap.size w5 w6 := hal.trans (hb.mono hal.size)
           have qTU := (BoxAt.newq (H) (W) (C) (A5) (n) (c5) 26) w5
           try simp only [World.size_alloc] at qTU
           have TU := Lib.hid (qTU.below (by first | (simp; done) | (simp; omega)) hb)
           have yTU : w5.heap.size < w6.heap.size := by have := hb.size; simp at this; omega
           clear qTU
           replace TB := Lib.hid (TB.out.below yTB hh)
           replace yTB := Nat.lt_of_lt_of_le yTB hh.size
           replace HR := Lib.hid ((HR.out.below hh).more hh.size)
           replace RA5 := Lib.hid ((RA5.out.below hh).more hh.size)
           replace HBW := Lib.hid (HBW.out.trans (hh.mono HBW.out.size))
           clear tbp0 tbp1 tbp2 tbp3
           obtain ⟨A6, c6, rfl, hc6, -, hrd6⟩ := Kit.own_rd ho6
           have RA6 := Lib.hid hrd6
           clear ho6 hrd6
           obtain ⟨tbp0, tbp1, tbp2, tbp3⟩ := TB.out
           obtain ⟨tup0, tup1, tup2, tup3⟩ := TU.out
           clear hb hh hal))
  clear tbp0 tbp1 tbp2 tbp3 tup0 tup1 tup2 tup3 TU yTU RA5
  have hal : Below w6.heap.size w6 ((w6.alloc (.cells #[.int .i64 (H), .int .i64 (W), .int .i64 (C), .slice A6 n c6] 26)).alloc (.cells #[.int .i64 H, .int .i64 W, .int .i64 C] 23)) := ((Below.refl _ _).alloc (Nat.le_refl _) _).alloc (by simp) _
  replace TB := Lib.hid (TB.out.below yTB hal)
  have TV := Lib.hid ((BoxAt.newq H W C A6 n c6 26 w6).below (B' := w6.heap.size + 1) (by omega) ((Below.refl _ _).alloc (by simp) (.cells #[.int .i64 H, .int .i64 W, .int .i64 C] 23)))
  have hsh := ShapeAt.new H W C 23 (w6.alloc (.cells #[.int .i64 (H), .int .i64 (W), .int .i64 (C), .slice A6 n c6] 26))
  rw [World.size_alloc] at hsh
  have TS := Lib.hid hsh
  replace HR := Lib.hid ((HR.out.below hal).more hal.size)
  have RV := Lib.hid ((RA6.out.below hal).more hal.size)
  replace HBW := Lib.hid (HBW.out.trans (hal.mono HBW.out.size))
  have zTB : w.heap.size < ((w6.alloc (.cells #[.int .i64 (H), .int .i64 (W), .int .i64 (C), .slice A6 n c6] 26)).alloc (.cells #[.int .i64 H, .int .i64 W, .int .i64 C] 23)).heap.size := Nat.lt_of_lt_of_le yTB hal.size
  have zTV : w6.heap.size < ((w6.alloc (.cells #[.int .i64 (H), .int .i64 (W), .int .i64 (C), .slice A6 n c6] 26)).alloc (.cells #[.int .i64 H, .int .i64 W, .int .i64 C] 23)).heap.size := by simp; omega
  have zTS : w6.heap.size + 1 < ((w6.alloc (.cells #[.int .i64 (H), .int .i64 (W), .int .i64 (C), .slice A6 n c6] 26)).alloc (.cells #[.int .i64 H, .int .i64 W, .int .i64 C] 23)).heap.size := by simp
  clear hal hsh RA6
  generalize ((w6.alloc (.cells #[.int .i64 (H), .int .i64 (W), .int .i64 (C), .slice A6 n c6] 26)).alloc (.cells #[.int .i64 H, .int .i64 W, .int .i64 C] 23)) = Wm at TB TV TS HR RV HBW zTB zTV zTS ⊢
  generalize w6.heap.size = g6 at TV TS zTV zTS ⊢
  go_loopw [20] (fun u wr => ∃ i : Nat, i ≤ n ∧ u = .int .i64 i ∧ Hid (Below Wm.heap.size Wm wr)) (fun u _ => n - (intOf u).toNat)
  case atStart => exact ⟨0, Nat.zero_le _, rfl, Lib.hid (Below.refl _ _)⟩
  case round =>
    obtain ⟨i, hi, rfl, hBr⟩ := hrel
    obtain ⟨tb0, tb1, tb2, tb3⟩ := TB.out.below zTB hBr.out
    obtain ⟨tv0, tv1, tv2, tv3⟩ := TV.out.below zTV hBr.out
    obtain ⟨ts0, ts1, ts2⟩ := TS.out.below zTS hBr.out
    have HR9 := Lib.hid (HR.out.below hBr.out)
    have RV9 := Lib.hid (RV.out.below hBr.out)
    by_cases hlt : i < n
    · have hiI : (i : Int) < (n : Int) := by omega
      have hi0 : (0 : Int) ≤ (i : Int) := by omega
      have hx1 : i < zs.length := by have := HN.out; omega
      have hy1 : i < (rowL F2 n).length := by rw [rowL_len]; exact hlt
      obtain ⟨b1, off1, rfl, -, hcx⟩ := HR9.out.ints hx1
      obtain ⟨b2, off2, rfl, -, hcy⟩ := RV9.out.ints hy1
      have hvx : (rowL F2 n)[i] = F2 i := by simp [rowL]
      have hzx : zs[i] = zs.getD i 0 := by simp [List.getD_eq_getElem?_getD, List.getElem?_eq_getElem hx1]
      rw [hvx] at hcy
      rw [hzx] at hcx
      obtain ⟨p1, p2, p3⟩ := parts_lt (a := a) (b := b) (d := d) (q := i) (by rw [HMm.out]; exact hlt)
      have hS := HFS.out i hlt
      have hG := HFG.out i
      obtain ⟨r, hr⟩ : ∃ r, i / d / b = r := ⟨_, rfl⟩
      obtain ⟨s, hsr⟩ : ∃ s, i / d % b = s := ⟨_, rfl⟩
      obtain ⟨t, htr⟩ : ∃ t, i / d = t := ⟨_, rfl⟩
      have htb : t < 257 := by
        have := Nat.div_add_mod t b
        rw [htr] at hr hsr p1 p2
        have h16 : b ≤ 16 := by have := HV.out; omega
        have h17 : a ≤ 16 := by have := HU.out; omega
        have : b * (t / b) ≤ 16 * 15 := Nat.mul_le_mul h16 (by omega)
        omega
      rw [htr] at hr hsr p1 p2 hS hG
      rw [hr] at p1 hS hG
      rw [hsr] at p2 hS hG
      have hq1 : ((i : Int)).tdiv C = (t : Int) := by rw [HCd.out, Int.tdiv_eq_ediv_of_nonneg hi0, ← htr]; rfl
      have hq2 : ((t : Int)).tdiv W = (r : Int) := by rw [HV.out, Int.tdiv_eq_ediv_of_nonneg (by omega), ← hr]; rfl
      have hq3 : ((t : Int)).tmod W = (s : Int) := by rw [HV.out, Int.tmod_eq_emod_of_nonneg (by omega), ← hsr]; rfl
      have hwt : IntKind.i64.wrap (t : Int) = (t : Int) := IntWalk.i64_in _ (by omega)
      have hwr : IntKind.i64.wrap (r : Int) = (r : Int) := IntWalk.i64_in _ (by have := HU.out; omega)
      have hws : IntKind.i64.wrap (s : Int) = (s : Int) := IntWalk.i64_in _ (by have := HV.out; omega)
      have hC0 : ¬ C = 0 := by omega
      have hW0 : ¬ W = 0 := by omega
      have hrH : (r : Int) < H := by have := HU.out; omega
      have hsW : (s : Int) < W := by have := HV.out; omega
      have hr0 : (0 : Int) ≤ (r : Int) := by omega
      have hs0 : (0 : Int) ≤ (s : Int) := by omega
      have hrx : IntKind.i64.wrap ((r : Int) + x) = (r : Int) + x := IntWalk.i64_in _ (by omega)
      have hsy : IntKind.i64.wrap ((s : Int) + y) = (s : Int) + y := IntWalk.i64_in _ (by omega)
      clear hr hsr htr hvx hzx p1 p2 p3 htb
      go_wp2_with fail
      go_quiet (fail)
      clear hq1 hq2 hq3
      rcases (show ((r : Int) + x < 0) ∨ (0 ≤ (r : Int) + x ∧ H ≤ (r : Int) + x) ∨ (0 ≤ (r : Int) + x ∧ (r : Int) + x < H ∧ (s : Int) + y < 0) ∨ (0 ≤ (r : Int) + x ∧ (r : Int) + x < H ∧ 0 ≤ (s : Int) + y ∧ W ≤ (s : Int) + y) ∨ (0 ≤ (r : Int) + x ∧ (r : Int) + x < H ∧ 0 ≤ (s : Int) + y ∧ (s : Int) + y < W) by omega) with h1 | ⟨h1, h2⟩ | ⟨h1, h2, h3⟩ | ⟨h1, h2, h3, h4⟩ | ⟨h1, h2, h3, h4⟩
      · rw [hG (by omega)] at hcy
        clear hS hG
        generalize zs.getD i 0 = u at hcx
        go_wp2_with fail
        refine wp_region_held_drew (S := fun w' => w'.cell? ⟨w.heap.size, 3, none⟩ = some (.slice (some ⟨b1, off1, none⟩) n c) ∧ w'.cell? ⟨g6, 3, none⟩ = some (.slice (some ⟨b2, off2, none⟩) n c6) ∧ w'.cell? ⟨b1, off1 + i, none⟩ = some (.int .i8 u) ∧ w'.cell? ⟨b2, off2 + i, none⟩ = some (.int .i8 z)) (by kernel_rfl) ⟨tb3, tv3, hcx, hcy⟩ (fun hHeld => ?_)
        refine wpAnyH_take (i := 0) (oi := ({ dst := some 149, op := Op.move (Operand.tmp 23), type := 4, pos := "law.go:66", after := #[], guard := none } : Oper)) (v := ?_) rfl (by kernel_rfl) (by kernel_rfl) (by kernel_rfl) (fun _ _ _ h => h) (Or.inl ⟨by rfl, ?_⟩) (by assumption) ?_
        rotate_left
        · intro wS hSw
          first
            | (go_simp; done)
            | (go_simp; with_reducible rfl)
        try simp only [Act.put, List.setIfInBounds_toArray, List.set_cons_zero, List.set_cons_succ]
        refine wpAnyH_take (i := 1) (oi := ({ dst := some 150, op := Op.move (Operand.tmp 149), type := 4, pos := "law.go:66", after := #[{ on := 0, ground := Ground.data }], guard := none } : Oper)) (v := ?_) rfl (by kernel_rfl) (by kernel_rfl) (by kernel_rfl) (fun _ _ _ h => h) (Or.inl ⟨by rfl, ?_⟩) (by assumption) ?_
        rotate_left
        · intro wS hSw
          first
            | (go_simp; done)
            | (go_simp; with_reducible rfl)
        try simp only [Act.put, List.setIfInBounds_toArray, List.set_cons_zero, List.set_cons_succ]
        refine wpAnyH_take (i := 2) (oi := ({ dst := some 151, op := Op.fieldAddr 26 (Operand.tmp 17) 1, type := 0, pos := "law.go:66", after := #[{ on := 1, ground := Ground.guard }], guard := some (1, true) } : Oper)) (v := undef) rfl (by kernel_rfl) (by kernel_rfl) (by kernel_rfl) (fun _ _ _ h => h) (Or.inr ⟨by rfl, rfl⟩) (by assumption) ?_
        try simp only [Act.put, List.setIfInBounds_toArray, List.set_cons_zero, List.set_cons_succ]
        refine wpAnyH_take (i := 3) (oi := ({ dst := some 152, op := Op.load 24 (Operand.tmp 151), type := 24, pos := "law.go:66", after := #[{ on := 2, ground := Ground.data }, { on := 1, ground := Ground.guard }], guard := some (1, true) } : Oper)) (v := undef) rfl (by kernel_rfl) (by kernel_rfl) (by kernel_rfl) (fun _ _ _ h => h) (Or.inr ⟨by rfl, rfl⟩) (by assumption) ?_
        try simp only [Act.put, List.setIfInBounds_toArray, List.set_cons_zero, List.set_cons_succ]
        refine wpAnyH_take (i := 4) (oi := ({ dst := some 153, op := Op.move (Operand.tmp 20), type := 3, pos := "law.go:66", after := #[{ on := 1, ground := Ground.guard }], guard := some (1, true) } : Oper)) (v := undef) rfl (by kernel_rfl) (by kernel_rfl) (by kernel_rfl) (fun _ _ _ h => h) (Or.inr ⟨by rfl, rfl⟩) (by assumption) ?_
        try simp only [Act.put, List.setIfInBounds_toArray, List.set_cons_zero, List.set_cons_succ]
        refine wpAnyH_take (i := 5) (oi := ({ dst := some 154, op := Op.indexAddr 24 (Operand.tmp 152) (Operand.tmp 153), type := 0, pos := "law.go:66", after := #[{ on := 3, ground := Ground.data }, { on := 4, ground := Ground.data }, { on := 1, ground := Ground.guard }], guard := some (1, true) } : Oper)) (v := undef) rfl (by kernel_rfl) (by kernel_rfl) (by kernel_rfl) (fun _ _ _ h => h) (Or.inr ⟨by rfl, rfl⟩) (by assumption) ?_
        try simp only [Act.put, List.setIfInBounds_toArray, List.set_cons_zero, List.set_cons_succ]
        refine wpAnyH_take (i := 6) (oi := ({ dst := some 155, op := Op.load 27 (Operand.tmp 154), type := 27, pos := "law.go:66", after := #[{ on := 5, ground := Ground.data }, { on := 1, ground := Ground.guard }], guard := some (1, true) } : Oper)) (v := undef) rfl (by kernel_rfl) (by kernel_rfl) (by kernel_rfl) (fun _ _ _ h => h) (Or.inr ⟨by rfl, rfl⟩) (by assumption) ?_
        try simp only [Act.put, List.setIfInBounds_toArray, List.set_cons_zero, List.set_cons_succ]
        refine wpAnyH_take (i := 7) (oi := ({ dst := some 156, op := Op.fieldAddr 26 (Operand.tmp 4) 1, type := 0, pos := "law.go:66", after := #[{ on := 1, ground := Ground.guard }], guard := some (1, true) } : Oper)) (v := undef) rfl (by kernel_rfl) (by kernel_rfl) (by kernel_rfl) (fun _ _ _ h => h) (Or.inr ⟨by rfl, rfl⟩) (by assumption) ?_
        try simp only [Act.put, List.setIfInBounds_toArray, List.set_cons_zero, List.set_cons_succ]
        refine wpAnyH_take (i := 8) (oi := ({ dst := some 157, op := Op.load 24 (Operand.tmp 156), type := 24, pos := "law.go:66", after := #[{ on := 7, ground := Ground.data }, { on := 1, ground := Ground.guard }], guard := some (1, true) } : Oper)) (v := undef) rfl (by kernel_rfl) (by kernel_rfl) (by kernel_rfl) (fun _ _ _ h => h) (Or.inr ⟨by rfl, rfl⟩) (by assumption) ?_
        try simp only [Act.put, List.setIfInBounds_toArray, List.set_cons_zero, List.set_cons_succ]
        refine wpAnyH_take (i := 9) (oi := ({ dst := some 158, op := Op.move (Operand.tmp 20), type := 3, pos := "law.go:66", after := #[{ on := 1, ground := Ground.guard }], guard := some (1, true) } : Oper)) (v := undef) rfl (by kernel_rfl) (by kernel_rfl) (by kernel_rfl) (fun _ _ _ h => h) (Or.inr ⟨by rfl, rfl⟩) (by assumption) ?_
        try simp only [Act.put, List.setIfInBounds_toArray, List.set_cons_zero, List.set_cons_succ]
        refine wpAnyH_take (i := 10) (oi := ({ dst := some 159, op := Op.indexAddr 24 (Operand.tmp 157) (Operand.tmp 158), type := 0, pos := "law.go:66", after := #[{ on := 8, ground := Ground.data }, { on := 9, ground := Ground.data }, { on := 1, ground := Ground.guard }], guard := some (1, true) } : Oper)) (v := undef) rfl (by kernel_rfl) (by kernel_rfl) (by kernel_rfl) (fun _ _ _ h => h) (Or.inr ⟨by rfl, rfl⟩) (by assumption) ?_
        try simp only [Act.put, List.setIfInBounds_toArray, List.set_cons_zero, List.set_cons_succ]
        refine wpAnyH_take (i := 11) (oi := ({ dst := some 160, op := Op.load 27 (Operand.tmp 159), type := 27, pos := "law.go:66", after := #[{ on := 10, ground := Ground.data }, { on := 1, ground := Ground.guard }], guard := some (1, true) } : Oper)) (v := undef) rfl (by kernel_rfl) (by kernel_rfl) (by kernel_rfl) (fun _ _ _ h => h) (Or.inr ⟨by rfl, rfl⟩) (by assumption) ?_
        try simp only [Act.put, List.setIfInBounds_toArray, List.set_cons_zero, List.set_cons_succ]
        refine wpAnyH_take (i := 12) (oi := ({ dst := some 161, op := Op.binOp BinOp.neq 27 (Operand.tmp 155) (Operand.tmp 160) 27, type := 4, pos := "law.go:66", after := #[{ on := 6, ground := Ground.data }, { on := 11, ground := Ground.data }, { on := 1, ground := Ground.guard }], guard := some (1, true) } : Oper)) (v := undef) rfl (by kernel_rfl) (by kernel_rfl) (by kernel_rfl) (fun _ _ _ h => h) (Or.inr ⟨by rfl, rfl⟩) (by assumption) ?_
        try simp only [Act.put, List.setIfInBounds_toArray, List.set_cons_zero, List.set_cons_succ]
        refine wpAnyH_take (i := 13) (oi := ({ dst := some 162, op := Op.pick (Operand.tmp 150) (Operand.tmp 161) (Operand.const (Value.bool false)), type := 4, pos := "law.go:66", after := #[{ on := 1, ground := Ground.data }, { on := 12, ground := Ground.data }], guard := none } : Oper)) (v := ?_) rfl (by kernel_rfl) (by kernel_rfl) (by kernel_rfl) (fun _ _ _ h => h) (Or.inl ⟨by rfl, ?_⟩) (by assumption) ?_
        rotate_left
        · intro wS hSw
          first
            | (go_simp; done)
            | (go_simp; with_reducible rfl)
        try simp only [Act.put, List.setIfInBounds_toArray, List.set_cons_zero, List.set_cons_succ]
        refine wpAnyH_take (i := 14) (oi := ({ dst := some 163, op := Op.move (Operand.tmp 162), type := 4, pos := "law.go:66", after := #[{ on := 13, ground := Ground.data }, { on := 1, ground := Ground.chain }], guard := none } : Oper)) (v := ?_) rfl (by kernel_rfl) (by kernel_rfl) (by kernel_rfl) (fun _ _ _ h => h) (Or.inl ⟨by rfl, ?_⟩) (by assumption) ?_
        rotate_left
        · intro wS hSw
          first
            | (go_simp; done)
            | (go_simp; with_reducible rfl)
        try simp only [Act.put, List.setIfInBounds_toArray, List.set_cons_zero, List.set_cons_succ]
        refine wpAnyH_take (i := 15) (oi := ({ dst := some 164, op := Op.move (Operand.tmp 23), type := 4, pos := "law.go:66", after := #[{ on := 14, ground := Ground.guard }], guard := some (14, false) } : Oper)) (v := ?_) rfl (by kernel_rfl) (by kernel_rfl) (by kernel_rfl) (fun _ _ _ h => h) (Or.inl ⟨by rfl, ?_⟩) (by assumption) ?_
        rotate_left
        · intro wS hSw
          first
            | (go_simp; done)
            | (go_simp; with_reducible rfl)
        try simp only [Act.put, List.setIfInBounds_toArray, List.set_cons_zero, List.set_cons_succ]
        refine wpAnyH_take (i := 16) (oi := ({ dst := some 165, op := Op.unOp UnOp.not 4 (Operand.tmp 164), type := 4, pos := "law.go:66", after := #[{ on := 15, ground := Ground.data }, { on := 14, ground := Ground.guard }], guard := some (14, false) } : Oper)) (v := ?_) rfl (by kernel_rfl) (by kernel_rfl) (by kernel_rfl) (fun _ _ _ h => h) (Or.inl ⟨by rfl, ?_⟩) (by assumption) ?_
        rotate_left
        · intro wS hSw
          first
            | (go_simp; done)
            | (go_simp; with_reducible rfl)
        try simp only [Act.put, List.setIfInBounds_toArray, List.set_cons_zero, List.set_cons_succ]
        refine wpAnyH_take (i := 17) (oi := ({ dst := some 166, op := Op.move (Operand.tmp 165), type := 4, pos := "law.go:66", after := #[{ on := 16, ground := Ground.data }, { on := 14, ground := Ground.chain }, { on := 14, ground := Ground.guard }], guard := some (14, false) } : Oper)) (v := ?_) rfl (by kernel_rfl) (by kernel_rfl) (by kernel_rfl) (fun _ _ _ h => h) (Or.inl ⟨by rfl, ?_⟩) (by assumption) ?_
        rotate_left
        · intro wS hSw
          first
            | (go_simp; done)
            | (go_simp; with_reducible rfl)
        try simp only [Act.put, List.setIfInBounds_toArray, List.set_cons_zero, List.set_cons_succ]
        refine wpAnyH_take (i := 18) (oi := ({ dst := some 167, op := Op.fieldAddr 26 (Operand.tmp 17) 1, type := 0, pos := "law.go:66", after := #[{ on := 17, ground := Ground.guard }], guard := some (17, true) } : Oper)) (v := ?_) rfl (by kernel_rfl) (by kernel_rfl) (by kernel_rfl) (fun _ _ _ h => h) (Or.inl ⟨by rfl, ?_⟩) (by assumption) ?_
        rotate_left
        · intro wS hSw
          first
            | (go_simp; done)
            | (go_simp; with_reducible rfl)
        try simp only [Act.put, List.setIfInBounds_toArray, List.set_cons_zero, List.set_cons_succ]
        refine wpAnyH_take (i := 19) (oi := ({ dst := some 168, op := Op.load 24 (Operand.tmp 167), type := 24, pos := "law.go:66", after := #[{ on := 18, ground := Ground.data }, { on := 17, ground := Ground.guard }], guard := some (17, true) } : Oper)) (v := ?_) rfl (by kernel_rfl) (by kernel_rfl) (by kernel_rfl) (fun _ _ _ h => h) (Or.inl ⟨by rfl, ?_⟩) (by assumption) ?_
        rotate_left
        · intro wS hSw
          obtain ⟨u1, u2, u3, u4⟩ := hSw
          first
            | (go_simp; done)
            | (go_simp; with_reducible rfl)
        try simp only [Act.put, List.setIfInBounds_toArray, List.set_cons_zero, List.set_cons_succ]
        refine wpAnyH_take (i := 20) (oi := ({ dst := some 169, op := Op.move (Operand.tmp 20), type := 3, pos := "law.go:66", after := #[{ on := 17, ground := Ground.guard }], guard := some (17, true) } : Oper)) (v := ?_) rfl (by kernel_rfl) (by kernel_rfl) (by kernel_rfl) (fun _ _ _ h => h) (Or.inl ⟨by rfl, ?_⟩) (by assumption) ?_
        rotate_left
        · intro wS hSw
          first
            | (go_simp; done)
            | (go_simp; with_reducible rfl)
        try simp only [Act.put, List.setIfInBounds_toArray, List.set_cons_zero, List.set_cons_succ]
        refine wpAnyH_take (i := 21) (oi := ({ dst := some 170, op := Op.indexAddr 24 (Operand.tmp 168) (Operand.tmp 169), type := 0, pos := "law.go:66", after := #[{ on := 19, ground := Ground.data }, { on := 20, ground := Ground.data }, { on := 17, ground := Ground.guard }], guard := some (17, true) } : Oper)) (v := ?_) rfl (by kernel_rfl) (by kernel_rfl) (by kernel_rfl) (fun _ _ _ h => h) (Or.inl ⟨by rfl, ?_⟩) (by assumption) ?_
        rotate_left
        · intro wS hSw
          first
            | (go_simp; done)
            | (go_simp; with_reducible rfl)
        try simp only [Act.put, List.setIfInBounds_toArray, List.set_cons_zero, List.set_cons_succ]
        refine wpAnyH_take (i := 22) (oi := ({ dst := some 171, op := Op.load 27 (Operand.tmp 170), type := 27, pos := "law.go:66", after := #[{ on := 21, ground := Ground.data }, { on := 17, ground := Ground.guard }], guard := some (17, true) } : Oper)) (v := ?_) rfl (by kernel_rfl) (by kernel_rfl) (by kernel_rfl) (fun _ _ _ h => h) (Or.inl ⟨by rfl, ?_⟩) (by assumption) ?_
        rotate_left
        · intro wS hSw
          obtain ⟨u1, u2, u3, u4⟩ := hSw
          first
            | (go_simp; done)
            | (go_simp; with_reducible rfl)
        try simp only [Act.put, List.setIfInBounds_toArray, List.set_cons_zero, List.set_cons_succ]
        refine wpAnyH_take (i := 23) (oi := ({ dst := some 172, op := Op.move (Operand.tmp 2), type := 27, pos := "law.go:66", after := #[{ on := 17, ground := Ground.guard }], guard := some (17, true) } : Oper)) (v := ?_) rfl (by kernel_rfl) (by kernel_rfl) (by kernel_rfl) (fun _ _ _ h => h) (Or.inl ⟨by rfl, ?_⟩) (by assumption) ?_
        rotate_left
        · intro wS hSw
          first
            | (go_simp; done)
            | (go_simp; with_reducible rfl)
        try simp only [Act.put, List.setIfInBounds_toArray, List.set_cons_zero, List.set_cons_succ]
        refine wpAnyH_take (i := 24) (oi := ({ dst := some 173, op := Op.binOp BinOp.neq 27 (Operand.tmp 171) (Operand.tmp 172) 27, type := 4, pos := "law.go:66", after := #[{ on := 22, ground := Ground.data }, { on := 23, ground := Ground.data }, { on := 17, ground := Ground.guard }], guard := some (17, true) } : Oper)) (v := ?_) rfl (by kernel_rfl) (by kernel_rfl) (by kernel_rfl) (fun _ _ _ h => h) (Or.inl ⟨by rfl, ?_⟩) (by assumption) ?_
        rotate_left
        · intro wS hSw
          first
            | (go_simp; done)
            | (go_simp; with_reducible rfl)
        try simp only [Act.put, List.setIfInBounds_toArray, List.set_cons_zero, List.set_cons_succ]
        refine wpAnyH_take (i := 25) (oi := ({ dst := some 174, op := Op.pick (Operand.tmp 166) (Operand.tmp 173) (Operand.const (Value.bool false)), type := 4, pos := "law.go:66", after := #[{ on := 17, ground := Ground.data }, { on := 24, ground := Ground.data }, { on := 14, ground := Ground.guard }], guard := some (14, false) } : Oper)) (v := ?_) rfl (by kernel_rfl) (by kernel_rfl) (by kernel_rfl) (fun _ _ _ h => h) (Or.inl ⟨by rfl, ?_⟩) (by assumption) ?_
        rotate_left
        · intro wS hSw
          first
            | (go_simp; done)
            | (go_simp; with_reducible rfl)
        try simp only [Act.put, List.setIfInBounds_toArray, List.set_cons_zero, List.set_cons_succ]
        refine wpAnyH_take (i := 26) (oi := ({ dst := some 175, op := Op.pick (Operand.tmp 163) (Operand.const (Value.bool true)) (Operand.tmp 174), type := 4, pos := "law.go:66", after := #[{ on := 14, ground := Ground.data }, { on := 25, ground := Ground.data }], guard := none } : Oper)) (v := ?_) rfl (by kernel_rfl) (by kernel_rfl) (by kernel_rfl) (fun _ _ _ h => h) (Or.inl ⟨by rfl, ?_⟩) (by assumption) ?_
        rotate_left
        · intro wS hSw
          first
            | (go_simp; done)
            | (go_simp; with_reducible rfl)
        try simp only [Act.put, List.setIfInBounds_toArray, List.set_cons_zero, List.set_cons_succ]
        refine wpAnyH_done (by kernel_rfl) ?_ _
        clear hHeld
        go_wp2_with fail
        go_roundw
        case rel => exact ⟨i + 1, by omega, by go_num, Lib.hid (Kit.below_drewN hBr.out _).drew⟩
        case measure => simp [intOf]; omega
      · rw [hG (by omega)] at hcy
        clear hS hG
        generalize zs.getD i 0 = u at hcx
        go_wp2_with fail
        refine wp_region_held_drew (S := fun w' => w'.cell? ⟨w.heap.size, 3, none⟩ = some (.slice (some ⟨b1, off1, none⟩) n c) ∧ w'.cell? ⟨g6, 3, none⟩ = some (.slice (some ⟨b2, off2, none⟩) n c6) ∧ w'.cell? ⟨b1, off1 + i, none⟩ = some (.int .i8 u) ∧ w'.cell? ⟨b2, off2 + i, none⟩ = some (.int .i8 z)) (by kernel_rfl) ⟨tb3, tv3, hcx, hcy⟩ (fun hHeld => ?_)
        refine wpAnyH_take (i := 0) (oi := ({ dst := some 149, op := Op.move (Operand.tmp 23), type := 4, pos := "law.go:66", after := #[], guard := none } : Oper)) (v := ?_) rfl (by kernel_rfl) (by kernel_rfl) (by kernel_rfl) (fun _ _ _ h => h) (Or.inl ⟨by rfl, ?_⟩) (by assumption) ?_
        rotate_left
        · intro wS hSw
          first
            | (go_simp; done)
            | (go_simp; with_reducible rfl)
        try simp only [Act.put, List.setIfInBounds_toArray, List.set_cons_zero, List.set_cons_succ]
        refine wpAnyH_take (i := 1) (oi := ({ dst := some 150, op := Op.move (Operand.tmp 149), type := 4, pos := "law.go:66", after := #[{ on := 0, ground := Ground.data }], guard := none } : Oper)) (v := ?_) rfl (by kernel_rfl) (by kernel_rfl) (by kernel_rfl) (fun _ _ _ h => h) (Or.inl ⟨by rfl, ?_⟩) (by assumption) ?_
        rotate_left
        · intro wS hSw
          first
            | (go_simp; done)
            | (go_simp; with_reducible rfl)
        try simp only [Act.put, List.setIfInBounds_toArray, List.set_cons_zero, List.set_cons_succ]
        refine wpAnyH_take (i := 2) (oi := ({ dst := some 151, op := Op.fieldAddr 26 (Operand.tmp 17) 1, type := 0, pos := "law.go:66", after := #[{ on := 1, ground := Ground.guard }], guard := some (1, true) } : Oper)) (v := undef) rfl (by kernel_rfl) (by kernel_rfl) (by kernel_rfl) (fun _ _ _ h => h) (Or.inr ⟨by rfl, rfl⟩) (by assumption) ?_
        try simp only [Act.put, List.setIfInBounds_toArray, List.set_cons_zero, List.set_cons_succ]
        refine wpAnyH_take (i := 3) (oi := ({ dst := some 152, op := Op.load 24 (Operand.tmp 151), type := 24, pos := "law.go:66", after := #[{ on := 2, ground := Ground.data }, { on := 1, ground := Ground.guard }], guard := some (1, true) } : Oper)) (v := undef) rfl (by kernel_rfl) (by kernel_rfl) (by kernel_rfl) (fun _ _ _ h => h) (Or.inr ⟨by rfl, rfl⟩) (by assumption) ?_
        try simp only [Act.put, List.setIfInBounds_toArray, List.set_cons_zero, List.set_cons_succ]
        refine wpAnyH_take (i := 4) (oi := ({ dst := some 153, op := Op.move (Operand.tmp 20), type := 3, pos := "law.go:66", after := #[{ on := 1, ground := Ground.guard }], guard := some (1, true) } : Oper)) (v := undef) rfl (by kernel_rfl) (by kernel_rfl) (by kernel_rfl) (fun _ _ _ h => h) (Or.inr ⟨by rfl, rfl⟩) (by assumption) ?_
        try simp only [Act.put, List.setIfInBounds_toArray, List.set_cons_zero, List.set_cons_succ]
        refine wpAnyH_take (i := 5) (oi := ({ dst := some 154, op := Op.indexAddr 24 (Operand.tmp 152) (Operand.tmp 153), type := 0, pos := "law.go:66", after := #[{ on := 3, ground := Ground.data }, { on := 4, ground := Ground.data }, { on := 1, ground := Ground.guard }], guard := some (1, true) } : Oper)) (v := undef) rfl (by kernel_rfl) (by kernel_rfl) (by kernel_rfl) (fun _ _ _ h => h) (Or.inr ⟨by rfl, rfl⟩) (by assumption) ?_
        try simp only [Act.put, List.setIfInBounds_toArray, List.set_cons_zero, List.set_cons_succ]
        refine wpAnyH_take (i := 6) (oi := ({ dst := some 155, op := Op.load 27 (Operand.tmp 154), type := 27, pos := "law.go:66", after := #[{ on := 5, ground := Ground.data }, { on := 1, ground := Ground.guard }], guard := some (1, true) } : Oper)) (v := undef) rfl (by kernel_rfl) (by kernel_rfl) (by kernel_rfl) (fun _ _ _ h => h) (Or.inr ⟨by rfl, rfl⟩) (by assumption) ?_
        try simp only [Act.put, List.setIfInBounds_toArray, List.set_cons_zero, List.set_cons_succ]
        refine wpAnyH_take (i := 7) (oi := ({ dst := some 156, op := Op.fieldAddr 26 (Operand.tmp 4) 1, type := 0, pos := "law.go:66", after := #[{ on := 1, ground := Ground.guard }], guard := some (1, true) } : Oper)) (v := undef) rfl (by kernel_rfl) (by kernel_rfl) (by kernel_rfl) (fun _ _ _ h => h) (Or.inr ⟨by rfl, rfl⟩) (by assumption) ?_
        try simp only [Act.put, List.setIfInBounds_toArray, List.set_cons_zero, List.set_cons_succ]
        refine wpAnyH_take (i := 8) (oi := ({ dst := some 157, op := Op.load 24 (Operand.tmp 156), type := 24, pos := "law.go:66", after := #[{ on := 7, ground := Ground.data }, { on := 1, ground := Ground.guard }], guard := some (1, true) } : Oper)) (v := undef) rfl (by kernel_rfl) (by kernel_rfl) (by kernel_rfl) (fun _ _ _ h => h) (Or.inr ⟨by rfl, rfl⟩) (by assumption) ?_
        try simp only [Act.put, List.setIfInBounds_toArray, List.set_cons_zero, List.set_cons_succ]
        refine wpAnyH_take (i := 9) (oi := ({ dst := some 158, op := Op.move (Operand.tmp 20), type := 3, pos := "law.go:66", after := #[{ on := 1, ground := Ground.guard }], guard := some (1, true) } : Oper)) (v := undef) rfl (by kernel_rfl) (by kernel_rfl) (by kernel_rfl) (fun _ _ _ h => h) (Or.inr ⟨by rfl, rfl⟩) (by assumption) ?_
        try simp only [Act.put, List.setIfInBounds_toArray, List.set_cons_zero, List.set_cons_succ]
        refine wpAnyH_take (i := 10) (oi := ({ dst := some 159, op := Op.indexAddr 24 (Operand.tmp 157) (Operand.tmp 158), type := 0, pos := "law.go:66", after := #[{ on := 8, ground := Ground.data }, { on := 9, ground := Ground.data }, { on := 1, ground := Ground.guard }], guard := some (1, true) } : Oper)) (v := undef) rfl (by kernel_rfl) (by kernel_rfl) (by kernel_rfl) (fun _ _ _ h => h) (Or.inr ⟨by rfl, rfl⟩) (by assumption) ?_
        try simp only [Act.put, List.setIfInBounds_toArray, List.set_cons_zero, List.set_cons_succ]
        refine wpAnyH_take (i := 11) (oi := ({ dst := some 160, op := Op.load 27 (Operand.tmp 159), type := 27, pos := "law.go:66", after := #[{ on := 10, ground := Ground.data }, { on := 1, ground := Ground.guard }], guard := some (1, true) } : Oper)) (v := undef) rfl (by kernel_rfl) (by kernel_rfl) (by kernel_rfl) (fun _ _ _ h => h) (Or.inr ⟨by rfl, rfl⟩) (by assumption) ?_
        try simp only [Act.put, List.setIfInBounds_toArray, List.set_cons_zero, List.set_cons_succ]
        refine wpAnyH_take (i := 12) (oi := ({ dst := some 161, op := Op.binOp BinOp.neq 27 (Operand.tmp 155) (Operand.tmp 160) 27, type := 4, pos := "law.go:66", after := #[{ on := 6, ground := Ground.data }, { on := 11, ground := Ground.data }, { on := 1, ground := Ground.guard }], guard := some (1, true) } : Oper)) (v := undef) rfl (by kernel_rfl) (by kernel_rfl) (by kernel_rfl) (fun _ _ _ h => h) (Or.inr ⟨by rfl, rfl⟩) (by assumption) ?_
        try simp only [Act.put, List.setIfInBounds_toArray, List.set_cons_zero, List.set_cons_succ]
        refine wpAnyH_take (i := 13) (oi := ({ dst := some 162, op := Op.pick (Operand.tmp 150) (Operand.tmp 161) (Operand.const (Value.bool false)), type := 4, pos := "law.go:66", after := #[{ on := 1, ground := Ground.data }, { on := 12, ground := Ground.data }], guard := none } : Oper)) (v := ?_) rfl (by kernel_rfl) (by kernel_rfl) (by kernel_rfl) (fun _ _ _ h => h) (Or.inl ⟨by rfl, ?_⟩) (by assumption) ?_
        rotate_left
        · intro wS hSw
          first
            | (go_simp; done)
            | (go_simp; with_reducible rfl)
        try simp only [Act.put, List.setIfInBounds_toArray, List.set_cons_zero, List.set_cons_succ]
        refine wpAnyH_take (i := 14) (oi := ({ dst := some 163, op := Op.move (Operand.tmp 162), type := 4, pos := "law.go:66", after := #[{ on := 13, ground := Ground.data }, { on := 1, ground := Ground.chain }], guard := none } : Oper)) (v := ?_) rfl (by kernel_rfl) (by kernel_rfl) (by kernel_rfl) (fun _ _ _ h => h) (Or.inl ⟨by rfl, ?_⟩) (by assumption) ?_
        rotate_left
        · intro wS hSw
          first
            | (go_simp; done)
            | (go_simp; with_reducible rfl)
        try simp only [Act.put, List.setIfInBounds_toArray, List.set_cons_zero, List.set_cons_succ]
        refine wpAnyH_take (i := 15) (oi := ({ dst := some 164, op := Op.move (Operand.tmp 23), type := 4, pos := "law.go:66", after := #[{ on := 14, ground := Ground.guard }], guard := some (14, false) } : Oper)) (v := ?_) rfl (by kernel_rfl) (by kernel_rfl) (by kernel_rfl) (fun _ _ _ h => h) (Or.inl ⟨by rfl, ?_⟩) (by assumption) ?_
        rotate_left
        · intro wS hSw
          first
            | (go_simp; done)
            | (go_simp; with_reducible rfl)
        try simp only [Act.put, List.setIfInBounds_toArray, List.set_cons_zero, List.set_cons_succ]
        refine wpAnyH_take (i := 16) (oi := ({ dst := some 165, op := Op.unOp UnOp.not 4 (Operand.tmp 164), type := 4, pos := "law.go:66", after := #[{ on := 15, ground := Ground.data }, { on := 14, ground := Ground.guard }], guard := some (14, false) } : Oper)) (v := ?_) rfl (by kernel_rfl) (by kernel_rfl) (by kernel_rfl) (fun _ _ _ h => h) (Or.inl ⟨by rfl, ?_⟩) (by assumption) ?_
        rotate_left
        · intro wS hSw
          first
            | (go_simp; done)
            | (go_simp; with_reducible rfl)
        try simp only [Act.put, List.setIfInBounds_toArray, List.set_cons_zero, List.set_cons_succ]
        refine wpAnyH_take (i := 17) (oi := ({ dst := some 166, op := Op.move (Operand.tmp 165), type := 4, pos := "law.go:66", after := #[{ on := 16, ground := Ground.data }, { on := 14, ground := Ground.chain }, { on := 14, ground := Ground.guard }], guard := some (14, false) } : Oper)) (v := ?_) rfl (by kernel_rfl) (by kernel_rfl) (by kernel_rfl) (fun _ _ _ h => h) (Or.inl ⟨by rfl, ?_⟩) (by assumption) ?_
        rotate_left
        · intro wS hSw
          first
            | (go_simp; done)
            | (go_simp; with_reducible rfl)
        try simp only [Act.put, List.setIfInBounds_toArray, List.set_cons_zero, List.set_cons_succ]
        refine wpAnyH_take (i := 18) (oi := ({ dst := some 167, op := Op.fieldAddr 26 (Operand.tmp 17) 1, type := 0, pos := "law.go:66", after := #[{ on := 17, ground := Ground.guard }], guard := some (17, true) } : Oper)) (v := ?_) rfl (by kernel_rfl) (by kernel_rfl) (by kernel_rfl) (fun _ _ _ h => h) (Or.inl ⟨by rfl, ?_⟩) (by assumption) ?_
        rotate_left
        · intro wS hSw
          first
            | (go_simp; done)
            | (go_simp; with_reducible rfl)
        try simp only [Act.put, List.setIfInBounds_toArray, List.set_cons_zero, List.set_cons_succ]
        refine wpAnyH_take (i := 19) (oi := ({ dst := some 168, op := Op.load 24 (Operand.tmp 167), type := 24, pos := "law.go:66", after := #[{ on := 18, ground := Ground.data }, { on := 17, ground := Ground.guard }], guard := some (17, true) } : Oper)) (v := ?_) rfl (by kernel_rfl) (by kernel_rfl) (by kernel_rfl) (fun _ _ _ h => h) (Or.inl ⟨by rfl, ?_⟩) (by assumption) ?_
        rotate_left
        · intro wS hSw
          obtain ⟨u1, u2, u3, u4⟩ := hSw
          first
            | (go_simp; done)
            | (go_simp; with_reducible rfl)
        try simp only [Act.put, List.setIfInBounds_toArray, List.set_cons_zero, List.set_cons_succ]
        refine wpAnyH_take (i := 20) (oi := ({ dst := some 169, op := Op.move (Operand.tmp 20), type := 3, pos := "law.go:66", after := #[{ on := 17, ground := Ground.guard }], guard := some (17, true) } : Oper)) (v := ?_) rfl (by kernel_rfl) (by kernel_rfl) (by kernel_rfl) (fun _ _ _ h => h) (Or.inl ⟨by rfl, ?_⟩) (by assumption) ?_
        rotate_left
        · intro wS hSw
          first
            | (go_simp; done)
            | (go_simp; with_reducible rfl)
        try simp only [Act.put, List.setIfInBounds_toArray, List.set_cons_zero, List.set_cons_succ]
        refine wpAnyH_take (i := 21) (oi := ({ dst := some 170, op := Op.indexAddr 24 (Operand.tmp 168) (Operand.tmp 169), type := 0, pos := "law.go:66", after := #[{ on := 19, ground := Ground.data }, { on := 20, ground := Ground.data }, { on := 17, ground := Ground.guard }], guard := some (17, true) } : Oper)) (v := ?_) rfl (by kernel_rfl) (by kernel_rfl) (by kernel_rfl) (fun _ _ _ h => h) (Or.inl ⟨by rfl, ?_⟩) (by assumption) ?_
        rotate_left
        · intro wS hSw
          first
            | (go_simp; done)
            | (go_simp; with_reducible rfl)
        try simp only [Act.put, List.setIfInBounds_toArray, List.set_cons_zero, List.set_cons_succ]
        refine wpAnyH_take (i := 22) (oi := ({ dst := some 171, op := Op.load 27 (Operand.tmp 170), type := 27, pos := "law.go:66", after := #[{ on := 21, ground := Ground.data }, { on := 17, ground := Ground.guard }], guard := some (17, true) } : Oper)) (v := ?_) rfl (by kernel_rfl) (by kernel_rfl) (by kernel_rfl) (fun _ _ _ h => h) (Or.inl ⟨by rfl, ?_⟩) (by assumption) ?_
        rotate_left
        · intro wS hSw
          obtain ⟨u1, u2, u3, u4⟩ := hSw
          first
            | (go_simp; done)
            | (go_simp; with_reducible rfl)
        try simp only [Act.put, List.setIfInBounds_toArray, List.set_cons_zero, List.set_cons_succ]
        refine wpAnyH_take (i := 23) (oi := ({ dst := some 172, op := Op.move (Operand.tmp 2), type := 27, pos := "law.go:66", after := #[{ on := 17, ground := Ground.guard }], guard := some (17, true) } : Oper)) (v := ?_) rfl (by kernel_rfl) (by kernel_rfl) (by kernel_rfl) (fun _ _ _ h => h) (Or.inl ⟨by rfl, ?_⟩) (by assumption) ?_
        rotate_left
        · intro wS hSw
          first
            | (go_simp; done)
            | (go_simp; with_reducible rfl)
        try simp only [Act.put, List.setIfInBounds_toArray, List.set_cons_zero, List.set_cons_succ]
        refine wpAnyH_take (i := 24) (oi := ({ dst := some 173, op := Op.binOp BinOp.neq 27 (Operand.tmp 171) (Operand.tmp 172) 27, type := 4, pos := "law.go:66", after := #[{ on := 22, ground := Ground.data }, { on := 23, ground := Ground.data }, { on := 17, ground := Ground.guard }], guard := some (17, true) } : Oper)) (v := ?_) rfl (by kernel_rfl) (by kernel_rfl) (by kernel_rfl) (fun _ _ _ h => h) (Or.inl ⟨by rfl, ?_⟩) (by assumption) ?_
        rotate_left
        · intro wS hSw
          first
            | (go_simp; done)
            | (go_simp; with_reducible rfl)
        try simp only [Act.put, List.setIfInBounds_toArray, List.set_cons_zero, List.set_cons_succ]
        refine wpAnyH_take (i := 25) (oi := ({ dst := some 174, op := Op.pick (Operand.tmp 166) (Operand.tmp 173) (Operand.const (Value.bool false)), type := 4, pos := "law.go:66", after := #[{ on := 17, ground := Ground.data }, { on := 24, ground := Ground.data }, { on := 14, ground := Ground.guard }], guard := some (14, false) } : Oper)) (v := ?_) rfl (by kernel_rfl) (by kernel_rfl) (by kernel_rfl) (fun _ _ _ h => h) (Or.inl ⟨by rfl, ?_⟩) (by assumption) ?_
        rotate_left
        · intro wS hSw
          first
            | (go_simp; done)
            | (go_simp; with_reducible rfl)
        try simp only [Act.put, List.setIfInBounds_toArray, List.set_cons_zero, List.set_cons_succ]
        refine wpAnyH_take (i := 26) (oi := ({ dst := some 175, op := Op.pick (Operand.tmp 163) (Operand.const (Value.bool true)) (Operand.tmp 174), type := 4, pos := "law.go:66", after := #[{ on := 14, ground := Ground.data }, { on := 25, ground := Ground.data }], guard := none } : Oper)) (v := ?_) rfl (by kernel_rfl) (by kernel_rfl) (by kernel_rfl) (fun _ _ _ h => h) (Or.inl ⟨by rfl, ?_⟩) (by assumption) ?_
        rotate_left
        · intro wS hSw
          first
            | (go_simp; done)
            | (go_simp; with_reducible rfl)
        try simp only [Act.put, List.setIfInBounds_toArray, List.set_cons_zero, List.set_cons_succ]
        refine wpAnyH_done (by kernel_rfl) ?_ _
        clear hHeld
        go_wp2_with fail
        go_roundw
        case rel => exact ⟨i + 1, by omega, by go_num, Lib.hid (Kit.below_drewN hBr.out _).drew⟩
        case measure => simp [intOf]; omega
      · rw [hG (by omega)] at hcy
        clear hS hG
        generalize zs.getD i 0 = u at hcx
        go_wp2_with fail
        refine wp_region_held_drew (S := fun w' => w'.cell? ⟨w.heap.size, 3, none⟩ = some (.slice (some ⟨b1, off1, none⟩) n c) ∧ w'.cell? ⟨g6, 3, none⟩ = some (.slice (some ⟨b2, off2, none⟩) n c6) ∧ w'.cell? ⟨b1, off1 + i, none⟩ = some (.int .i8 u) ∧ w'.cell? ⟨b2, off2 + i, none⟩ = some (.int .i8 z)) (by kernel_rfl) ⟨tb3, tv3, hcx, hcy⟩ (fun hHeld => ?_)
        refine wpAnyH_take (i := 0) (oi := ({ dst := some 149, op := Op.move (Operand.tmp 23), type := 4, pos := "law.go:66", after := #[], guard := none } : Oper)) (v := ?_) rfl (by kernel_rfl) (by kernel_rfl) (by kernel_rfl) (fun _ _ _ h => h) (Or.inl ⟨by rfl, ?_⟩) (by assumption) ?_
        rotate_left
        · intro wS hSw
          first
            | (go_simp; done)
            | (go_simp; with_reducible rfl)
        try simp only [Act.put, List.setIfInBounds_toArray, List.set_cons_zero, List.set_cons_succ]
        refine wpAnyH_take (i := 1) (oi := ({ dst := some 150, op := Op.move (Operand.tmp 149), type := 4, pos := "law.go:66", after := #[{ on := 0, ground := Ground.data }], guard := none } : Oper)) (v := ?_) rfl (by kernel_rfl) (by kernel_rfl) (by kernel_rfl) (fun _ _ _ h => h) (Or.inl ⟨by rfl, ?_⟩) (by assumption) ?_
        rotate_left
        · intro wS hSw
          first
            | (go_simp; done)
            | (go_simp; with_reducible rfl)
        try simp only [Act.put, List.setIfInBounds_toArray, List.set_cons_zero, List.set_cons_succ]
        refine wpAnyH_take (i := 2) (oi := ({ dst := some 151, op := Op.fieldAddr 26 (Operand.tmp 17) 1, type := 0, pos := "law.go:66", after := #[{ on := 1, ground := Ground.guard }], guard := some (1, true) } : Oper)) (v := undef) rfl (by kernel_rfl) (by kernel_rfl) (by kernel_rfl) (fun _ _ _ h => h) (Or.inr ⟨by rfl, rfl⟩) (by assumption) ?_
        try simp only [Act.put, List.setIfInBounds_toArray, List.set_cons_zero, List.set_cons_succ]
        refine wpAnyH_take (i := 3) (oi := ({ dst := some 152, op := Op.load 24 (Operand.tmp 151), type := 24, pos := "law.go:66", after := #[{ on := 2, ground := Ground.data }, { on := 1, ground := Ground.guard }], guard := some (1, true) } : Oper)) (v := undef) rfl (by kernel_rfl) (by kernel_rfl) (by kernel_rfl) (fun _ _ _ h => h) (Or.inr ⟨by rfl, rfl⟩) (by assumption) ?_
        try simp only [Act.put, List.setIfInBounds_toArray, List.set_cons_zero, List.set_cons_succ]
        refine wpAnyH_take (i := 4) (oi := ({ dst := some 153, op := Op.move (Operand.tmp 20), type := 3, pos := "law.go:66", after := #[{ on := 1, ground := Ground.guard }], guard := some (1, true) } : Oper)) (v := undef) rfl (by kernel_rfl) (by kernel_rfl) (by kernel_rfl) (fun _ _ _ h => h) (Or.inr ⟨by rfl, rfl⟩) (by assumption) ?_
        try simp only [Act.put, List.setIfInBounds_toArray, List.set_cons_zero, List.set_cons_succ]
        refine wpAnyH_take (i := 5) (oi := ({ dst := some 154, op := Op.indexAddr 24 (Operand.tmp 152) (Operand.tmp 153), type := 0, pos := "law.go:66", after := #[{ on := 3, ground := Ground.data }, { on := 4, ground := Ground.data }, { on := 1, ground := Ground.guard }], guard := some (1, true) } : Oper)) (v := undef) rfl (by kernel_rfl) (by kernel_rfl) (by kernel_rfl) (fun _ _ _ h => h) (Or.inr ⟨by rfl, rfl⟩) (by assumption) ?_
        try simp only [Act.put, List.setIfInBounds_toArray, List.set_cons_zero, List.set_cons_succ]
        refine wpAnyH_take (i := 6) (oi := ({ dst := some 155, op := Op.load 27 (Operand.tmp 154), type := 27, pos := "law.go:66", after := #[{ on := 5, ground := Ground.data }, { on := 1, ground := Ground.guard }], guard := some (1, true) } : Oper)) (v := undef) rfl (by kernel_rfl) (by kernel_rfl) (by kernel_rfl) (fun _ _ _ h => h) (Or.inr ⟨by rfl, rfl⟩) (by assumption) ?_
        try simp only [Act.put, List.setIfInBounds_toArray, List.set_cons_zero, List.set_cons_succ]
        refine wpAnyH_take (i := 7) (oi := ({ dst := some 156, op := Op.fieldAddr 26 (Operand.tmp 4) 1, type := 0, pos := "law.go:66", after := #[{ on := 1, ground := Ground.guard }], guard := some (1, true) } : Oper)) (v := undef) rfl (by kernel_rfl) (by kernel_rfl) (by kernel_rfl) (fun _ _ _ h => h) (Or.inr ⟨by rfl, rfl⟩) (by assumption) ?_
        try simp only [Act.put, List.setIfInBounds_toArray, List.set_cons_zero, List.set_cons_succ]
        refine wpAnyH_take (i := 8) (oi := ({ dst := some 157, op := Op.load 24 (Operand.tmp 156), type := 24, pos := "law.go:66", after := #[{ on := 7, ground := Ground.data }, { on := 1, ground := Ground.guard }], guard := some (1, true) } : Oper)) (v := undef) rfl (by kernel_rfl) (by kernel_rfl) (by kernel_rfl) (fun _ _ _ h => h) (Or.inr ⟨by rfl, rfl⟩) (by assumption) ?_
        try simp only [Act.put, List.setIfInBounds_toArray, List.set_cons_zero, List.set_cons_succ]
        refine wpAnyH_take (i := 9) (oi := ({ dst := some 158, op := Op.move (Operand.tmp 20), type := 3, pos := "law.go:66", after := #[{ on := 1, ground := Ground.guard }], guard := some (1, true) } : Oper)) (v := undef) rfl (by kernel_rfl) (by kernel_rfl) (by kernel_rfl) (fun _ _ _ h => h) (Or.inr ⟨by rfl, rfl⟩) (by assumption) ?_
        try simp only [Act.put, List.setIfInBounds_toArray, List.set_cons_zero, List.set_cons_succ]
        refine wpAnyH_take (i := 10) (oi := ({ dst := some 159, op := Op.indexAddr 24 (Operand.tmp 157) (Operand.tmp 158), type := 0, pos := "law.go:66", after := #[{ on := 8, ground := Ground.data }, { on := 9, ground := Ground.data }, { on := 1, ground := Ground.guard }], guard := some (1, true) } : Oper)) (v := undef) rfl (by kernel_rfl) (by kernel_rfl) (by kernel_rfl) (fun _ _ _ h => h) (Or.inr ⟨by rfl, rfl⟩) (by assumption) ?_
        try simp only [Act.put, List.setIfInBounds_toArray, List.set_cons_zero, List.set_cons_succ]
        refine wpAnyH_take (i := 11) (oi := ({ dst := some 160, op := Op.load 27 (Operand.tmp 159), type := 27, pos := "law.go:66", after := #[{ on := 10, ground := Ground.data }, { on := 1, ground := Ground.guard }], guard := some (1, true) } : Oper)) (v := undef) rfl (by kernel_rfl) (by kernel_rfl) (by kernel_rfl) (fun _ _ _ h => h) (Or.inr ⟨by rfl, rfl⟩) (by assumption) ?_
        try simp only [Act.put, List.setIfInBounds_toArray, List.set_cons_zero, List.set_cons_succ]
        refine wpAnyH_take (i := 12) (oi := ({ dst := some 161, op := Op.binOp BinOp.neq 27 (Operand.tmp 155) (Operand.tmp 160) 27, type := 4, pos := "law.go:66", after := #[{ on := 6, ground := Ground.data }, { on := 11, ground := Ground.data }, { on := 1, ground := Ground.guard }], guard := some (1, true) } : Oper)) (v := undef) rfl (by kernel_rfl) (by kernel_rfl) (by kernel_rfl) (fun _ _ _ h => h) (Or.inr ⟨by rfl, rfl⟩) (by assumption) ?_
        try simp only [Act.put, List.setIfInBounds_toArray, List.set_cons_zero, List.set_cons_succ]
        refine wpAnyH_take (i := 13) (oi := ({ dst := some 162, op := Op.pick (Operand.tmp 150) (Operand.tmp 161) (Operand.const (Value.bool false)), type := 4, pos := "law.go:66", after := #[{ on := 1, ground := Ground.data }, { on := 12, ground := Ground.data }], guard := none } : Oper)) (v := ?_) rfl (by kernel_rfl) (by kernel_rfl) (by kernel_rfl) (fun _ _ _ h => h) (Or.inl ⟨by rfl, ?_⟩) (by assumption) ?_
        rotate_left
        · intro wS hSw
          first
            | (go_simp; done)
            | (go_simp; with_reducible rfl)
        try simp only [Act.put, List.setIfInBounds_toArray, List.set_cons_zero, List.set_cons_succ]
        refine wpAnyH_take (i := 14) (oi := ({ dst := some 163, op := Op.move (Operand.tmp 162), type := 4, pos := "law.go:66", after := #[{ on := 13, ground := Ground.data }, { on := 1, ground := Ground.chain }], guard := none } : Oper)) (v := ?_) rfl (by kernel_rfl) (by kernel_rfl) (by kernel_rfl) (fun _ _ _ h => h) (Or.inl ⟨by rfl, ?_⟩) (by assumption) ?_
        rotate_left
        · intro wS hSw
          first
            | (go_simp; done)
            | (go_simp; with_reducible rfl)
        try simp only [Act.put, List.setIfInBounds_toArray, List.set_cons_zero, List.set_cons_succ]
        refine wpAnyH_take (i := 15) (oi := ({ dst := some 164, op := Op.move (Operand.tmp 23), type := 4, pos := "law.go:66", after := #[{ on := 14, ground := Ground.guard }], guard := some (14, false) } : Oper)) (v := ?_) rfl (by kernel_rfl) (by kernel_rfl) (by kernel_rfl) (fun _ _ _ h => h) (Or.inl ⟨by rfl, ?_⟩) (by assumption) ?_
        rotate_left
        · intro wS hSw
          first
            | (go_simp; done)
            | (go_simp; with_reducible rfl)
        try simp only [Act.put, List.setIfInBounds_toArray, List.set_cons_zero, List.set_cons_succ]
        refine wpAnyH_take (i := 16) (oi := ({ dst := some 165, op := Op.unOp UnOp.not 4 (Operand.tmp 164), type := 4, pos := "law.go:66", after := #[{ on := 15, ground := Ground.data }, { on := 14, ground := Ground.guard }], guard := some (14, false) } : Oper)) (v := ?_) rfl (by kernel_rfl) (by kernel_rfl) (by kernel_rfl) (fun _ _ _ h => h) (Or.inl ⟨by rfl, ?_⟩) (by assumption) ?_
        rotate_left
        · intro wS hSw
          first
            | (go_simp; done)
            | (go_simp; with_reducible rfl)
        try simp only [Act.put, List.setIfInBounds_toArray, List.set_cons_zero, List.set_cons_succ]
        refine wpAnyH_take (i := 17) (oi := ({ dst := some 166, op := Op.move (Operand.tmp 165), type := 4, pos := "law.go:66", after := #[{ on := 16, ground := Ground.data }, { on := 14, ground := Ground.chain }, { on := 14, ground := Ground.guard }], guard := some (14, false) } : Oper)) (v := ?_) rfl (by kernel_rfl) (by kernel_rfl) (by kernel_rfl) (fun _ _ _ h => h) (Or.inl ⟨by rfl, ?_⟩) (by assumption) ?_
        rotate_left
        · intro wS hSw
          first
            | (go_simp; done)
            | (go_simp; with_reducible rfl)
        try simp only [Act.put, List.setIfInBounds_toArray, List.set_cons_zero, List.set_cons_succ]
        refine wpAnyH_take (i := 18) (oi := ({ dst := some 167, op := Op.fieldAddr 26 (Operand.tmp 17) 1, type := 0, pos := "law.go:66", after := #[{ on := 17, ground := Ground.guard }], guard := some (17, true) } : Oper)) (v := ?_) rfl (by kernel_rfl) (by kernel_rfl) (by kernel_rfl) (fun _ _ _ h => h) (Or.inl ⟨by rfl, ?_⟩) (by assumption) ?_
        rotate_left
        · intro wS hSw
          first
            | (go_simp; done)
            | (go_simp; with_reducible rfl)
        try simp only [Act.put, List.setIfInBounds_toArray, List.set_cons_zero, List.set_cons_succ]
        refine wpAnyH_take (i := 19) (oi := ({ dst := some 168, op := Op.load 24 (Operand.tmp 167), type := 24, pos := "law.go:66", after := #[{ on := 18, ground := Ground.data }, { on := 17, ground := Ground.guard }], guard := some (17, true) } : Oper)) (v := ?_) rfl (by kernel_rfl) (by kernel_rfl) (by kernel_rfl) (fun _ _ _ h => h) (Or.inl ⟨by rfl, ?_⟩) (by assumption) ?_
        rotate_left
        · intro wS hSw
          obtain ⟨u1, u2, u3, u4⟩ := hSw
          first
            | (go_simp; done)
            | (go_simp; with_reducible rfl)
        try simp only [Act.put, List.setIfInBounds_toArray, List.set_cons_zero, List.set_cons_succ]
        refine wpAnyH_take (i := 20) (oi := ({ dst := some 169, op := Op.move (Operand.tmp 20), type := 3, pos := "law.go:66", after := #[{ on := 17, ground := Ground.guard }], guard := some (17, true) } : Oper)) (v := ?_) rfl (by kernel_rfl) (by kernel_rfl) (by kernel_rfl) (fun _ _ _ h => h) (Or.inl ⟨by rfl, ?_⟩) (by assumption) ?_
        rotate_left
        · intro wS hSw
          first
            | (go_simp; done)
            | (go_simp; with_reducible rfl)
        try simp only [Act.put, List.setIfInBounds_toArray, List.set_cons_zero, List.set_cons_succ]
        refine wpAnyH_take (i := 21) (oi := ({ dst := some 170, op := Op.indexAddr 24 (Operand.tmp 168) (Operand.tmp 169), type := 0, pos := "law.go:66", after := #[{ on := 19, ground := Ground.data }, { on := 20, ground := Ground.data }, { on := 17, ground := Ground.guard }], guard := some (17, true) } : Oper)) (v := ?_) rfl (by kernel_rfl) (by kernel_rfl) (by kernel_rfl) (fun _ _ _ h => h) (Or.inl ⟨by rfl, ?_⟩) (by assumption) ?_
        rotate_left
        · intro wS hSw
          first
            | (go_simp; done)
            | (go_simp; with_reducible rfl)
        try simp only [Act.put, List.setIfInBounds_toArray, List.set_cons_zero, List.set_cons_succ]
        refine wpAnyH_take (i := 22) (oi := ({ dst := some 171, op := Op.load 27 (Operand.tmp 170), type := 27, pos := "law.go:66", after := #[{ on := 21, ground := Ground.data }, { on := 17, ground := Ground.guard }], guard := some (17, true) } : Oper)) (v := ?_) rfl (by kernel_rfl) (by kernel_rfl) (by kernel_rfl) (fun _ _ _ h => h) (Or.inl ⟨by rfl, ?_⟩) (by assumption) ?_
        rotate_left
        · intro wS hSw
          obtain ⟨u1, u2, u3, u4⟩ := hSw
          first
            | (go_simp; done)
            | (go_simp; with_reducible rfl)
        try simp only [Act.put, List.setIfInBounds_toArray, List.set_cons_zero, List.set_cons_succ]
        refine wpAnyH_take (i := 23) (oi := ({ dst := some 172, op := Op.move (Operand.tmp 2), type := 27, pos := "law.go:66", after := #[{ on := 17, ground := Ground.guard }], guard := some (17, true) } : Oper)) (v := ?_) rfl (by kernel_rfl) (by kernel_rfl) (by kernel_rfl) (fun _ _ _ h => h) (Or.inl ⟨by rfl, ?_⟩) (by assumption) ?_
        rotate_left
        · intro wS hSw
          first
            | (go_simp; done)
            | (go_simp; with_reducible rfl)
        try simp only [Act.put, List.setIfInBounds_toArray, List.set_cons_zero, List.set_cons_succ]
        refine wpAnyH_take (i := 24) (oi := ({ dst := some 173, op := Op.binOp BinOp.neq 27 (Operand.tmp 171) (Operand.tmp 172) 27, type := 4, pos := "law.go:66", after := #[{ on := 22, ground := Ground.data }, { on := 23, ground := Ground.data }, { on := 17, ground := Ground.guard }], guard := some (17, true) } : Oper)) (v := ?_) rfl (by kernel_rfl) (by kernel_rfl) (by kernel_rfl) (fun _ _ _ h => h) (Or.inl ⟨by rfl, ?_⟩) (by assumption) ?_
        rotate_left
        · intro wS hSw
          first
            | (go_simp; done)
            | (go_simp; with_reducible rfl)
        try simp only [Act.put, List.setIfInBounds_toArray, List.set_cons_zero, List.set_cons_succ]
        refine wpAnyH_take (i := 25) (oi := ({ dst := some 174, op := Op.pick (Operand.tmp 166) (Operand.tmp 173) (Operand.const (Value.bool false)), type := 4, pos := "law.go:66", after := #[{ on := 17, ground := Ground.data }, { on := 24, ground := Ground.data }, { on := 14, ground := Ground.guard }], guard := some (14, false) } : Oper)) (v := ?_) rfl (by kernel_rfl) (by kernel_rfl) (by kernel_rfl) (fun _ _ _ h => h) (Or.inl ⟨by rfl, ?_⟩) (by assumption) ?_
        rotate_left
        · intro wS hSw
          first
            | (go_simp; done)
            | (go_simp; with_reducible rfl)
        try simp only [Act.put, List.setIfInBounds_toArray, List.set_cons_zero, List.set_cons_succ]
        refine wpAnyH_take (i := 26) (oi := ({ dst := some 175, op := Op.pick (Operand.tmp 163) (Operand.const (Value.bool true)) (Operand.tmp 174), type := 4, pos := "law.go:66", after := #[{ on := 14, ground := Ground.data }, { on := 25, ground := Ground.data }], guard := none } : Oper)) (v := ?_) rfl (by kernel_rfl) (by kernel_rfl) (by kernel_rfl) (fun _ _ _ h => h) (Or.inl ⟨by rfl, ?_⟩) (by assumption) ?_
        rotate_left
        · intro wS hSw
          first
            | (go_simp; done)
            | (go_simp; with_reducible rfl)
        try simp only [Act.put, List.setIfInBounds_toArray, List.set_cons_zero, List.set_cons_succ]
        refine wpAnyH_done (by kernel_rfl) ?_ _
        clear hHeld
        go_wp2_with fail
        go_roundw
        case rel => exact ⟨i + 1, by omega, by go_num, Lib.hid (Kit.below_drewN hBr.out _).drew⟩
        case measure => simp [intOf]; omega
      · have D4 := Lib.hid (show decide ((s : Int) + y < W) = false by simpa using h4)
        rw [hG (by omega)] at hcy
        clear hS hG
        generalize zs.getD i 0 = u at hcx
        go_wp2_with fail
        try rw [D4.out]
        refine wp_region_held_drew (S := fun w' => w'.cell? ⟨w.heap.size, 3, none⟩ = some (.slice (some ⟨b1, off1, none⟩) n c) ∧ w'.cell? ⟨g6, 3, none⟩ = some (.slice (some ⟨b2, off2, none⟩) n c6) ∧ w'.cell? ⟨b1, off1 + i, none⟩ = some (.int .i8 u) ∧ w'.cell? ⟨b2, off2 + i, none⟩ = some (.int .i8 z)) (by kernel_rfl) ⟨tb3, tv3, hcx, hcy⟩ (fun hHeld => ?_)
        refine wpAnyH_take (i := 0) (oi := ({ dst := some 149, op := Op.move (Operand.tmp 23), type := 4, pos := "law.go:66", after := #[], guard := none } : Oper)) (v := ?_) rfl (by kernel_rfl) (by kernel_rfl) (by kernel_rfl) (fun _ _ _ h => h) (Or.inl ⟨by rfl, ?_⟩) (by assumption) ?_
        rotate_left
        · intro wS hSw
          first
            | (go_simp; done)
            | (go_simp; with_reducible rfl)
        try simp only [Act.put, List.setIfInBounds_toArray, List.set_cons_zero, List.set_cons_succ]
        refine wpAnyH_take (i := 1) (oi := ({ dst := some 150, op := Op.move (Operand.tmp 149), type := 4, pos := "law.go:66", after := #[{ on := 0, ground := Ground.data }], guard := none } : Oper)) (v := ?_) rfl (by kernel_rfl) (by kernel_rfl) (by kernel_rfl) (fun _ _ _ h => h) (Or.inl ⟨by rfl, ?_⟩) (by assumption) ?_
        rotate_left
        · intro wS hSw
          first
            | (go_simp; done)
            | (go_simp; with_reducible rfl)
        try simp only [Act.put, List.setIfInBounds_toArray, List.set_cons_zero, List.set_cons_succ]
        refine wpAnyH_take (i := 2) (oi := ({ dst := some 151, op := Op.fieldAddr 26 (Operand.tmp 17) 1, type := 0, pos := "law.go:66", after := #[{ on := 1, ground := Ground.guard }], guard := some (1, true) } : Oper)) (v := undef) rfl (by kernel_rfl) (by kernel_rfl) (by kernel_rfl) (fun _ _ _ h => h) (Or.inr ⟨by rfl, rfl⟩) (by assumption) ?_
        try simp only [Act.put, List.setIfInBounds_toArray, List.set_cons_zero, List.set_cons_succ]
        refine wpAnyH_take (i := 3) (oi := ({ dst := some 152, op := Op.load 24 (Operand.tmp 151), type := 24, pos := "law.go:66", after := #[{ on := 2, ground := Ground.data }, { on := 1, ground := Ground.guard }], guard := some (1, true) } : Oper)) (v := undef) rfl (by kernel_rfl) (by kernel_rfl) (by kernel_rfl) (fun _ _ _ h => h) (Or.inr ⟨by rfl, rfl⟩) (by assumption) ?_
        try simp only [Act.put, List.setIfInBounds_toArray, List.set_cons_zero, List.set_cons_succ]
        refine wpAnyH_take (i := 4) (oi := ({ dst := some 153, op := Op.move (Operand.tmp 20), type := 3, pos := "law.go:66", after := #[{ on := 1, ground := Ground.guard }], guard := some (1, true) } : Oper)) (v := undef) rfl (by kernel_rfl) (by kernel_rfl) (by kernel_rfl) (fun _ _ _ h => h) (Or.inr ⟨by rfl, rfl⟩) (by assumption) ?_
        try simp only [Act.put, List.setIfInBounds_toArray, List.set_cons_zero, List.set_cons_succ]
        refine wpAnyH_take (i := 5) (oi := ({ dst := some 154, op := Op.indexAddr 24 (Operand.tmp 152) (Operand.tmp 153), type := 0, pos := "law.go:66", after := #[{ on := 3, ground := Ground.data }, { on := 4, ground := Ground.data }, { on := 1, ground := Ground.guard }], guard := some (1, true) } : Oper)) (v := undef) rfl (by kernel_rfl) (by kernel_rfl) (by kernel_rfl) (fun _ _ _ h => h) (Or.inr ⟨by rfl, rfl⟩) (by assumption) ?_
        try simp only [Act.put, List.setIfInBounds_toArray, List.set_cons_zero, List.set_cons_succ]
        refine wpAnyH_take (i := 6) (oi := ({ dst := some 155, op := Op.load 27 (Operand.tmp 154), type := 27, pos := "law.go:66", after := #[{ on := 5, ground := Ground.data }, { on := 1, ground := Ground.guard }], guard := some (1, true) } : Oper)) (v := undef) rfl (by kernel_rfl) (by kernel_rfl) (by kernel_rfl) (fun _ _ _ h => h) (Or.inr ⟨by rfl, rfl⟩) (by assumption) ?_
        try simp only [Act.put, List.setIfInBounds_toArray, List.set_cons_zero, List.set_cons_succ]
        refine wpAnyH_take (i := 7) (oi := ({ dst := some 156, op := Op.fieldAddr 26 (Operand.tmp 4) 1, type := 0, pos := "law.go:66", after := #[{ on := 1, ground := Ground.guard }], guard := some (1, true) } : Oper)) (v := undef) rfl (by kernel_rfl) (by kernel_rfl) (by kernel_rfl) (fun _ _ _ h => h) (Or.inr ⟨by rfl, rfl⟩) (by assumption) ?_
        try simp only [Act.put, List.setIfInBounds_toArray, List.set_cons_zero, List.set_cons_succ]
        refine wpAnyH_take (i := 8) (oi := ({ dst := some 157, op := Op.load 24 (Operand.tmp 156), type := 24, pos := "law.go:66", after := #[{ on := 7, ground := Ground.data }, { on := 1, ground := Ground.guard }], guard := some (1, true) } : Oper)) (v := undef) rfl (by kernel_rfl) (by kernel_rfl) (by kernel_rfl) (fun _ _ _ h => h) (Or.inr ⟨by rfl, rfl⟩) (by assumption) ?_
        try simp only [Act.put, List.setIfInBounds_toArray, List.set_cons_zero, List.set_cons_succ]
        refine wpAnyH_take (i := 9) (oi := ({ dst := some 158, op := Op.move (Operand.tmp 20), type := 3, pos := "law.go:66", after := #[{ on := 1, ground := Ground.guard }], guard := some (1, true) } : Oper)) (v := undef) rfl (by kernel_rfl) (by kernel_rfl) (by kernel_rfl) (fun _ _ _ h => h) (Or.inr ⟨by rfl, rfl⟩) (by assumption) ?_
        try simp only [Act.put, List.setIfInBounds_toArray, List.set_cons_zero, List.set_cons_succ]
        refine wpAnyH_take (i := 10) (oi := ({ dst := some 159, op := Op.indexAddr 24 (Operand.tmp 157) (Operand.tmp 158), type := 0, pos := "law.go:66", after := #[{ on := 8, ground := Ground.data }, { on := 9, ground := Ground.data }, { on := 1, ground := Ground.guard }], guard := some (1, true) } : Oper)) (v := undef) rfl (by kernel_rfl) (by kernel_rfl) (by kernel_rfl) (fun _ _ _ h => h) (Or.inr ⟨by rfl, rfl⟩) (by assumption) ?_
        try simp only [Act.put, List.setIfInBounds_toArray, List.set_cons_zero, List.set_cons_succ]
        refine wpAnyH_take (i := 11) (oi := ({ dst := some 160, op := Op.load 27 (Operand.tmp 159), type := 27, pos := "law.go:66", after := #[{ on := 10, ground := Ground.data }, { on := 1, ground := Ground.guard }], guard := some (1, true) } : Oper)) (v := undef) rfl (by kernel_rfl) (by kernel_rfl) (by kernel_rfl) (fun _ _ _ h => h) (Or.inr ⟨by rfl, rfl⟩) (by assumption) ?_
        try simp only [Act.put, List.setIfInBounds_toArray, List.set_cons_zero, List.set_cons_succ]
        refine wpAnyH_take (i := 12) (oi := ({ dst := some 161, op := Op.binOp BinOp.neq 27 (Operand.tmp 155) (Operand.tmp 160) 27, type := 4, pos := "law.go:66", after := #[{ on := 6, ground := Ground.data }, { on := 11, ground := Ground.data }, { on := 1, ground := Ground.guard }], guard := some (1, true) } : Oper)) (v := undef) rfl (by kernel_rfl) (by kernel_rfl) (by kernel_rfl) (fun _ _ _ h => h) (Or.inr ⟨by rfl, rfl⟩) (by assumption) ?_
        try simp only [Act.put, List.setIfInBounds_toArray, List.set_cons_zero, List.set_cons_succ]
        refine wpAnyH_take (i := 13) (oi := ({ dst := some 162, op := Op.pick (Operand.tmp 150) (Operand.tmp 161) (Operand.const (Value.bool false)), type := 4, pos := "law.go:66", after := #[{ on := 1, ground := Ground.data }, { on := 12, ground := Ground.data }], guard := none } : Oper)) (v := ?_) rfl (by kernel_rfl) (by kernel_rfl) (by kernel_rfl) (fun _ _ _ h => h) (Or.inl ⟨by rfl, ?_⟩) (by assumption) ?_
        rotate_left
        · intro wS hSw
          first
            | (go_simp; done)
            | (go_simp; with_reducible rfl)
        try simp only [Act.put, List.setIfInBounds_toArray, List.set_cons_zero, List.set_cons_succ]
        refine wpAnyH_take (i := 14) (oi := ({ dst := some 163, op := Op.move (Operand.tmp 162), type := 4, pos := "law.go:66", after := #[{ on := 13, ground := Ground.data }, { on := 1, ground := Ground.chain }], guard := none } : Oper)) (v := ?_) rfl (by kernel_rfl) (by kernel_rfl) (by kernel_rfl) (fun _ _ _ h => h) (Or.inl ⟨by rfl, ?_⟩) (by assumption) ?_
        rotate_left
        · intro wS hSw
          first
            | (go_simp; done)
            | (go_simp; with_reducible rfl)
        try simp only [Act.put, List.setIfInBounds_toArray, List.set_cons_zero, List.set_cons_succ]
        refine wpAnyH_take (i := 15) (oi := ({ dst := some 164, op := Op.move (Operand.tmp 23), type := 4, pos := "law.go:66", after := #[{ on := 14, ground := Ground.guard }], guard := some (14, false) } : Oper)) (v := ?_) rfl (by kernel_rfl) (by kernel_rfl) (by kernel_rfl) (fun _ _ _ h => h) (Or.inl ⟨by rfl, ?_⟩) (by assumption) ?_
        rotate_left
        · intro wS hSw
          first
            | (go_simp; done)
            | (go_simp; with_reducible rfl)
        try simp only [Act.put, List.setIfInBounds_toArray, List.set_cons_zero, List.set_cons_succ]
        refine wpAnyH_take (i := 16) (oi := ({ dst := some 165, op := Op.unOp UnOp.not 4 (Operand.tmp 164), type := 4, pos := "law.go:66", after := #[{ on := 15, ground := Ground.data }, { on := 14, ground := Ground.guard }], guard := some (14, false) } : Oper)) (v := ?_) rfl (by kernel_rfl) (by kernel_rfl) (by kernel_rfl) (fun _ _ _ h => h) (Or.inl ⟨by rfl, ?_⟩) (by assumption) ?_
        rotate_left
        · intro wS hSw
          first
            | (go_simp; done)
            | (go_simp; with_reducible rfl)
        try simp only [Act.put, List.setIfInBounds_toArray, List.set_cons_zero, List.set_cons_succ]
        refine wpAnyH_take (i := 17) (oi := ({ dst := some 166, op := Op.move (Operand.tmp 165), type := 4, pos := "law.go:66", after := #[{ on := 16, ground := Ground.data }, { on := 14, ground := Ground.chain }, { on := 14, ground := Ground.guard }], guard := some (14, false) } : Oper)) (v := ?_) rfl (by kernel_rfl) (by kernel_rfl) (by kernel_rfl) (fun _ _ _ h => h) (Or.inl ⟨by rfl, ?_⟩) (by assumption) ?_
        rotate_left
        · intro wS hSw
          first
            | (go_simp; done)
            | (go_simp; with_reducible rfl)
        try simp only [Act.put, List.setIfInBounds_toArray, List.set_cons_zero, List.set_cons_succ]
        refine wpAnyH_take (i := 18) (oi := ({ dst := some 167, op := Op.fieldAddr 26 (Operand.tmp 17) 1, type := 0, pos := "law.go:66", after := #[{ on := 17, ground := Ground.guard }], guard := some (17, true) } : Oper)) (v := ?_) rfl (by kernel_rfl) (by kernel_rfl) (by kernel_rfl) (fun _ _ _ h => h) (Or.inl ⟨by rfl, ?_⟩) (by assumption) ?_
        rotate_left
        · intro wS hSw
          first
            | (go_simp; done)
            | (go_simp; with_reducible rfl)
        try simp only [Act.put, List.setIfInBounds_toArray, List.set_cons_zero, List.set_cons_succ]
        refine wpAnyH_take (i := 19) (oi := ({ dst := some 168, op := Op.load 24 (Operand.tmp 167), type := 24, pos := "law.go:66", after := #[{ on := 18, ground := Ground.data }, { on := 17, ground := Ground.guard }], guard := some (17, true) } : Oper)) (v := ?_) rfl (by kernel_rfl) (by kernel_rfl) (by kernel_rfl) (fun _ _ _ h => h) (Or.inl ⟨by rfl, ?_⟩) (by assumption) ?_
        rotate_left
        · intro wS hSw
          obtain ⟨u1, u2, u3, u4⟩ := hSw
          first
            | (go_simp; done)
            | (go_simp; with_reducible rfl)
        try simp only [Act.put, List.setIfInBounds_toArray, List.set_cons_zero, List.set_cons_succ]
        refine wpAnyH_take (i := 20) (oi := ({ dst := some 169, op := Op.move (Operand.tmp 20), type := 3, pos := "law.go:66", after := #[{ on := 17, ground := Ground.guard }], guard := some (17, true) } : Oper)) (v := ?_) rfl (by kernel_rfl) (by kernel_rfl) (by kernel_rfl) (fun _ _ _ h => h) (Or.inl ⟨by rfl, ?_⟩) (by assumption) ?_
        rotate_left
        · intro wS hSw
          first
            | (go_simp; done)
            | (go_simp; with_reducible rfl)
        try simp only [Act.put, List.setIfInBounds_toArray, List.set_cons_zero, List.set_cons_succ]
        refine wpAnyH_take (i := 21) (oi := ({ dst := some 170, op := Op.indexAddr 24 (Operand.tmp 168) (Operand.tmp 169), type := 0, pos := "law.go:66", after := #[{ on := 19, ground := Ground.data }, { on := 20, ground := Ground.data }, { on := 17, ground := Ground.guard }], guard := some (17, true) } : Oper)) (v := ?_) rfl (by kernel_rfl) (by kernel_rfl) (by kernel_rfl) (fun _ _ _ h => h) (Or.inl ⟨by rfl, ?_⟩) (by assumption) ?_
        rotate_left
        · intro wS hSw
          first
            | (go_simp; done)
            | (go_simp; with_reducible rfl)
        try simp only [Act.put, List.setIfInBounds_toArray, List.set_cons_zero, List.set_cons_succ]
        refine wpAnyH_take (i := 22) (oi := ({ dst := some 171, op := Op.load 27 (Operand.tmp 170), type := 27, pos := "law.go:66", after := #[{ on := 21, ground := Ground.data }, { on := 17, ground := Ground.guard }], guard := some (17, true) } : Oper)) (v := ?_) rfl (by kernel_rfl) (by kernel_rfl) (by kernel_rfl) (fun _ _ _ h => h) (Or.inl ⟨by rfl, ?_⟩) (by assumption) ?_
        rotate_left
        · intro wS hSw
          obtain ⟨u1, u2, u3, u4⟩ := hSw
          first
            | (go_simp; done)
            | (go_simp; with_reducible rfl)
        try simp only [Act.put, List.setIfInBounds_toArray, List.set_cons_zero, List.set_cons_succ]
        refine wpAnyH_take (i := 23) (oi := ({ dst := some 172, op := Op.move (Operand.tmp 2), type := 27, pos := "law.go:66", after := #[{ on := 17, ground := Ground.guard }], guard := some (17, true) } : Oper)) (v := ?_) rfl (by kernel_rfl) (by kernel_rfl) (by kernel_rfl) (fun _ _ _ h => h) (Or.inl ⟨by rfl, ?_⟩) (by assumption) ?_
        rotate_left
        · intro wS hSw
          first
            | (go_simp; done)
            | (go_simp; with_reducible rfl)
        try simp only [Act.put, List.setIfInBounds_toArray, List.set_cons_zero, List.set_cons_succ]
        refine wpAnyH_take (i := 24) (oi := ({ dst := some 173, op := Op.binOp BinOp.neq 27 (Operand.tmp 171) (Operand.tmp 172) 27, type := 4, pos := "law.go:66", after := #[{ on := 22, ground := Ground.data }, { on := 23, ground := Ground.data }, { on := 17, ground := Ground.guard }], guard := some (17, true) } : Oper)) (v := ?_) rfl (by kernel_rfl) (by kernel_rfl) (by kernel_rfl) (fun _ _ _ h => h) (Or.inl ⟨by rfl, ?_⟩) (by assumption) ?_
        rotate_left
        · intro wS hSw
          first
            | (go_simp; done)
            | (go_simp; with_reducible rfl)
        try simp only [Act.put, List.setIfInBounds_toArray, List.set_cons_zero, List.set_cons_succ]
        refine wpAnyH_take (i := 25) (oi := ({ dst := some 174, op := Op.pick (Operand.tmp 166) (Operand.tmp 173) (Operand.const (Value.bool false)), type := 4, pos := "law.go:66", after := #[{ on := 17, ground := Ground.data }, { on := 24, ground := Ground.data }, { on := 14, ground := Ground.guard }], guard := some (14, false) } : Oper)) (v := ?_) rfl (by kernel_rfl) (by kernel_rfl) (by kernel_rfl) (fun _ _ _ h => h) (Or.inl ⟨by rfl, ?_⟩) (by assumption) ?_
        rotate_left
        · intro wS hSw
          first
            | (go_simp; done)
            | (go_simp; with_reducible rfl)
        try simp only [Act.put, List.setIfInBounds_toArray, List.set_cons_zero, List.set_cons_succ]
        refine wpAnyH_take (i := 26) (oi := ({ dst := some 175, op := Op.pick (Operand.tmp 163) (Operand.const (Value.bool true)) (Operand.tmp 174), type := 4, pos := "law.go:66", after := #[{ on := 14, ground := Ground.data }, { on := 25, ground := Ground.data }], guard := none } : Oper)) (v := ?_) rfl (by kernel_rfl) (by kernel_rfl) (by kernel_rfl) (fun _ _ _ h => h) (Or.inl ⟨by rfl, ?_⟩) (by assumption) ?_
        rotate_left
        · intro wS hSw
          first
            | (go_simp; done)
            | (go_simp; with_reducible rfl)
        try simp only [Act.put, List.setIfInBounds_toArray, List.set_cons_zero, List.set_cons_succ]
        refine wpAnyH_done (by kernel_rfl) ?_ _
        clear hHeld
        go_wp2_with fail
        go_roundw
        case rel => exact ⟨i + 1, by omega, by go_num, Lib.hid (Kit.below_drewN hBr.out _).drew⟩
        case measure => simp [intOf]; omega
      · have d1 : decide (0 ≤ (r : Int) + x) = true := by simpa using h1
        have d2 : decide ((r : Int) + x < H) = true := by simpa using h2
        have d3 : decide (0 ≤ (s : Int) + y) = true := by simpa using h3
        have d4 : decide ((s : Int) + y < W) = true := by simpa using h4
        have D1 := Lib.hid d1
        have D2 := Lib.hid d2
        have D3 := Lib.hid d3
        have D4 := Lib.hid d4
        clear d1 d2 d3 d4
        rw [hS h1 h2 h3 h4] at hcy
        clear hS hG
        generalize zs.getD i 0 = u at hcx hcy
        go_wp2_with fail
        try rw [D1.out]
        try rw [D2.out]
        try rw [D3.out]
        try rw [D4.out]
        refine wp_region_held_drew (S := fun w' => w'.cell? ⟨w.heap.size, 3, none⟩ = some (.slice (some ⟨b1, off1, none⟩) n c) ∧ w'.cell? ⟨g6, 3, none⟩ = some (.slice (some ⟨b2, off2, none⟩) n c6) ∧ w'.cell? ⟨b1, off1 + i, none⟩ = some (.int .i8 u) ∧ w'.cell? ⟨b2, off2 + i, none⟩ = some (.int .i8 u)) (by kernel_rfl) ⟨tb3, tv3, hcx, hcy⟩ (fun hHeld => ?_)
        refine wpAnyH_take (i := 0) (oi := ({ dst := some 149, op := Op.move (Operand.tmp 23), type := 4, pos := "law.go:66", after := #[], guard := none } : Oper)) (v := ?_) rfl (by kernel_rfl) (by kernel_rfl) (by kernel_rfl) (fun _ _ _ h => h) (Or.inl ⟨by rfl, ?_⟩) (by assumption) ?_
        rotate_left
        · intro wS hSw
          first
            | (go_simp; done)
            | (go_simp; with_reducible rfl)
        try simp only [Act.put, List.setIfInBounds_toArray, List.set_cons_zero, List.set_cons_succ]
        refine wpAnyH_take (i := 1) (oi := ({ dst := some 150, op := Op.move (Operand.tmp 149), type := 4, pos := "law.go:66", after := #[{ on := 0, ground := Ground.data }], guard := none } : Oper)) (v := ?_) rfl (by kernel_rfl) (by kernel_rfl) (by kernel_rfl) (fun _ _ _ h => h) (Or.inl ⟨by rfl, ?_⟩) (by assumption) ?_
        rotate_left
        · intro wS hSw
          first
            | (go_simp; done)
            | (go_simp; with_reducible rfl)
        try simp only [Act.put, List.setIfInBounds_toArray, List.set_cons_zero, List.set_cons_succ]
        refine wpAnyH_take (i := 2) (oi := ({ dst := some 151, op := Op.fieldAddr 26 (Operand.tmp 17) 1, type := 0, pos := "law.go:66", after := #[{ on := 1, ground := Ground.guard }], guard := some (1, true) } : Oper)) (v := ?_) rfl (by kernel_rfl) (by kernel_rfl) (by kernel_rfl) (fun _ _ _ h => h) (Or.inl ⟨by rfl, ?_⟩) (by assumption) ?_
        rotate_left
        · intro wS hSw
          first
            | (go_simp; done)
            | (go_simp; with_reducible rfl)
        try simp only [Act.put, List.setIfInBounds_toArray, List.set_cons_zero, List.set_cons_succ]
        refine wpAnyH_take (i := 3) (oi := ({ dst := some 152, op := Op.load 24 (Operand.tmp 151), type := 24, pos := "law.go:66", after := #[{ on := 2, ground := Ground.data }, { on := 1, ground := Ground.guard }], guard := some (1, true) } : Oper)) (v := ?_) rfl (by kernel_rfl) (by kernel_rfl) (by kernel_rfl) (fun _ _ _ h => h) (Or.inl ⟨by rfl, ?_⟩) (by assumption) ?_
        rotate_left
        · intro wS hSw
          obtain ⟨u1, u2, u3, u4⟩ := hSw
          first
            | (go_simp; done)
            | (go_simp; with_reducible rfl)
        try simp only [Act.put, List.setIfInBounds_toArray, List.set_cons_zero, List.set_cons_succ]
        refine wpAnyH_take (i := 4) (oi := ({ dst := some 153, op := Op.move (Operand.tmp 20), type := 3, pos := "law.go:66", after := #[{ on := 1, ground := Ground.guard }], guard := some (1, true) } : Oper)) (v := ?_) rfl (by kernel_rfl) (by kernel_rfl) (by kernel_rfl) (fun _ _ _ h => h) (Or.inl ⟨by rfl, ?_⟩) (by assumption) ?_
        rotate_left
        · intro wS hSw
          first
            | (go_simp; done)
            | (go_simp; with_reducible rfl)
        try simp only [Act.put, List.setIfInBounds_toArray, List.set_cons_zero, List.set_cons_succ]
        refine wpAnyH_take (i := 5) (oi := ({ dst := some 154, op := Op.indexAddr 24 (Operand.tmp 152) (Operand.tmp 153), type := 0, pos := "law.go:66", after := #[{ on := 3, ground := Ground.data }, { on := 4, ground := Ground.data }, { on := 1, ground := Ground.guard }], guard := some (1, true) } : Oper)) (v := ?_) rfl (by kernel_rfl) (by kernel_rfl) (by kernel_rfl) (fun _ _ _ h => h) (Or.inl ⟨by rfl, ?_⟩) (by assumption) ?_
        rotate_left
        · intro wS hSw
          first
            | (go_simp; done)
            | (go_simp; with_reducible rfl)
        try simp only [Act.put, List.setIfInBounds_toArray, List.set_cons_zero, List.set_cons_succ]
        refine wpAnyH_take (i := 6) (oi := ({ dst := some 155, op := Op.load 27 (Operand.tmp 154), type := 27, pos := "law.go:66", after := #[{ on := 5, ground := Ground.data }, { on := 1, ground := Ground.guard }], guard := some (1, true) } : Oper)) (v := ?_) rfl (by kernel_rfl) (by kernel_rfl) (by kernel_rfl) (fun _ _ _ h => h) (Or.inl ⟨by rfl, ?_⟩) (by assumption) ?_
        rotate_left
        · intro wS hSw
          obtain ⟨u1, u2, u3, u4⟩ := hSw
          first
            | (go_simp; done)
            | (go_simp; with_reducible rfl)
        try simp only [Act.put, List.setIfInBounds_toArray, List.set_cons_zero, List.set_cons_succ]
        refine wpAnyH_take (i := 7) (oi := ({ dst := some 156, op := Op.fieldAddr 26 (Operand.tmp 4) 1, type := 0, pos := "law.go:66", after := #[{ on := 1, ground := Ground.guard }], guard := some (1, true) } : Oper)) (v := ?_) rfl (by kernel_rfl) (by kernel_rfl) (by kernel_rfl) (fun _ _ _ h => h) (Or.inl ⟨by rfl, ?_⟩) (by assumption) ?_
        rotate_left
        · intro wS hSw
          first
            | (go_simp; done)
            | (go_simp; with_reducible rfl)
        try simp only [Act.put, List.setIfInBounds_toArray, List.set_cons_zero, List.set_cons_succ]
        refine wpAnyH_take (i := 8) (oi := ({ dst := some 157, op := Op.load 24 (Operand.tmp 156), type := 24, pos := "law.go:66", after := #[{ on := 7, ground := Ground.data }, { on := 1, ground := Ground.guard }], guard := some (1, true) } : Oper)) (v := ?_) rfl (by kernel_rfl) (by kernel_rfl) (by kernel_rfl) (fun _ _ _ h => h) (Or.inl ⟨by rfl, ?_⟩) (by assumption) ?_
        rotate_left
        · intro wS hSw
          obtain ⟨u1, u2, u3, u4⟩ := hSw
          first
            | (go_simp; done)
            | (go_simp; with_reducible rfl)
        try simp only [Act.put, List.setIfInBounds_toArray, List.set_cons_zero, List.set_cons_succ]
        refine wpAnyH_take (i := 9) (oi := ({ dst := some 158, op := Op.move (Operand.tmp 20), type := 3, pos := "law.go:66", after := #[{ on := 1, ground := Ground.guard }], guard := some (1, true) } : Oper)) (v := ?_) rfl (by kernel_rfl) (by kernel_rfl) (by kernel_rfl) (fun _ _ _ h => h) (Or.inl ⟨by rfl, ?_⟩) (by assumption) ?_
        rotate_left
        · intro wS hSw
          first
            | (go_simp; done)
            | (go_simp; with_reducible rfl)
        try simp only [Act.put, List.setIfInBounds_toArray, List.set_cons_zero, List.set_cons_succ]
        refine wpAnyH_take (i := 10) (oi := ({ dst := some 159, op := Op.indexAddr 24 (Operand.tmp 157) (Operand.tmp 158), type := 0, pos := "law.go:66", after := #[{ on := 8, ground := Ground.data }, { on := 9, ground := Ground.data }, { on := 1, ground := Ground.guard }], guard := some (1, true) } : Oper)) (v := ?_) rfl (by kernel_rfl) (by kernel_rfl) (by kernel_rfl) (fun _ _ _ h => h) (Or.inl ⟨by rfl, ?_⟩) (by assumption) ?_
        rotate_left
        · intro wS hSw
          first
            | (go_simp; done)
            | (go_simp; with_reducible rfl)
        try simp only [Act.put, List.setIfInBounds_toArray, List.set_cons_zero, List.set_cons_succ]
        refine wpAnyH_take (i := 11) (oi := ({ dst := some 160, op := Op.load 27 (Operand.tmp 159), type := 27, pos := "law.go:66", after := #[{ on := 10, ground := Ground.data }, { on := 1, ground := Ground.guard }], guard := some (1, true) } : Oper)) (v := ?_) rfl (by kernel_rfl) (by kernel_rfl) (by kernel_rfl) (fun _ _ _ h => h) (Or.inl ⟨by rfl, ?_⟩) (by assumption) ?_
        rotate_left
        · intro wS hSw
          obtain ⟨u1, u2, u3, u4⟩ := hSw
          first
            | (go_simp; done)
            | (go_simp; with_reducible rfl)
        try simp only [Act.put, List.setIfInBounds_toArray, List.set_cons_zero, List.set_cons_succ]
        refine wpAnyH_take (i := 12) (oi := ({ dst := some 161, op := Op.binOp BinOp.neq 27 (Operand.tmp 155) (Operand.tmp 160) 27, type := 4, pos := "law.go:66", after := #[{ on := 6, ground := Ground.data }, { on := 11, ground := Ground.data }, { on := 1, ground := Ground.guard }], guard := some (1, true) } : Oper)) (v := ?_) rfl (by kernel_rfl) (by kernel_rfl) (by kernel_rfl) (fun _ _ _ h => h) (Or.inl ⟨by rfl, ?_⟩) (by assumption) ?_
        rotate_left
        · intro wS hSw
          first
            | (go_simp; done)
            | (go_simp; with_reducible rfl)
        try simp only [Act.put, List.setIfInBounds_toArray, List.set_cons_zero, List.set_cons_succ]
        refine wpAnyH_take (i := 13) (oi := ({ dst := some 162, op := Op.pick (Operand.tmp 150) (Operand.tmp 161) (Operand.const (Value.bool false)), type := 4, pos := "law.go:66", after := #[{ on := 1, ground := Ground.data }, { on := 12, ground := Ground.data }], guard := none } : Oper)) (v := ?_) rfl (by kernel_rfl) (by kernel_rfl) (by kernel_rfl) (fun _ _ _ h => h) (Or.inl ⟨by rfl, ?_⟩) (by assumption) ?_
        rotate_left
        · intro wS hSw
          first
            | (go_simp; done)
            | (go_simp; with_reducible rfl)
        try simp only [Act.put, List.setIfInBounds_toArray, List.set_cons_zero, List.set_cons_succ]
        refine wpAnyH_take (i := 14) (oi := ({ dst := some 163, op := Op.move (Operand.tmp 162), type := 4, pos := "law.go:66", after := #[{ on := 13, ground := Ground.data }, { on := 1, ground := Ground.chain }], guard := none } : Oper)) (v := ?_) rfl (by kernel_rfl) (by kernel_rfl) (by kernel_rfl) (fun _ _ _ h => h) (Or.inl ⟨by rfl, ?_⟩) (by assumption) ?_
        rotate_left
        · intro wS hSw
          first
            | (go_simp; done)
            | (go_simp; with_reducible rfl)
        try simp only [Act.put, List.setIfInBounds_toArray, List.set_cons_zero, List.set_cons_succ]
        refine wpAnyH_take (i := 15) (oi := ({ dst := some 164, op := Op.move (Operand.tmp 23), type := 4, pos := "law.go:66", after := #[{ on := 14, ground := Ground.guard }], guard := some (14, false) } : Oper)) (v := ?_) rfl (by kernel_rfl) (by kernel_rfl) (by kernel_rfl) (fun _ _ _ h => h) (Or.inl ⟨by rfl, ?_⟩) (by assumption) ?_
        rotate_left
        · intro wS hSw
          first
            | (go_simp; done)
            | (go_simp; with_reducible rfl)
        try simp only [Act.put, List.setIfInBounds_toArray, List.set_cons_zero, List.set_cons_succ]
        refine wpAnyH_take (i := 16) (oi := ({ dst := some 165, op := Op.unOp UnOp.not 4 (Operand.tmp 164), type := 4, pos := "law.go:66", after := #[{ on := 15, ground := Ground.data }, { on := 14, ground := Ground.guard }], guard := some (14, false) } : Oper)) (v := ?_) rfl (by kernel_rfl) (by kernel_rfl) (by kernel_rfl) (fun _ _ _ h => h) (Or.inl ⟨by rfl, ?_⟩) (by assumption) ?_
        rotate_left
        · intro wS hSw
          first
            | (go_simp; done)
            | (go_simp; with_reducible rfl)
        try simp only [Act.put, List.setIfInBounds_toArray, List.set_cons_zero, List.set_cons_succ]
        refine wpAnyH_take (i := 17) (oi := ({ dst := some 166, op := Op.move (Operand.tmp 165), type := 4, pos := "law.go:66", after := #[{ on := 16, ground := Ground.data }, { on := 14, ground := Ground.chain }, { on := 14, ground := Ground.guard }], guard := some (14, false) } : Oper)) (v := ?_) rfl (by kernel_rfl) (by kernel_rfl) (by kernel_rfl) (fun _ _ _ h => h) (Or.inl ⟨by rfl, ?_⟩) (by assumption) ?_
        rotate_left
        · intro wS hSw
          first
            | (go_simp; done)
            | (go_simp; with_reducible rfl)
        try simp only [Act.put, List.setIfInBounds_toArray, List.set_cons_zero, List.set_cons_succ]
        refine wpAnyH_take (i := 18) (oi := ({ dst := some 167, op := Op.fieldAddr 26 (Operand.tmp 17) 1, type := 0, pos := "law.go:66", after := #[{ on := 17, ground := Ground.guard }], guard := some (17, true) } : Oper)) (v := undef) rfl (by kernel_rfl) (by kernel_rfl) (by kernel_rfl) (fun _ _ _ h => h) (Or.inr ⟨by rfl, rfl⟩) (by assumption) ?_
        try simp only [Act.put, List.setIfInBounds_toArray, List.set_cons_zero, List.set_cons_succ]
        refine wpAnyH_take (i := 19) (oi := ({ dst := some 168, op := Op.load 24 (Operand.tmp 167), type := 24, pos := "law.go:66", after := #[{ on := 18, ground := Ground.data }, { on := 17, ground := Ground.guard }], guard := some (17, true) } : Oper)) (v := undef) rfl (by kernel_rfl) (by kernel_rfl) (by kernel_rfl) (fun _ _ _ h => h) (Or.inr ⟨by rfl, rfl⟩) (by assumption) ?_
        try simp only [Act.put, List.setIfInBounds_toArray, List.set_cons_zero, List.set_cons_succ]
        refine wpAnyH_take (i := 20) (oi := ({ dst := some 169, op := Op.move (Operand.tmp 20), type := 3, pos := "law.go:66", after := #[{ on := 17, ground := Ground.guard }], guard := some (17, true) } : Oper)) (v := undef) rfl (by kernel_rfl) (by kernel_rfl) (by kernel_rfl) (fun _ _ _ h => h) (Or.inr ⟨by rfl, rfl⟩) (by assumption) ?_
        try simp only [Act.put, List.setIfInBounds_toArray, List.set_cons_zero, List.set_cons_succ]
        refine wpAnyH_take (i := 21) (oi := ({ dst := some 170, op := Op.indexAddr 24 (Operand.tmp 168) (Operand.tmp 169), type := 0, pos := "law.go:66", after := #[{ on := 19, ground := Ground.data }, { on := 20, ground := Ground.data }, { on := 17, ground := Ground.guard }], guard := some (17, true) } : Oper)) (v := undef) rfl (by kernel_rfl) (by kernel_rfl) (by kernel_rfl) (fun _ _ _ h => h) (Or.inr ⟨by rfl, rfl⟩) (by assumption) ?_
        try simp only [Act.put, List.setIfInBounds_toArray, List.set_cons_zero, List.set_cons_succ]
        refine wpAnyH_take (i := 22) (oi := ({ dst := some 171, op := Op.load 27 (Operand.tmp 170), type := 27, pos := "law.go:66", after := #[{ on := 21, ground := Ground.data }, { on := 17, ground := Ground.guard }], guard := some (17, true) } : Oper)) (v := undef) rfl (by kernel_rfl) (by kernel_rfl) (by kernel_rfl) (fun _ _ _ h => h) (Or.inr ⟨by rfl, rfl⟩) (by assumption) ?_
        try simp only [Act.put, List.setIfInBounds_toArray, List.set_cons_zero, List.set_cons_succ]
        refine wpAnyH_take (i := 23) (oi := ({ dst := some 172, op := Op.move (Operand.tmp 2), type := 27, pos := "law.go:66", after := #[{ on := 17, ground := Ground.guard }], guard := some (17, true) } : Oper)) (v := undef) rfl (by kernel_rfl) (by kernel_rfl) (by kernel_rfl) (fun _ _ _ h => h) (Or.inr ⟨by rfl, rfl⟩) (by assumption) ?_
        try simp only [Act.put, List.setIfInBounds_toArray, List.set_cons_zero, List.set_cons_succ]
        refine wpAnyH_take (i := 24) (oi := ({ dst := some 173, op := Op.binOp BinOp.neq 27 (Operand.tmp 171) (Operand.tmp 172) 27, type := 4, pos := "law.go:66", after := #[{ on := 22, ground := Ground.data }, { on := 23, ground := Ground.data }, { on := 17, ground := Ground.guard }], guard := some (17, true) } : Oper)) (v := undef) rfl (by kernel_rfl) (by kernel_rfl) (by kernel_rfl) (fun _ _ _ h => h) (Or.inr ⟨by rfl, rfl⟩) (by assumption) ?_
        try simp only [Act.put, List.setIfInBounds_toArray, List.set_cons_zero, List.set_cons_succ]
        refine wpAnyH_take (i := 25) (oi := ({ dst := some 174, op := Op.pick (Operand.tmp 166) (Operand.tmp 173) (Operand.const (Value.bool false)), type := 4, pos := "law.go:66", after := #[{ on := 17, ground := Ground.data }, { on := 24, ground := Ground.data }, { on := 14, ground := Ground.guard }], guard := some (14, false) } : Oper)) (v := ?_) rfl (by kernel_rfl) (by kernel_rfl) (by kernel_rfl) (fun _ _ _ h => h) (Or.inl ⟨by rfl, ?_⟩) (by assumption) ?_
        rotate_left
        · intro wS hSw
          first
            | (go_simp; done)
            | (go_simp; with_reducible rfl)
        try simp only [Act.put, List.setIfInBounds_toArray, List.set_cons_zero, List.set_cons_succ]
        refine wpAnyH_take (i := 26) (oi := ({ dst := some 175, op := Op.pick (Operand.tmp 163) (Operand.const (Value.bool true)) (Operand.tmp 174), type := 4, pos := "law.go:66", after := #[{ on := 14, ground := Ground.data }, { on := 25, ground := Ground.data }], guard := none } : Oper)) (v := ?_) rfl (by kernel_rfl) (by kernel_rfl) (by kernel_rfl) (fun _ _ _ h => h) (Or.inl ⟨by rfl, ?_⟩) (by assumption) ?_
        rotate_left
        · intro wS hSw
          first
            | (go_simp; done)
            | (go_simp; with_reducible rfl)
        try simp only [Act.put, List.setIfInBounds_toArray, List.set_cons_zero, List.set_cons_succ]
        refine wpAnyH_done (by kernel_rfl) ?_ _
        clear hHeld
        go_wp2_with fail
        go_roundw
        case rel => exact ⟨i + 1, by omega, by go_num, Lib.hid (Kit.below_drewN hBr.out _).drew⟩
        case measure => simp [intOf]; omega
    · obtain rfl : i = n := by omega
      go_wp2_with (go_at_call 6; (refine (known09 _).mono ?_); rintro e w7 ⟨rfl, hb⟩; (have HB := Lib.hid ((HBW.out.trans (hBr.out.mono HBW.out.size)).trans (hb.mono (Nat.le_trans HBW.out.size hBr.out.size)))); clear hb)
      go_ret
      exact ⟨rfl, HB.out⟩
theorem walk {w : World} (H : Int) (wH : (Lit.int .i64 H).wf = true) (W : Int) (wW : (Lit.int .i64 W).wf = true) (C : Int) (wC : (Lit.int .i64 C).wf = true) (A : Option Addr) (zs : List Int) (c : Nat) (hc : zs.length ≤ c) (hm : c ≤ maxLen) (hw : ∀ n ∈ zs, (Lit.int .i8 n).wf = true) (hr : Kit.Rd w w.heap.size A (zs.map (.int .i8)))
    (p : Int) (wp : (Lit.int .u8 p).wf = true) (z : Int) (wz : (Lit.int .i8 z).wf = true) (x : Int) (wx : (Lit.int .i8 x).wf = true) (y : Int) (wy : (Lit.int .i8 y).wf = true) :
    Calls Try.prog 5 #[.agg #[.int .i64 H, .int .i64 W, .int .i64 C, .slice A zs.length c], .int .u8 p, .int .i8 z, .agg #[.int .i8 x, .int .i8 y]] w fun e w' => e = .returned (.bool true) ∧ Below w.heap.size w w' := by
  have ⟨x1, x2⟩ : -128 ≤ x ∧ x ≤ 127 := by simpa [Lit.wf, IntKind.min, IntKind.max, IntKind.signed, IntKind.bits] using wx
  have ⟨y1, y2⟩ : -128 ≤ y ∧ y ≤ 127 := by simpa [Lit.wf, IntKind.min, IntKind.max, IntKind.signed, IntKind.bits] using wy
  have ⟨p1, p2⟩ : 0 ≤ p ∧ p ≤ 255 := by simpa [Lit.wf, IntKind.min, IntKind.max, IntKind.signed, IntKind.bits] using wp
  by_cases hl : 1024 < zs.length
  · exact walk_long H W C A _ c hl p z x y
  · cases ht : tensB H W C zs.length
    · exact walk_bad H W C A _ c (by omega) ht p z x y
    · cases hs : shapeB (H + 2 * (p % 5)) (W + 2 * (p % 5)) C
      · exact walk_no H W C A zs _ c rfl hc (by omega) hr ht p _ z x y p1 p2 rfl x1 x2 y1 y2 hs
      · exact walk_yes H W C A zs _ c rfl hc (by omega) hr ht p _ z x y p1 p2 rfl x1 x2 y1 y2 hs
/-! ### the frame: written by program -/
theorem own : ownKnob Try.prog.godebug = none := by kernel_rfl
theorem laid : laidOutB Try.prog = true := by kernel_rfl
theorem contract {H : Type} {enc : TypeId × Value → H} {W : World} {base : Nat} {args : Array Value} {ds gs : List (DataW H)} {before : List MemPlace}
    (hval0 : ∀ (j : Nat) t v, Try.f5.params[j]? = some t → args[j]? = some v → Value.okWide Try.prog W .any base t v)
    (hW : DataW.Whole enc Try.prog Try.f5.params.toList Rows.padBackSpec.vars false W args.toList ds gs before) :
    Calls Try.prog 5 args W fun e W' => e = .returned (.bool true) ∧ Below W.heap.size W W' := by
  have hval : ∀ (j : Nat) t v, Try.f5.params[j]? = some t → args[j]? = some v → Value.okWide Try.prog W .any base t v := hval0
  obtain ⟨p, q, hA0, hV, rfl, hfz, hnd⟩ := hW
  have hA : DataW.TrodAll enc Try.prog W 0 (fun _ => true) true Try.f5.params.toList args.toList ds p := hA0
  rw [Try.params5] at hA hval
  obtain ⟨v0, vs0, d0, ds0, p0, q0, hargs, rfl, rfl, h0, r0⟩ := trodAll_cons hA
  obtain ⟨v1, vs1, d1, ds1, p1, q1, rfl, rfl, rfl, h1, r1⟩ := trodAll_cons r0
  obtain ⟨v2, vs2, d2, ds2, p2, q2, rfl, rfl, rfl, h2, r2⟩ := trodAll_cons r1
  obtain ⟨v3, vs3, d3, ds3, p3, q3, rfl, rfl, rfl, h3, r3⟩ := trodAll_cons r2
  obtain ⟨rfl, rfl, rfl⟩ := trodAll_nil r3
  obtain rfl : args = #[v0, v1, v2, v3] := by cases args; simp_all
  clear hA0 hval0
  obtain ⟨x0, y0, t0, A0, z0, c0, rfl, wx0, wy0, wt0, hc0, hm0, hw0, hr0⟩ := Kit.open_tensor (s := 23) (d := 24) (e := 27) (i := 3) Try.underlying26 Try.underlying23 Try.underlying24 Try.underlying27 Try.underlying3 (by kernel_rfl) (by kernel_rfl) (by kernel_rfl) (by kernel_rfl) (by kernel_rfl) ⟨rfl, rfl, rfl, rfl⟩ ⟨rfl, rfl, rfl, rfl, rfl, rfl⟩ (hval 0 26 v0 rfl rfl) h0
  obtain ⟨a1, rfl, rfl, rfl, w1⟩ := open_int Try.underlying5 (hval 1 5 v1 rfl rfl) h1
  obtain ⟨a2, rfl, rfl, rfl, w2⟩ := open_int Try.underlying27 (hval 2 27 v2 rfl rfl) h2
  obtain ⟨cs3, rfl, hs3, hf3⟩ := Kit.open_array Try.underlying42 (by kernel_rfl) (by kernel_rfl) (hval 3 42 v3 rfl rfl) h3
  obtain ⟨u3_0, u3_1, rfl⟩ := Kit.size_2 hs3
  obtain ⟨a3_0, rfl, w3_0⟩ := Kit.flat_int Try.underlying27 (v := u3_0) rfl (hf3 0 (by decide))
  obtain ⟨a3_1, rfl, w3_1⟩ := Kit.flat_int Try.underlying27 (v := u3_1) rfl (hf3 1 (by decide))
  exact walk (w := W) x0 wx0 y0 wy0 t0 wt0 A0 z0 c0 hc0 hm0 hw0 hr0 a1 w1 a2 w2 a3_0 w3_0 a3_1 w3_1
theorem fnIs {H : Type} : ∀ ds : List (DataW H), ds.length = Try.f5.params.toList.length → Rows.padBackSpec.fn H ds = { results := [.lit (.bool true)], args := ds } := by
  intro ds h
  rw [Try.params5] at h
  match ds, h with
  | [d1, d2, d3, d4], _ => rfl
set_option maxRecDepth 100000 in
theorem lifted (os : Os) (started : os.Started) (H : Type) (enc : TypeId × Value → H) :
    ReturnsInHanded {} Try.checked os 5 .any (Rows.padBackSpec.pre6 enc Try.prog Try.f5 Rows.padBackRow.domain false) (Rows.padBackSpec.post enc Try.prog Try.f5 false true false false) := by
  refine returnsInHanded_of_change (C := Try.checked) own started (by kernel_rfl) Try.func5
    (ChangeSpec.witness6 (enc := enc) (C := Try.checked) false ⟨#[], #[.agg #[.int .i64 0, .int .i64 0, .int .i64 0, .slice none 0 0], .int .u8 0, .int .i8 0, .agg #[.int .i8 0, .int .i8 0]], []⟩ 8 (by kernel_rfl) (by kernel_rfl) (by kernel_rfl) (by kernel_rfl)) ?_
  intro W base args ds gs before hval hW _ _
  refine (contract hval hW).mono fun e W' ⟨he, hg⟩ => ?_
  subst he
  exact ⟨_, rfl, Kit.law_post (tb := 4) laid (by kernel_rfl) rfl (by kernel_rfl) Try.underlying4 fnIs hW hg⟩
theorem over : Rows.padBackRow.holds Try.pinned (OpenSpec.ofChange Rows.padBackSpec) :=
  OpenClaim.holds_of_wide 5 Try.f5 rfl rfl rfl rfl rfl rfl rfl ⟨rfl, rfl, rfl, rfl, rfl⟩ rfl rfl rfl rfl rfl (by kernel_rfl) Try.func5 (by kernel_rfl)
    (of_decide_eq_true (by kernel_rfl)) (by unfold Func.isWrapper; first | (rw [if_pos (by decide +kernel)]; kernel_rfl) | (rw [if_neg (by decide +kernel)]; exact ⟨rfl, rfl⟩))
    (fun os started H enc _ => lifted os started H enc)
/-- the statement. -/
theorem proved : Rows.PadBackSaid :=
  over
end Go.Proofs.Ytgoonenkcikkaaa.lawPadBack
