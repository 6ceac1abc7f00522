/- PadMove: any tensor that is moved by any rows and columns is that of the document; the call returns true and leaves its arguments as they were. No condition. -/
import Derived.Test.YtgoonenkcikkaaaPadBoth
import Derived.Test.YtgoonenkcikkaaaOpenTensor
namespace Go.Proofs.Ytgoonenkcikkaaa.lawPadMove
open Go Go.ChangeShapes Go.WideShapes Go.ChangeAt Go.RowKit
open Plain CSat CShape CTensor CPad
set_option linter.unusedVariables false

/-- what is moved by far is moved by twenty. -/
def Clamp (h P : Int) : Prop := (h < -20 ∧ P = -20) ∨ (-20 ≤ h ∧ h ≤ 20 ∧ P = h) ∨ (20 < h ∧ P = 20)
theorem clamp_if {h P : Int} (hP : Clamp h P) : (if 20 < (if h < -20 then -20 else h) then 20 else if h < -20 then -20 else h) = P := by
  rcases hP with ⟨a, rfl⟩ | ⟨a, b, rfl⟩ | ⟨a, rfl⟩ <;> (repeat' split) <;> omega
theorem wrap_clamp {i h P H : Int} (i0 : 0 ≤ i) (i1 : i < 16) (hH : H ≤ 16) (h1 : -9223372036854775808 ≤ h) (h2 : h ≤ 9223372036854775807) (hP : Clamp h P) :
    IntKind.i64.wrap (i - h) = i - P ∨ ((¬ (0 ≤ IntKind.i64.wrap (i - h) ∧ IntKind.i64.wrap (i - h) < H)) ∧ ¬ (0 ≤ i - P ∧ i - P < H)) := by
  rw [IntKind.wrap_i64]
  rcases hP with ⟨a, rfl⟩ | ⟨a, b, rfl⟩ | ⟨a, rfl⟩ <;> omega
theorem pix_clamp (zs : List Int) {H W C i j k h v P Q z : Int} (i0 : 0 ≤ i) (i1 : i < 16) (hH : H ≤ 16) (h1 : -9223372036854775808 ≤ h) (h2 : h ≤ 9223372036854775807) (hP : Clamp h P)
    (j0 : 0 ≤ j) (j1 : j < 16) (hW : W ≤ 16) (v1 : -9223372036854775808 ≤ v) (v2 : v ≤ 9223372036854775807) (hQ : Clamp v Q) :
    pixZ zs H W C (IntKind.i64.wrap (i - h)) (IntKind.i64.wrap (j - v)) k z = pixZ zs H W C (i - P) (j - Q) k z := by
  unfold pixZ
  rcases wrap_clamp i0 i1 hH h1 h2 hP with e1 | ⟨n1, m1⟩
  · rcases wrap_clamp j0 j1 hW v1 v2 hQ with e2 | ⟨n2, m2⟩
    · rw [e1, e2]
    · rw [if_neg (fun hh => n2 ⟨hh.2.2.1, hh.2.2.2⟩), if_neg (fun hh => m2 ⟨hh.2.2.1, hh.2.2.2⟩)]
  · rw [if_neg (fun hh => n1 ⟨hh.1, hh.2.1⟩), if_neg (fun hh => m1 ⟨hh.1, hh.2.1⟩)]
theorem walk_long {w : World} (H W C : Int) (A : Option Addr) (n c : Nat) (hl : 1024 < n) (p q z : Int) :
    Calls Try.prog 4 #[.agg #[.int .i64 H, .int .i64 W, .int .i64 C, .slice A n c], .int .i64 p, .int .i64 q, .int .i8 z] w fun e w' => e = .returned (.bool true) ∧ Below w.heap.size w w' := by
  have hlI : (1024 : Int) < (n : Int) := by omega
  go_enter Try.func4, Try.ntmps4
  go_wp2_with (go_at_call 6; (refine (known09 _).mono ?_); rintro e w1 ⟨rfl, hb1⟩; (have HB := Lib.hid ((((Below.refl w.heap.size w).alloc (Nat.le_refl _) _)).trans (hb1.mono (by simp)))); clear hb1)
  go_ret
  exact ⟨rfl, HB.out⟩
set_option maxHeartbeats 2000000 in
theorem walk_bad {w : World} (H W C : Int) (A : Option Addr) (n c : Nat) (hl : n ≤ 1024) (p q z : Int) (ht : tensB H W C n = false) :
    Calls Try.prog 4 #[.agg #[.int .i64 H, .int .i64 W, .int .i64 C, .slice A n c], .int .i64 p, .int .i64 q, .int .i8 z] w fun e w' => e = .returned (.bool true) ∧ Below w.heap.size w w' := by
  have hlI : (n : Int) ≤ 1024 := by omega
  have HT := Lib.hid ht
  clear ht
  go_enter Try.func4, Try.ntmps4
  go_wp2_with (first
        | (go_at_call 12
           have hal : Below w.heap.size w (w.alloc (.cells #[.int .i64 H, .int .i64 W, .int .i64 C, .slice A n c] 26)) := (Below.refl _ _).alloc (by first | exact Nat.le_refl _ | (simp; done) | (simp; omega)) _
           refine (move_err H W C A n c p q z HT.out _).mono ?_
           rintro e w1 ⟨v1, rfl, ho1, hb⟩
           have hh : Below w.heap.size w w1 := hal.trans (hb.mono hal.size)
           have qTB := (BoxAt.newq (H) (W) (C) (A) (n) (c) 26) w
           try simp only [World.size_alloc] at qTB
           have TB := Lib.hid (qTB.below (by first | (simp; done) | (simp; omega)) hb)
           have yTB : w.heap.size < w1.heap.size := by have := hb.size; simp at this; omega
           clear qTB
           have HBW : Hid (Below w.heap.size w w1) := Lib.hid hh
           obtain ⟨A1, c1, rfl, -, -, hrd1⟩ := Kit.own_rd ho1
           have RA1 := Lib.hid hrd1
           clear ho1 hrd1
           obtain ⟨tbp0, tbp1, tbp2, tbp3⟩ := TB.out
           clear hb hh hal)
        | (go_at_call 13
           have hal : Below w1.heap.size w1 (w1.alloc (.cells #[.int .i64 0, .int .i64 0, .int .i64 0, .slice A1 0 c1] 26)) := (Below.refl _ _).alloc (by first | exact Nat.le_refl _ | (simp; done) | (simp; omega)) _
           refine (refRight_to H W C A n c false HT.out _).mono ?_
           rintro e w2 ⟨rfl, hb⟩
           have hh : Below w1.heap.size w1 w2 := hal.trans (hb.mono hal.size)
           have qTA := (BoxAt.newq (0) (0) (0) (A1) (0) (c1) 26) w1
           try simp only [World.size_alloc] at qTA
           have TA := Lib.hid (qTA.below (by first | (simp; done) | (simp; omega)) hb)
           have yTA : w1.heap.size < w2.heap.size := by have := hb.size; simp at this; omega
           clear qTA
           replace TB := Lib.hid (TB.out.below yTB hh)
           replace yTB := Nat.lt_of_lt_of_le yTB hh.size
           replace RA1 := Lib.hid ((RA1.out.below hh).more hh.size)
           replace HBW := Lib.hid (HBW.out.trans (hh.mono HBW.out.size))
           clear tbp0 tbp1 tbp2 tbp3
           obtain ⟨tbp0, tbp1, tbp2, tbp3⟩ := TB.out
           obtain ⟨tap0, tap1, tap2, tap3⟩ := TA.out
           clear hb hh hal)
        | (go_at_call 10
           have hal : Below w2.heap.size w2 w2 := Below.refl _ _
           refine (refSame_to 0 0 0 A1 none [] [] 0 c1 0 rfl rfl (by omega) true (by decide) _ hal.size (Nat.zero_le _) (RA1.out.below hal) (Kit.Rd.nil (B := 0))).mono ?_
           rintro e w3 ⟨rfl, hb⟩
           have hh : Below w2.heap.size w2 w3 := hal.trans (hb.mono hal.size)
           replace TB := Lib.hid (TB.out.below yTB hh)
           replace yTB := Nat.lt_of_lt_of_le yTB hh.size
           replace TA := Lib.hid (TA.out.below yTA hh)
           replace yTA := Nat.lt_of_lt_of_le yTA hh.size
           replace RA1 := Lib.hid ((RA1.out.below hh).more hh.size)
           replace HBW := Lib.hid (HBW.out.trans (hh.mono HBW.out.size))
           clear tbp0 tbp1 tbp2 tbp3 tap0 tap1 tap2 tap3
           obtain ⟨tbp0, tbp1, tbp2, tbp3⟩ := TB.out
           obtain ⟨tap0, tap1, tap2, tap3⟩ := TA.out
           clear hb hh hal)
        | (go_at_call 6
           have hal : Below w3.heap.size w3 w3 := Below.refl _ _
           refine (known09 _).mono ?_
           rintro e w4 ⟨rfl, hb⟩
           have hh : Below w3.heap.size w3 w4 := hal.trans (hb.mono hal.size)
           replace TB := Lib.hid (TB.out.below yTB hh)
           replace yTB := Nat.lt_of_lt_of_le yTB hh.size
           replace TA := Lib.hid (TA.out.below yTA hh)
           replace yTA := Nat.lt_of_lt_of_le yTA hh.size
           replace RA1 := Lib.hid ((RA1.out.below hh).more hh.size)
           replace HBW := Lib.hid (HBW.out.trans (hh.mono HBW.out.size))
           clear tbp0 tbp1 tbp2 tbp3 tap0 tap1 tap2 tap3
           obtain ⟨tbp0, tbp1, tbp2, tbp3⟩ := TB.out
           obtain ⟨tap0, tap1, tap2, tap3⟩ := TA.out
           clear hb hh hal))
  go_ret
  exact ⟨rfl, HBW.out⟩
set_option maxRecDepth 100000 in
set_option maxHeartbeats 8000000 in
theorem walk_good {w : World} (H W C : Int) (A : Option Addr) (zs : List Int) (n c : Nat) (hn : zs.length = n) (hc : n ≤ c) (hl : n ≤ 1024) (hr : Kit.Rd w w.heap.size A (I8s zs)) (p q z P Q : Int) (ht : tensB H W C n = true)
    (p1 : -9223372036854775808 ≤ p) (p2 : p ≤ 9223372036854775807) (q1 : -9223372036854775808 ≤ q) (q2 : q ≤ 9223372036854775807) (hP : Clamp p P) (hQ : Clamp q Q) :
    Calls Try.prog 4 #[.agg #[.int .i64 H, .int .i64 W, .int .i64 C, .slice A n c], .int .i64 p, .int .i64 q, .int .i8 z] w fun e w' => e = .returned (.bool true) ∧ Below w.heap.size w w' := by
  have hlI : (n : Int) ≤ 1024 := by omega
  have hs : shapeB H W C = true := by simp only [tensB, Bool.and_eq_true] at ht; exact ht.1
  have hnn : (n : Int) = H * W * C := by simp only [tensB, Bool.and_eq_true, decide_eq_true_eq] at ht; exact ht.2
  obtain ⟨s1, s2, s3, s4, s5, s6, s7⟩ := shapeB_yes hs
  obtain ⟨a, ha⟩ : ∃ a : Nat, H = (a : Int) := ⟨H.toNat, by omega⟩
  obtain ⟨b, hb⟩ : ∃ b : Nat, W = (b : Int) := ⟨W.toNat, by omega⟩
  obtain ⟨d, hd⟩ : ∃ d : Nat, C = (d : Int) := ⟨C.toNat, by omega⟩
  have hm : a * b * d = n := by
    have : ((a * b * d : Nat) : Int) = (n : Int) := by rw [hnn, ha, hb, hd]; simp
    omega
  have ha16 : a ≤ 16 := by omega
  have hb16 : b ≤ 16 := by omega
  have hd16 : d ≤ 1024 := by omega
  have hn6 : n ≤ 1000000 := by omega
  have P1 : -20 ≤ P := by unfold Clamp at hP; omega
  have P2 : P ≤ 20 := by unfold Clamp at hP; omega
  have Q1 : -20 ≤ Q := by unfold Clamp at hQ; omega
  have Q2 : Q ≤ 20 := by unfold Clamp at hQ; omega
  obtain ⟨F, hF⟩ : ∃ F : Nat → Int, F = gridF b d (fun i j k => pixZ zs H W C ((i : Int) - P) ((j : Int) - Q) (k : Int) z) := ⟨_, rfl⟩
  have HF2 := Lib.hid (show ∀ i j k : Nat, i < a → j < b → k < d → pixZ zs H W C ((i : Int) - P) ((j : Int) - Q) (k : Int) z = F ((i * b + j) * d + k) from fun i j k hi hj hk => by rw [hF, grid_at b d _ hj hk])
  have HF1 := Lib.hid (show ∀ i j k : Nat, i < a → j < b → k < d → pixZ zs H W C (IntKind.i64.wrap ((i : Int) - p)) (IntKind.i64.wrap ((j : Int) - q)) (k : Int) z = F ((i * b + j) * d + k) from fun i j k hi hj hk => by
    rw [pix_clamp zs (by omega) (by omega) s2 p1 p2 hP (by omega) (by omega) s4 q1 q2 hQ]; exact HF2.out i j k hi hj hk)
  have HP := Lib.hid hP
  have HQ := Lib.hid hQ
  have HT := Lib.hid ht
  have HR := Lib.hid hr
  have HN := Lib.hid hn
  have HU := Lib.hid ha
  have HV := Lib.hid hb
  have HCd := Lib.hid hd
  have HM := Lib.hid hm
  clear hF hP hQ ht hr hn ha hb hd hm hs hnn s7
  go_enter Try.func4, Try.ntmps4
  go_wp2_with (first
    | (go_at_call 12
       have hal : Below w.heap.size w (w.alloc (.cells #[.int .i64 H, .int .i64 W, .int .i64 C, .slice A n c] 26)) := (Below.refl _ _).alloc (by first | exact Nat.le_refl _ | (simp; done) | (simp; omega)) _
       refine (move_yes H W C A zs n c p q z HN.out hc HT.out a b d HU.out HV.out HCd.out n HM.out F HF1.out (Bz := w.heap.size) _ hal.size (HR.out.below hal)).mono ?_
       rintro e w1 ⟨v1, rfl, ho1, hb⟩
       have hh : Below w.heap.size w w1 := hal.trans (hb.mono hal.size)
       have qTB := (BoxAt.newq (H) (W) (C) (A) (n) (c) 26) w
       try simp only [World.size_alloc] at qTB
       have TB := Lib.hid (qTB.below (by first | (simp; done) | (simp; omega)) hb)
       have yTB : w.heap.size < w1.heap.size := by have := hb.size; simp at this; omega
       clear qTB
       replace HR := Lib.hid ((HR.out.below hh).more hh.size)
       have HBW : Hid (Below w.heap.size w w1) := Lib.hid hh
       obtain ⟨A1, c1, rfl, -, -, hrd1⟩ := Kit.own_rd ho1
       have RA1 := Lib.hid hrd1
       clear ho1 hrd1
       obtain ⟨tbp0, tbp1, tbp2, tbp3⟩ := TB.out
       clear hb hh hal)
    | (go_at_call 13
       have hal : Below w1.heap.size w1 (w1.alloc (.cells #[.int .i64 H, .int .i64 W, .int .i64 C, .slice A1 n c1] 26)) := (Below.refl _ _).alloc (by first | exact Nat.le_refl _ | (simp; done) | (simp; omega)) _
       refine (refRight_to H W C A n c true HT.out _).mono ?_
       rintro e w2 ⟨rfl, hb⟩
       have hh : Below w1.heap.size w1 w2 := hal.trans (hb.mono hal.size)
       have qTA := (BoxAt.newq (H) (W) (C) (A1) (n) (c1) 26) w1
       try simp only [World.size_alloc] at qTA
       have TA := Lib.hid (qTA.below (by first | (simp; done) | (simp; omega)) hb)
       have yTA : w1.heap.size < w2.heap.size := by have := hb.size; simp at this; omega
       clear qTA
       replace TB := Lib.hid (TB.out.below yTB hh)
       replace yTB := Nat.lt_of_lt_of_le yTB hh.size
       replace HR := Lib.hid ((HR.out.below hh).more hh.size)
       replace RA1 := Lib.hid ((RA1.out.below hh).more hh.size)
       replace HBW := Lib.hid (HBW.out.trans (hh.mono HBW.out.size))
       clear tbp0 tbp1 tbp2 tbp3
       obtain ⟨tbp0, tbp1, tbp2, tbp3⟩ := TB.out
       obtain ⟨tap0, tap1, tap2, tap3⟩ := TA.out
       clear hb hh hal))
  clear tbp0 tbp1 tbp2 tbp3 tap0 tap1 tap2 tap3
  have HEP : Hid ((if 20 < (if p < -20 then -20 else p) then 20 else if p < -20 then -20 else p) = P) := Lib.hid (clamp_if HP.out)
  have HEQ : Hid ((if 20 < (if q < -20 then -20 else q) then 20 else if q < -20 then -20 else q) = Q) := Lib.hid (clamp_if HQ.out)
  all_goals
    refine wp_region_held_drew (S := fun w' => BoxAt w.heap.size H W C A n c w' ∧ BoxAt w1.heap.size H W C A1 n c1 w') (by kernel_rfl) ⟨TB.out.below yTB (Below.refl _ _).drew, TA.out.below yTA (Below.refl _ _).drew⟩ (fun hHeld => ?_)
    replace HBW := Lib.hid HBW.out.drew
    replace HR := Lib.hid HR.out.drew
    replace RA1 := Lib.hid RA1.out.drew
    have yTB : w.heap.size < w2.drew.heap.size := yTB
    have yTA : w1.heap.size < w2.drew.heap.size := yTA
    have hR8 : Hid (Kit.Rd w2.drew w2.drew.heap.size A (I8s zs)) := HR
    have hA8 : Hid (Kit.Rd w2.drew w2.drew.heap.size A1 (I8s (rowL F n))) := RA1
    clear HR RA1 TB TA
    generalize w2.drew = Wa at HBW yTB yTA hR8 hA8 hHeld ⊢
    refine wpAnyH_take (i := 0) (oi := ({ dst := some 37, op := Op.move (Operand.tmp 10), type := 29, pos := "law.go:41", after := #[], guard := none } : Oper)) (v := ?_) rfl (by kernel_rfl) (by kernel_rfl) (by kernel_rfl) (fun _ _ _ h => h) (Or.inl ⟨by rfl, ?_⟩) (by assumption) ?_
    rotate_left
    · intro wS hSw
      first
        | (go_simp; done)
        | (go_simp; with_reducible rfl)
    try simp only [Act.put, List.setIfInBounds_toArray, List.set_cons_zero, List.set_cons_succ]
    refine wpAnyH_take (i := 1) (oi := ({ dst := some 38, op := Op.binOp BinOp.eql 29 (Operand.tmp 37) (Operand.const (Value.int IntKind.i64 0)) 29, type := 4, pos := "law.go:41", after := #[{ on := 0, ground := Ground.data }], guard := none } : Oper)) (v := ?_) rfl (by kernel_rfl) (by kernel_rfl) (by kernel_rfl) (fun _ _ _ h => h) (Or.inl ⟨by rfl, ?_⟩) (by assumption) ?_
    rotate_left
    · intro wS hSw
      first
        | (go_simp; done)
        | (go_simp; with_reducible rfl)
    try simp only [Act.put, List.setIfInBounds_toArray, List.set_cons_zero, List.set_cons_succ]
    refine wpAnyH_take (i := 2) (oi := ({ dst := some 39, op := Op.move (Operand.tmp 38), type := 4, pos := "law.go:41", after := #[{ on := 1, ground := Ground.data }], guard := none } : Oper)) (v := ?_) rfl (by kernel_rfl) (by kernel_rfl) (by kernel_rfl) (fun _ _ _ h => h) (Or.inl ⟨by rfl, ?_⟩) (by assumption) ?_
    rotate_left
    · intro wS hSw
      first
        | (go_simp; done)
        | (go_simp; with_reducible rfl)
    try simp only [Act.put, List.setIfInBounds_toArray, List.set_cons_zero, List.set_cons_succ]
    refine wpAnyH_take (i := 3) (oi := ({ dst := some 40, op := Op.load 26 (Operand.tmp 9), type := 26, pos := "law.go:41", after := #[{ on := 2, ground := Ground.guard }], guard := some (2, true) } : Oper)) (v := ?_) rfl (by kernel_rfl) (by kernel_rfl) (by kernel_rfl) (fun _ _ _ h => h) (Or.inl ⟨by rfl, ?_⟩) (by assumption) ?_
    rotate_left
    · intro wS hSw
      obtain ⟨⟨s1, s2, s3, s4⟩, u1, u2, u3, u4⟩ := hSw
      first
        | (go_simp; done)
        | (go_simp; with_reducible rfl)
    try simp only [Act.put, List.setIfInBounds_toArray, List.set_cons_zero, List.set_cons_succ]
    refine wpAnyH_take (i := 4) (oi := ({ dst := some 41, op := Op.fieldAddr 26 (Operand.tmp 4) 0, type := 0, pos := "law.go:41", after := #[{ on := 2, ground := Ground.guard }], guard := some (2, true) } : Oper)) (v := ?_) rfl (by kernel_rfl) (by kernel_rfl) (by kernel_rfl) (fun _ _ _ h => h) (Or.inl ⟨by rfl, ?_⟩) (by assumption) ?_
    rotate_left
    · intro wS hSw
      first
        | (go_simp; done)
        | (go_simp; with_reducible rfl)
    try simp only [Act.put, List.setIfInBounds_toArray, List.set_cons_zero, List.set_cons_succ]
    refine wpAnyH_take (i := 5) (oi := ({ dst := some 42, op := Op.load 23 (Operand.tmp 41), type := 23, pos := "law.go:41", after := #[{ on := 4, ground := Ground.data }, { on := 2, ground := Ground.guard }], guard := some (2, true) } : Oper)) (v := ?_) rfl (by kernel_rfl) (by kernel_rfl) (by kernel_rfl) (fun _ _ _ h => h) (Or.inl ⟨by rfl, ?_⟩) (by assumption) ?_
    rotate_left
    · intro wS hSw
      obtain ⟨⟨s1, s2, s3, s4⟩, u1, u2, u3, u4⟩ := hSw
      first
        | (go_simp; done)
        | (go_simp; with_reducible rfl)
    try simp only [Act.put, List.setIfInBounds_toArray, List.set_cons_zero, List.set_cons_succ]
    refine wpAnyH_take (i := 6) (oi := ({ dst := some 43, op := Op.load 26 (Operand.tmp 4), type := 26, pos := "law.go:41", after := #[{ on := 2, ground := Ground.guard }], guard := some (2, true) } : Oper)) (v := ?_) rfl (by kernel_rfl) (by kernel_rfl) (by kernel_rfl) (fun _ _ _ h => h) (Or.inl ⟨by rfl, ?_⟩) (by assumption) ?_
    rotate_left
    · intro wS hSw
      obtain ⟨⟨s1, s2, s3, s4⟩, u1, u2, u3, u4⟩ := hSw
      first
        | (go_simp; done)
        | (go_simp; with_reducible rfl)
    try simp only [Act.put, List.setIfInBounds_toArray, List.set_cons_zero, List.set_cons_succ]
    refine wpAnyH_take (i := 7) (oi := ({ dst := some 44, op := Op.move (Operand.tmp 1), type := 3, pos := "law.go:41", after := #[{ on := 2, ground := Ground.guard }], guard := some (2, true) } : Oper)) (v := ?_) rfl (by kernel_rfl) (by kernel_rfl) (by kernel_rfl) (fun _ _ _ h => h) (Or.inl ⟨by rfl, ?_⟩) (by assumption) ?_
    rotate_left
    · intro wS hSw
      first
        | (go_simp; done)
        | (go_simp; with_reducible rfl)
    try simp only [Act.put, List.setIfInBounds_toArray, List.set_cons_zero, List.set_cons_succ]
    refine wpAnyH_take (i := 8) (oi := ({ dst := some 45, op := Op.call { callee := Callee.builtin Builtin.max, args := #[Operand.tmp 44, Operand.const (Value.int IntKind.i64 (-20))], argTypes := #[3, 3] }, type := 3, pos := "law.go:41", after := #[{ on := 7, ground := Ground.data }, { on := 2, ground := Ground.guard }], guard := some (2, true) } : Oper)) (v := ?_) rfl (by kernel_rfl) (by kernel_rfl) (by kernel_rfl) (fun _ _ _ h => h) (Or.inl ⟨by rfl, ?_⟩) (by assumption) ?_
    rotate_left
    · intro wS hSw
      first
        | (go_simp; done)
        | (go_simp; with_reducible rfl)
    try simp only [Act.put, List.setIfInBounds_toArray, List.set_cons_zero, List.set_cons_succ]
    refine wpAnyH_take (i := 9) (oi := ({ dst := some 46, op := Op.call { callee := Callee.builtin Builtin.min, args := #[Operand.tmp 45, Operand.const (Value.int IntKind.i64 20)], argTypes := #[3, 3] }, type := 3, pos := "law.go:41", after := #[{ on := 8, ground := Ground.data }, { on := 2, ground := Ground.guard }], guard := some (2, true) } : Oper)) (v := ?_) rfl (by kernel_rfl) (by kernel_rfl) (by kernel_rfl) (fun _ _ _ h => h) (Or.inl ⟨by rfl, ?_⟩) (by assumption) ?_
    rotate_left
    · intro wS hSw
      first
        | (go_simp; done)
        | (go_simp; with_reducible rfl)
    try simp only [Act.put, List.setIfInBounds_toArray, List.set_cons_zero, List.set_cons_succ]
    refine wpAnyH_take (i := 10) (oi := ({ dst := some 47, op := Op.move (Operand.tmp 2), type := 3, pos := "law.go:41", after := #[{ on := 2, ground := Ground.guard }], guard := some (2, true) } : Oper)) (v := ?_) rfl (by kernel_rfl) (by kernel_rfl) (by kernel_rfl) (fun _ _ _ h => h) (Or.inl ⟨by rfl, ?_⟩) (by assumption) ?_
    rotate_left
    · intro wS hSw
      first
        | (go_simp; done)
        | (go_simp; with_reducible rfl)
    try simp only [Act.put, List.setIfInBounds_toArray, List.set_cons_zero, List.set_cons_succ]
    refine wpAnyH_take (i := 11) (oi := ({ dst := some 48, op := Op.call { callee := Callee.builtin Builtin.max, args := #[Operand.tmp 47, Operand.const (Value.int IntKind.i64 (-20))], argTypes := #[3, 3] }, type := 3, pos := "law.go:41", after := #[{ on := 10, ground := Ground.data }, { on := 2, ground := Ground.guard }], guard := some (2, true) } : Oper)) (v := ?_) rfl (by kernel_rfl) (by kernel_rfl) (by kernel_rfl) (fun _ _ _ h => h) (Or.inl ⟨by rfl, ?_⟩) (by assumption) ?_
    rotate_left
    · intro wS hSw
      first
        | (go_simp; done)
        | (go_simp; with_reducible rfl)
    try simp only [Act.put, List.setIfInBounds_toArray, List.set_cons_zero, List.set_cons_succ]
    refine wpAnyH_take (i := 12) (oi := ({ dst := some 49, op := Op.call { callee := Callee.builtin Builtin.min, args := #[Operand.tmp 48, Operand.const (Value.int IntKind.i64 20)], argTypes := #[3, 3] }, type := 3, pos := "law.go:41", after := #[{ on := 11, ground := Ground.data }, { on := 2, ground := Ground.guard }], guard := some (2, true) } : Oper)) (v := ?_) rfl (by kernel_rfl) (by kernel_rfl) (by kernel_rfl) (fun _ _ _ h => h) (Or.inl ⟨by rfl, ?_⟩) (by assumption) ?_
    rotate_left
    · intro wS hSw
      first
        | (go_simp; done)
        | (go_simp; with_reducible rfl)
    try simp only [Act.put, List.setIfInBounds_toArray, List.set_cons_zero, List.set_cons_succ]
    refine wpAnyH_take (i := 13) (oi := ({ dst := some 50, op := Op.move (Operand.tmp 3), type := 27, pos := "law.go:41", after := #[{ on := 2, ground := Ground.guard }], guard := some (2, true) } : Oper)) (v := ?_) rfl (by kernel_rfl) (by kernel_rfl) (by kernel_rfl) (fun _ _ _ h => h) (Or.inl ⟨by rfl, ?_⟩) (by assumption) ?_
    rotate_left
    · intro wS hSw
      first
        | (go_simp; done)
        | (go_simp; with_reducible rfl)
    try simp only [Act.put, List.setIfInBounds_toArray, List.set_cons_zero, List.set_cons_succ]
    refine wpAnyH_ready (rs := [14]) (by kernel_rfl) (by simp) ?_
    refine AllReadyH.cons (o := ({ dst := some 51, op := Op.call { callee := Callee.value (Operand.func 14), args := #[Operand.tmp 42, Operand.tmp 43, Operand.tmp 46, Operand.tmp 49, Operand.tmp 50], argTypes := #[23, 26, 3, 3, 27] }, type := 26, pos := "law.go:41", after := #[{ on := 5, ground := Ground.data }, { on := 6, ground := Ground.data }, { on := 9, ground := Ground.data }, { on := 12, ground := Ground.data }, { on := 13, ground := Ground.data }, { on := 2, ground := Ground.chain }, { on := 2, ground := Ground.guard }], guard := some (2, true) } : Oper)) rfl (fun K hK => ?_) (AllReadyH.nil)
    go_simp
    rw [HEP.out, HEQ.out]
    go_at_call 14
    refine (refMove_to H W H W C A zs n c HN.out HT.out a b d HU.out HV.out HCd.out ha16 hb16 hd16 n HM.out hl P Q z P1 P2 Q1 Q2 F HF2.out (B := Wa.heap.size) _ (Nat.le_refl _) hR8.out).mono ?_
    rintro e Wb ⟨v2, rfl, ho2, hb2⟩
    obtain ⟨A2, c2, rfl, -, -, hrd2⟩ := Kit.own_rd ho2
    have RA2 := Lib.hid hrd2
    have hS1 := And.intro (hHeld.1.below (B' := _) yTB hb2) (hHeld.2.below (B' := _) yTA hb2)
    replace hA8 := Lib.hid ((hA8.out.below hb2).more hb2.size)
    replace HBW := Lib.hid (HBW.out.trans (hb2.mono HBW.out.size))
    replace yTB := Nat.lt_of_lt_of_le yTB hb2.size
    replace yTA := Nat.lt_of_lt_of_le yTA hb2.size
    clear hb2 hrd2 ho2 hHeld
    dsimp only
    refine hK.out _ _ ?_ (fun hHeld => ?_)
    · exact hS1
    clear hK K
    try simp only [Act.put, List.setIfInBounds_toArray, List.set_cons_zero, List.set_cons_succ]
    refine wpAnyH_ready (rs := [15]) (by kernel_rfl) (by simp) ?_
    refine AllReadyH.cons (o := ({ dst := some 52, op := Op.call { callee := Callee.value (Operand.func 10), args := #[Operand.tmp 40, Operand.tmp 51], argTypes := #[26, 26] }, type := 4, pos := "law.go:41", after := #[{ on := 3, ground := Ground.data }, { on := 14, ground := Ground.data }, { on := 14, ground := Ground.chain }, { on := 2, ground := Ground.guard }], guard := some (2, true) } : Oper)) rfl (fun K hK => ?_) (AllReadyH.nil)
    go_simp
    go_at_call 10
    refine (refSame_to H W C A1 A2 (rowL F n) (rowL F n) n c1 c2 (rowL_len _ _) (rowL_len _ _) hn6 true (by simp) _ (Nat.le_refl _) (Nat.le_refl _) hA8.out RA2.out).mono ?_
    rintro e Wc ⟨rfl, hb3⟩
    have hS1 := And.intro (hHeld.1.below (B' := _) yTB hb3) (hHeld.2.below (B' := _) yTA hb3)
    replace HBW := Lib.hid (HBW.out.trans (hb3.mono HBW.out.size))
    replace yTB := Nat.lt_of_lt_of_le yTB hb3.size
    replace yTA := Nat.lt_of_lt_of_le yTA hb3.size
    clear hb3 hHeld
    dsimp only
    refine hK.out _ _ ?_ (fun hHeld => ?_)
    · exact hS1
    clear hK K
    try simp only [Act.put, List.setIfInBounds_toArray, List.set_cons_zero, List.set_cons_succ]
    refine wpAnyH_take (i := 16) (oi := ({ dst := some 53, op := Op.pick (Operand.tmp 39) (Operand.tmp 52) (Operand.const (Value.bool false)), type := 4, pos := "law.go:41", after := #[{ on := 2, ground := Ground.data }, { on := 15, ground := Ground.data }], guard := none } : Oper)) (v := ?_) rfl (by kernel_rfl) (by kernel_rfl) (by kernel_rfl) (fun _ _ _ h => h) (Or.inl ⟨by rfl, ?_⟩) (by assumption) ?_
    rotate_left
    · intro wS hSw
      first
        | (go_simp; done)
        | (go_simp; with_reducible rfl)
    try simp only [Act.put, List.setIfInBounds_toArray, List.set_cons_zero, List.set_cons_succ]
    refine wpAnyH_take (i := 17) (oi := ({ dst := some 54, op := Op.move (Operand.tmp 53), type := 4, pos := "law.go:41", after := #[{ on := 16, ground := Ground.data }, { on := 15, ground := Ground.chain }], guard := none } : Oper)) (v := ?_) rfl (by kernel_rfl) (by kernel_rfl) (by kernel_rfl) (fun _ _ _ h => h) (Or.inl ⟨by rfl, ?_⟩) (by assumption) ?_
    rotate_left
    · intro wS hSw
      first
        | (go_simp; done)
        | (go_simp; with_reducible rfl)
    try simp only [Act.put, List.setIfInBounds_toArray, List.set_cons_zero, List.set_cons_succ]
    refine wpAnyH_ready (rs := [18]) (by kernel_rfl) (by simp) ?_
    refine AllReadyH.cons (o := ({ dst := some 55, op := Op.call { callee := Callee.value (Operand.func 6), args := #[], argTypes := #[] }, type := 4, pos := "law.go:41", after := #[{ on := 17, ground := Ground.chain }, { on := 17, ground := Ground.guard }], guard := some (17, true) } : Oper)) rfl (fun K hK => ?_) (AllReadyH.nil)
    go_simp
    go_at_call 6
    refine (known09 _).mono ?_
    rintro e Wd ⟨rfl, hb4⟩
    have hS1 := And.intro (hHeld.1.below (B' := _) yTB hb4) (hHeld.2.below (B' := _) yTA hb4)
    replace HBW := Lib.hid (HBW.out.trans (hb4.mono HBW.out.size))
    clear hb4 hHeld
    dsimp only
    refine hK.out _ _ ?_ (fun hHeld => ?_)
    · exact hS1
    clear hK K
    try simp only [Act.put, List.setIfInBounds_toArray, List.set_cons_zero, List.set_cons_succ]
    refine wpAnyH_take (i := 19) (oi := ({ dst := some 56, op := Op.pick (Operand.tmp 54) (Operand.tmp 55) (Operand.const (Value.bool false)), type := 4, pos := "law.go:41", after := #[{ on := 17, ground := Ground.data }, { on := 18, ground := Ground.data }], guard := none } : Oper)) (v := ?_) rfl (by kernel_rfl) (by kernel_rfl) (by kernel_rfl) (fun _ _ _ h => h) (Or.inl ⟨by rfl, ?_⟩) (by assumption) ?_
    rotate_left
    · intro wS hSw
      first
        | (go_simp; done)
        | (go_simp; with_reducible rfl)
    try simp only [Act.put, List.setIfInBounds_toArray, List.set_cons_zero, List.set_cons_succ]
    refine wpAnyH_take (i := 20) (oi := ({ dst := some 8, op := Op.assign (Operand.tmp 56), type := 4, pos := "law.go:41", after := #[{ on := 19, ground := Ground.data }, { on := 18, ground := Ground.chain }, { on := 0, ground := Ground.phase }, { on := 1, ground := Ground.phase }, { on := 2, ground := Ground.phase }, { on := 3, ground := Ground.phase }, { on := 4, ground := Ground.phase }, { on := 5, ground := Ground.phase }, { on := 6, ground := Ground.phase }, { on := 7, ground := Ground.phase }, { on := 8, ground := Ground.phase }, { on := 9, ground := Ground.phase }, { on := 10, ground := Ground.phase }, { on := 11, ground := Ground.phase }, { on := 12, ground := Ground.phase }, { on := 13, ground := Ground.phase }, { on := 14, ground := Ground.phase }, { on := 15, ground := Ground.phase }, { on := 16, ground := Ground.phase }, { on := 17, ground := Ground.phase }, { on := 18, ground := Ground.phase }, { on := 19, ground := Ground.phase }], guard := none } : Oper)) (v := ?_) rfl (by kernel_rfl) (by kernel_rfl) (by kernel_rfl) (fun _ _ _ h => h) (Or.inl ⟨by rfl, ?_⟩) (by assumption) ?_
    rotate_left
    · intro wS hSw
      first
        | (go_simp; done)
        | (go_simp; with_reducible rfl)
    try simp only [Act.put, List.setIfInBounds_toArray, List.set_cons_zero, List.set_cons_succ]
    refine wpAnyH_done (by kernel_rfl) ?_ _
    go_wp2_with fail
    all_goals
      go_ret
      exact ⟨rfl, HBW.out⟩
theorem clamp_is (h : Int) : ∃ P, Clamp h P := by
  by_cases h1 : h < -20
  · exact ⟨-20, .inl ⟨h1, rfl⟩⟩
  · by_cases h2 : h ≤ 20
    · exact ⟨h, .inr (.inl ⟨by omega, h2, rfl⟩)⟩
    · exact ⟨20, .inr (.inr ⟨by omega, rfl⟩)⟩
theorem walk {w : World} (H : Int) (wH : (Lit.int .i64 H).wf = true) (W : Int) (wW : (Lit.int .i64 W).wf = true) (C : Int) (wC : (Lit.int .i64 C).wf = true) (A : Option Addr) (zs : List Int) (c : Nat) (hc : zs.length ≤ c) (hm : c ≤ maxLen) (hw : ∀ n ∈ zs, (Lit.int .i8 n).wf = true) (hr : Kit.Rd w w.heap.size A (zs.map (.int .i8)))
    (p : Int) (wp : (Lit.int .i64 p).wf = true) (q : Int) (wq : (Lit.int .i64 q).wf = true) (z : Int) (wz : (Lit.int .i8 z).wf = true) :
    Calls Try.prog 4 #[.agg #[.int .i64 H, .int .i64 W, .int .i64 C, .slice A zs.length c], .int .i64 p, .int .i64 q, .int .i8 z] w fun e w' => e = .returned (.bool true) ∧ Below w.heap.size w w' := by
  have ⟨p1, p2⟩ : -9223372036854775808 ≤ p ∧ p ≤ 9223372036854775807 := by simpa [Lit.wf, IntKind.min, IntKind.max, IntKind.signed, IntKind.bits] using wp
  have ⟨q1, q2⟩ : -9223372036854775808 ≤ q ∧ q ≤ 9223372036854775807 := by simpa [Lit.wf, IntKind.min, IntKind.max, IntKind.signed, IntKind.bits] using wq
  by_cases hl : 1024 < zs.length
  · exact walk_long H W C A _ c hl p q z
  · cases ht : tensB H W C zs.length
    · exact walk_bad H W C A _ c (by omega) p q z ht
    · obtain ⟨P, hP⟩ := clamp_is p
      obtain ⟨Q, hQ⟩ := clamp_is q
      exact walk_good H W C A zs _ c rfl hc (by omega) hr p q z P Q ht p1 p2 q1 q2 hP hQ
/-! ### the frame: written by program -/
theorem own : ownKnob Try.prog.godebug = none := by kernel_rfl
theorem laid : laidOutB Try.prog = true := by kernel_rfl
theorem contract {H : Type} {enc : TypeId × Value → H} {W : World} {base : Nat} {args : Array Value} {ds gs : List (DataW H)} {before : List MemPlace}
    (hval0 : ∀ (j : Nat) t v, Try.f4.params[j]? = some t → args[j]? = some v → Value.okWide Try.prog W .any base t v)
    (hW : DataW.Whole enc Try.prog Try.f4.params.toList Rows.padMoveSpec.vars false W args.toList ds gs before) :
    Calls Try.prog 4 args W fun e W' => e = .returned (.bool true) ∧ Below W.heap.size W W' := by
  have hval : ∀ (j : Nat) t v, Try.f4.params[j]? = some t → args[j]? = some v → Value.okWide Try.prog W .any base t v := hval0
  obtain ⟨p, q, hA0, hV, rfl, hfz, hnd⟩ := hW
  have hA : DataW.TrodAll enc Try.prog W 0 (fun _ => true) true Try.f4.params.toList args.toList ds p := hA0
  rw [Try.params4] at hA hval
  obtain ⟨v0, vs0, d0, ds0, p0, q0, hargs, rfl, rfl, h0, r0⟩ := trodAll_cons hA
  obtain ⟨v1, vs1, d1, ds1, p1, q1, rfl, rfl, rfl, h1, r1⟩ := trodAll_cons r0
  obtain ⟨v2, vs2, d2, ds2, p2, q2, rfl, rfl, rfl, h2, r2⟩ := trodAll_cons r1
  obtain ⟨v3, vs3, d3, ds3, p3, q3, rfl, rfl, rfl, h3, r3⟩ := trodAll_cons r2
  obtain ⟨rfl, rfl, rfl⟩ := trodAll_nil r3
  obtain rfl : args = #[v0, v1, v2, v3] := by cases args; simp_all
  clear hA0 hval0
  obtain ⟨x0, y0, t0, A0, z0, c0, rfl, wx0, wy0, wt0, hc0, hm0, hw0, hr0⟩ := Kit.open_tensor (s := 23) (d := 24) (e := 27) (i := 3) Try.underlying26 Try.underlying23 Try.underlying24 Try.underlying27 Try.underlying3 (by kernel_rfl) (by kernel_rfl) (by kernel_rfl) (by kernel_rfl) (by kernel_rfl) ⟨rfl, rfl, rfl, rfl⟩ ⟨rfl, rfl, rfl, rfl, rfl, rfl⟩ (hval 0 26 v0 rfl rfl) h0
  obtain ⟨a1, rfl, rfl, rfl, w1⟩ := open_int Try.underlying3 (hval 1 3 v1 rfl rfl) h1
  obtain ⟨a2, rfl, rfl, rfl, w2⟩ := open_int Try.underlying3 (hval 2 3 v2 rfl rfl) h2
  obtain ⟨a3, rfl, rfl, rfl, w3⟩ := open_int Try.underlying27 (hval 3 27 v3 rfl rfl) h3
  exact walk (w := W) x0 wx0 y0 wy0 t0 wt0 A0 z0 c0 hc0 hm0 hw0 hr0 a1 w1 a2 w2 a3 w3
theorem fnIs {H : Type} : ∀ ds : List (DataW H), ds.length = Try.f4.params.toList.length → Rows.padMoveSpec.fn H ds = { results := [.lit (.bool true)], args := ds } := by
  intro ds h
  rw [Try.params4] at h
  match ds, h with
  | [d1, d2, d3, d4], _ => rfl
set_option maxRecDepth 100000 in
theorem lifted (os : Os) (started : os.Started) (H : Type) (enc : TypeId × Value → H) :
    ReturnsInHanded {} Try.checked os 4 .any (Rows.padMoveSpec.pre6 enc Try.prog Try.f4 Rows.padMoveRow.domain false) (Rows.padMoveSpec.post enc Try.prog Try.f4 false true false false) := by
  refine returnsInHanded_of_change (C := Try.checked) own started (by kernel_rfl) Try.func4
    (ChangeSpec.witness6 (enc := enc) (C := Try.checked) false ⟨#[], #[.agg #[.int .i64 0, .int .i64 0, .int .i64 0, .slice none 0 0], .int .i64 0, .int .i64 0, .int .i8 0], []⟩ 8 (by kernel_rfl) (by kernel_rfl) (by kernel_rfl) (by kernel_rfl)) ?_
  intro W base args ds gs before hval hW _ _
  refine (contract hval hW).mono fun e W' ⟨he, hg⟩ => ?_
  subst he
  exact ⟨_, rfl, Kit.law_post (tb := 4) laid (by kernel_rfl) rfl (by kernel_rfl) Try.underlying4 fnIs hW hg⟩
theorem over : Rows.padMoveRow.holds Try.pinned (OpenSpec.ofChange Rows.padMoveSpec) :=
  OpenClaim.holds_of_wide 4 Try.f4 rfl rfl rfl rfl rfl rfl rfl ⟨rfl, rfl, rfl, rfl, rfl⟩ rfl rfl rfl rfl rfl (by kernel_rfl) Try.func4 (by kernel_rfl)
    (of_decide_eq_true (by kernel_rfl)) (by unfold Func.isWrapper; first | (rw [if_pos (by decide +kernel)]; kernel_rfl) | (rw [if_neg (by decide +kernel)]; exact ⟨rfl, rfl⟩))
    (fun os started H enc _ => lifted os started H enc)
/-- the statement. -/
theorem proved : Rows.PadMoveSaid :=
  over
end Go.Proofs.Ytgoonenkcikkaaa.lawPadMove
