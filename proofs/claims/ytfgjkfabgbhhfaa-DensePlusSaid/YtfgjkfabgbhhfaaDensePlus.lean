/- DensePlus: two rows of weights, added, make the sums of both, less a bias that counts twice; the call returns true and leaves its arguments as they were. No condition. -/
import Derived.Test.YtfgjkfabgbhhfaaDenseBoth
namespace Go.Proofs.Ytfgjkfabgbhhfaa.lawDensePlus
open Go Go.ChangeShapes Go.WideShapes Go.ChangeAt Go.RowKit
open Plain CSat CShape CTensor CConv CDense
set_option linter.unusedVariables false

def Apart (u v : Value) : Prop := ∀ g, u.ownBlock = some g → v.ownBlock ≠ some g
theorem Apart.symm {u v : Value} (h : Apart u v) : Apart v u := fun g h1 h2 => h g h2 h1
theorem apart_kept {w w' : World} {base : Nat} {T : TypeId} {n : Nat} {u v : Value} {xs : List Value} (h : w.ownsRow base T 1 v n xs) (ha : Apart u v) (hg : w.grownBy w' u.ownBlock) : w'.ownsRow base T 1 v n xs := by
  refine h.kept hg ?_
  cases hu : u.ownBlock with
  | none =>
    cases hv : v.ownBlock with
    | none => exact .inl rfl
    | some g => exact .inr (by simp)
  | some g => exact .inr (ha g hu)
theorem apart_next {w : World} {base : Nat} {T : TypeId} {n : Nat} {u u' v : Value} {xs : List Value} (h : w.ownsRow base T 1 v n xs) (ha : Apart u v) (he : u'.ownBlock = u.ownBlock ∨ u'.ownBlock = some w.heap.size) : Apart u' v := fun g hg hv => by
  rcases he with he | he
  · rw [he] at hg; exact ha g hg hv
  · rw [he] at hg
    cases hg
    rcases h.2 with ⟨rfl, _⟩ | ⟨g', cap, cur, rfl, _, hh, _⟩
    · cases hv
    · cases hv
      exact absurd (Array.getElem?_eq_some_iff.1 hh).1 (Nat.lt_irrefl _)
theorem info_i8 : (Try.prog.info? 24).map (fun i => (i.zero, i.size, i.bytes)) = some (some (.int .i8 0), 1, 1) := by kernel_rfl
theorem row8_succ (F : Nat → Int) (k : Nat) (x : Int) (h : F k = x) : I8s (rowL F k) ++ [.int .i8 x] = I8s (rowL F (k + 1)) := by
  simp [I8s, rowL, List.range_succ, h]
/-- half of a number, towards 0. -/
def halfF (ws : List Int) (i : Nat) : Int := (ws.getD i 0).tdiv 2
theorem half_bd {x : Int} (h1 : -128 ≤ x) (h2 : x ≤ 127) : -64 ≤ x.tdiv 2 ∧ x.tdiv 2 ≤ 63 := by
  rcases (show 0 ≤ x ∨ x < 0 by omega) with h | h
  · rw [Int.tdiv_eq_ediv_of_nonneg h]; omega
  · have e : x.tdiv 2 = -((-x).tdiv 2) := by rw [Int.neg_tdiv, Int.neg_neg]
    rw [e, Int.tdiv_eq_ediv_of_nonneg (by omega)]; omega
def bothF (us vs : List Int) (i : Nat) : Int := halfF us i + halfF vs i
theorem row_getD (F : Nat → Int) {n k : Nat} (h : k < n) : (rowL F n).getD k 0 = F k := by
  rw [List.getD_eq_getElem?_getD]; simp [rowL, h]
theorem row_I8b {F : Nat → Int} {n : Nat} (h : ∀ i, -128 ≤ F i ∧ F i ≤ 127) : I8b (rowL F n) := fun q => by
  by_cases hq : q < n
  · rw [row_getD F hq]; exact h q
  · rw [List.getD_eq_getElem?_getD, List.getElem?_eq_none (by rw [rowL_len]; omega)]; simp
theorem sums_plus (zs us vs : List Int) (n : Nat) (Z : Int) : psum (termF zs (rowL (bothF us vs) n) 0 0 Z) n = psum (termF zs (rowL (halfF us) n) 0 0 Z) n + psum (termF zs (rowL (halfF vs) n) 0 0 Z) n := by
  have key : ∀ k, k ≤ n → psum (termF zs (rowL (bothF us vs) n) 0 0 Z) k = psum (termF zs (rowL (halfF us) n) 0 0 Z) k + psum (termF zs (rowL (halfF vs) n) 0 0 Z) k := by
    intro k
    induction k with
    | zero => intro _; simp [psum]
    | succ k ih =>
      intro hk
      simp only [psum]
      rw [ih (by omega), term00, term00, term00, row_getD _ (by omega), row_getD _ (by omega), row_getD _ (by omega)]
      unfold bothF
      rw [Int.add_mul]
      omega
  exact key n (Nat.le_refl _)
theorem fin_wrap (b p q : Int) : IntKind.i32.wrap (IntKind.i32.wrap (IntKind.i32.wrap (b + p) + IntKind.i32.wrap (b + q)) - b) = IntKind.i32.wrap (b + (p + q)) := by
  simp only [IntKind.wrap_i32]; omega
theorem line_one (A : Option Addr) (zs : List Int) (n c : Nat) (hn : zs.length = n) (hn1 : 1 ≤ n) (hn2 : n ≤ 1000000) (hz : I8b zs) (WA : Option Addr) (ws : List Int) (cW : Nat) (hws : ws.length = n) (hwc : n ≤ cW) (hwb : I8b ws)
    (BA : Option Addr) (b : Int) (Z : Int) (z1 : -128 ≤ Z) (z2 : Z ≤ 127) (R : Int) (hR : IntKind.i32.wrap (b + psum (termF zs ws 0 0 Z) n) = R) (w : World) (hr : Kit.Rd w w.heap.size A (I8s zs)) (hrw : Kit.Rd w w.heap.size WA (I8s ws)) (hrb : Kit.Rd w w.heap.size BA [.int .i32 b]) :
    Calls Try.prog 8 #[.slice A n c, .slice WA n cW, .slice BA 1 1, .int .i8 Z] w (Owned w 21 1 [.int .i32 R]) := by
  have h := line_yes A zs n c hn hn1 hn2 hz WA ws n cW hws hwc hwb BA [b] 1 1 rfl (by omega) (by omega) (Nat.mul_one n) hn2 Z z1 z2 _ (fun _ => rfl) w hr hrw hrb
  have e : I32v (rowL (lineF zs ws [b] n Z) 1) = [.int .i32 R] := by
    rw [← hR]; simp [I32v, rowL, List.range_succ, lineF]
  rw [e] at h
  exact h
set_option maxHeartbeats 4000000 in
theorem walk_no {w : World} (A AW BW : Option Addr) (n c nA cA nB cB : Nat) (bias Z : Int) (hl : ¬ (n ≤ 300 ∧ 1 ≤ n ∧ n ≤ nA ∧ n ≤ nB)) :
    Calls Try.prog 5 #[.slice A n c, .slice AW nA cA, .slice BW nB cB, .int .i32 bias, .int .i8 Z] w fun e w' => e = .returned (.bool true) ∧ Below w.heap.size w w' := by
  rcases (show 300 < n ∨ n = 0 ∨ (n ≤ 300 ∧ 1 ≤ n ∧ nA < n) ∨ (n ≤ 300 ∧ 1 ≤ n ∧ n ≤ nA ∧ nB < n) by omega) with h | rfl | ⟨h1, h2, h3⟩ | ⟨h1, h2, h3, h4⟩
  case inr.inl =>
    go_enter Try.func5, Try.ntmps5
    go_wp2_with (go_at_call 6; (refine (known18 _).mono ?_); rintro e w' ⟨rfl, hb⟩)
    go_ret
    exact ⟨rfl, hb⟩
  all_goals
    have e1 : ((n : Int) == 0) = false := by simp; omega
    have e2 : ¬ n = 0 := by omega
    clear hl
    go_enter Try.func5, Try.ntmps5
    go_wp2_with (go_at_call 6; (refine (known18 _).mono ?_); rintro e w' ⟨rfl, hb⟩)
    go_ret
    exact ⟨rfl, hb⟩
set_option maxRecDepth 100000 in
set_option maxHeartbeats 8000000 in
theorem walk_yes {w : World} (A : Option Addr) (zs : List Int) (n c : Nat) (hn : zs.length = n) (hz : I8b zs) (AW : Option Addr) (us : List Int) (nA cA : Nat) (hu : us.length = nA) (hub : I8b us) (BW : Option Addr) (vs : List Int) (nB cB : Nat) (hv : vs.length = nB) (hvb : I8b vs) (bias Z : Int)
    (z1 : -128 ≤ Z) (z2 : Z ≤ 127) (h1 : n ≤ 300) (h2 : 1 ≤ n) (h3 : n ≤ nA) (h4 : n ≤ nB) (hr : Kit.Rd w w.heap.size A (I8s zs)) (hr1 : Kit.Rd w w.heap.size AW (I8s us)) (hr2 : Kit.Rd w w.heap.size BW (I8s vs)) :
    Calls Try.prog 5 #[.slice A n c, .slice AW nA cA, .slice BW nB cB, .int .i32 bias, .int .i8 Z] w fun e w' => e = .returned (.bool true) ∧ Below w.heap.size w w' := by
  have e1 : ((n : Int) == 0) = false := by simp; omega
  have e2 : ¬ n = 0 := by omega
  have d1 : decide (nA < n) = false := by simp; omega
  have d2 : decide (nB < n) = false := by simp; omega
  have d3 : decide ((300 : Int) < (n : Int)) = false := by simp; omega
  have HN := Lib.hid hn
  have HZ := Lib.hid hz
  have HU := Lib.hid hu
  have HUB := Lib.hid hub
  have HV := Lib.hid hv
  have HVB := Lib.hid hvb
  have HR := Lib.hid hr
  have HR1 := Lib.hid hr1
  have HR2 := Lib.hid hr2
  clear hn hz hu hub hv hvb hr hr1 hr2
  obtain ⟨i0, hi0, hi1, hi2, hi3⟩ := info_parts32 info_i8
  have HI := Lib.hid (And.intro hi0 (And.intro hi1 (And.intro hi2 hi3)))
  clear hi0 hi1 hi2 hi3
  go_enter Try.func5, Try.ntmps5
  go_wp2_with fail
  go_loopw [12, 13, 14, 15] (fun v1 v2 v3 u wr => ∃ k : Nat, k ≤ n ∧ u = .int .i64 k ∧ Hid (wr.ownsRow w.heap.size 24 1 v1 k (I8s (rowL (halfF us) k))) ∧ Hid (wr.ownsRow w.heap.size 24 1 v2 k (I8s (rowL (halfF vs) k))) ∧ Hid (wr.ownsRow w.heap.size 24 1 v3 k (I8s (rowL (bothF us vs) k))) ∧ Hid (Apart v1 v2 ∧ Apart v1 v3 ∧ Apart v2 v3) ∧ Hid (Below w.heap.size w wr)) (fun _ _ _ u _ => n - (intOf u).toNat)
  case atStart => exact ⟨0, Nat.zero_le _, rfl, Lib.hid ⟨by simp [I8s, rowL], .inl ⟨rfl, rfl⟩⟩, Lib.hid ⟨by simp [I8s, rowL], .inl ⟨rfl, rfl⟩⟩, Lib.hid ⟨by simp [I8s, rowL], .inl ⟨rfl, rfl⟩⟩, Lib.hid ⟨fun g h => by simp [Value.ownBlock] at h, fun g h => by simp [Value.ownBlock] at h, fun g h => by simp [Value.ownBlock] at h⟩, Lib.hid (Below.refl _ _)⟩
  case round =>
    obtain ⟨k, hk, rfl, HO1, HO2, HO3, HAP, HB⟩ := hrel
    obtain ⟨V1, k1, rfl, -, -, -⟩ := Kit.own_rd HO1.out
    obtain ⟨V2, k2, rfl, -, -, -⟩ := Kit.own_rd HO2.out
    obtain ⟨V3, k3, rfl, -, -, -⟩ := Kit.own_rd HO3.out
    by_cases hlt : k < n
    · obtain ⟨b1, o1, rfl, hb1, hcx0⟩ := ints_getD HR1.out (j := 0) (by have := HU.out; omega)
      obtain ⟨b2, o2, rfl, hb2, hcy0⟩ := ints_getD HR2.out (j := 0) (by have := HV.out; omega)
      have hcx := (HB.out.cell (p := ⟨b1, o1 + k, none⟩) hb1).trans (hcx0 k (by have := HU.out; omega))
      have hcy := (HB.out.cell (p := ⟨b2, o2 + k, none⟩) hb2).trans (hcy0 k (by have := HV.out; omega))
      have hk0 : (0 : Int) ≤ (k : Int) := by omega
      have hkn : (k : Int) < (n : Int) := by omega
      have hka : (k : Int) < (nA : Int) := by omega
      have hkb : (k : Int) < (nB : Int) := by omega
      obtain ⟨x1, x2⟩ := HUB.out k
      obtain ⟨y1, y2⟩ := HVB.out k
      obtain ⟨x3, x4⟩ := half_bd x1 x2
      obtain ⟨y3, y4⟩ := half_bd y1 y2
      obtain ⟨hx, hxe⟩ : ∃ hx, (us.getD k 0).tdiv 2 = hx := ⟨_, rfl⟩
      obtain ⟨hy, hye⟩ : ∃ hy, (vs.getD k 0).tdiv 2 = hy := ⟨_, rfl⟩
      rw [hxe] at x3 x4
      rw [hye] at y3 y4
      have FX : Hid (halfF us k = hx) := Lib.hid hxe
      have FY : Hid (halfF vs k = hy) := Lib.hid hye
      have FS : Hid (bothF us vs k = hx + hy) := Lib.hid (by unfold bothF; rw [FX.out, FY.out])
      generalize us.getD k 0 = x at hcx x1 x2 hxe
      generalize vs.getD k 0 = y at hcy y1 y2 hye
      have g1 : IntKind.i8.wrap hx = hx := IntWalk.i8_in _ (by omega)
      have g2 : IntKind.i8.wrap hy = hy := IntWalk.i8_in _ (by omega)
      have g3 : IntKind.i8.wrap (hx + hy) = hx + hy := IntWalk.i8_in _ (by omega)
      clear hcx0 hcy0
      go_wp2_with fail
      go_quiet (fail)
      clear hcx hcy hxe hye g1 g2
      obtain ⟨hap1, hap2, hap3⟩ := HAP.out
      replace HO1 := Lib.hid (Kit.own_below HO1.out (Kit.below_drewN (Below.refl wr.heap.size wr) nq))
      replace HO2 := Lib.hid (Kit.own_below HO2.out (Kit.below_drewN (Below.refl wr.heap.size wr) nq))
      replace HO3 := Lib.hid (Kit.own_below HO3.out (Kit.below_drewN (Below.refl wr.heap.size wr) nq))
      replace HB := Lib.hid (Kit.below_drewN HB.out nq)
      have A12 := Lib.hid hap1
      have A13 := Lib.hid hap2
      have A23 := Lib.hid hap3
      clear HAP hap1 hap2 hap3
      generalize wr.drewN nq = Wq at HO1 HO2 HO3 HB ⊢
      go_wp2_with (first
        | (at_builtin; refine Kit.wpList_append_rd _ rfl (.tmp 57) (.tmp 59) _ rfl w.heap.size 24 i0 (.int .i8 0) 1 1 Try.underlying22 HI.out.1 HI.out.2.1 HI.out.2.2.1 HI.out.2.2.2 rfl (by decide) _ k (I8s (rowL (halfF us) k)) rfl (Kit.own_below HO1.out ((Below.refl _ _).alloc (Nat.le_refl _) _)) _ _ 1 1 [.int .i8 hx] rfl rfl (Kit.Rd.new _ _ _ (Nat.lt_succ_self _)) ?_ ?_ ?_ ?_ ?_; (exact Kit.ints_one .i8 [hx]); (unfold maxLen; omega); (omega); (have := HB.out.size; simp; omega); intro u1 w5 hown5 hg5 hat5; (rw [row8_succ _ k hx FX.out] at hown5);
            (have P1 := Lib.hid hown5); (have P2 := Lib.hid (apart_kept (Kit.own_below HO2.out ((Below.refl _ _).alloc (Nat.le_refl _) _)) A12.out hg5)); (have P3 := Lib.hid (apart_kept (Kit.own_below HO3.out ((Below.refl _ _).alloc (Nat.le_refl _) _)) A13.out hg5)); (have B12 := Lib.hid (apart_next (Kit.own_below HO2.out ((Below.refl _ _).alloc (Nat.le_refl _) _)) A12.out hat5)); (have B13 := Lib.hid (apart_next (Kit.own_below HO3.out ((Below.refl _ _).alloc (Nat.le_refl _) _)) A13.out hat5)); (have B5 := Lib.hid ((HB.out.alloc HB.out.size _).grown hg5 (by have := HB.out.size; simp; omega) (fun q hq => Kit.own_block_ge HO1.out q hq))); clear hown5 hg5 hat5 HO1 HO2 HO3 A12 A13 HB)
        | (at_builtin; refine Kit.wpList_append_rd _ rfl (.tmp 61) (.tmp 63) _ rfl w.heap.size 24 i0 (.int .i8 0) 1 1 Try.underlying22 HI.out.1 HI.out.2.1 HI.out.2.2.1 HI.out.2.2.2 rfl (by decide) _ k (I8s (rowL (halfF vs) k)) rfl (Kit.own_below P2.out ((Below.refl _ _).alloc (Nat.le_refl _) _)) _ _ 1 1 [.int .i8 hy] rfl rfl (Kit.Rd.new _ _ _ (Nat.lt_succ_self _)) ?_ ?_ ?_ ?_ ?_; (exact Kit.ints_one .i8 [hy]); (unfold maxLen; omega); (omega); (have := B5.out.size; simp; omega); intro u2 w6 hown6 hg6 hat6; (rw [row8_succ _ k hy FY.out] at hown6);
            (have Q2 := Lib.hid hown6); (have Q1 := Lib.hid (apart_kept (Kit.own_below P1.out ((Below.refl _ _).alloc (Nat.le_refl _) _)) B12.out.symm hg6)); (have Q3 := Lib.hid (apart_kept (Kit.own_below P3.out ((Below.refl _ _).alloc (Nat.le_refl _) _)) A23.out hg6)); (have C12 := Lib.hid (apart_next (Kit.own_below P1.out ((Below.refl _ _).alloc (Nat.le_refl _) _)) B12.out.symm hat6).symm); (have C23 := Lib.hid (apart_next (Kit.own_below P3.out ((Below.refl _ _).alloc (Nat.le_refl _) _)) A23.out hat6)); (have B6 := Lib.hid ((B5.out.alloc B5.out.size _).grown hg6 (by have := B5.out.size; simp; omega) (fun q hq => Kit.own_block_ge P2.out q hq))); clear hown6 hg6 hat6 P1 P2 P3 B12 A23 B5)
        | (at_builtin; refine Kit.wpList_append_rd _ rfl (.tmp 65) (.tmp 69) _ rfl w.heap.size 24 i0 (.int .i8 0) 1 1 Try.underlying22 HI.out.1 HI.out.2.1 HI.out.2.2.1 HI.out.2.2.2 rfl (by decide) _ k (I8s (rowL (bothF us vs) k)) rfl (Kit.own_below Q3.out ((Below.refl _ _).alloc (Nat.le_refl _) _)) _ _ 1 1 [.int .i8 (hx + hy)] rfl rfl (Kit.Rd.new _ _ _ (Nat.lt_succ_self _)) ?_ ?_ ?_ ?_ ?_; (exact Kit.ints_one .i8 [hx + hy]); (unfold maxLen; omega); (omega); (have := B6.out.size; simp; omega); intro u3 w7 hown7 hg7 hat7; (rw [row8_succ _ k (hx + hy) FS.out] at hown7);
            (have R3 := Lib.hid hown7); (have R1 := Lib.hid (apart_kept (Kit.own_below Q1.out ((Below.refl _ _).alloc (Nat.le_refl _) _)) B13.out.symm hg7)); (have R2 := Lib.hid (apart_kept (Kit.own_below Q2.out ((Below.refl _ _).alloc (Nat.le_refl _) _)) C23.out.symm hg7)); (have D13 := Lib.hid (apart_next (Kit.own_below Q1.out ((Below.refl _ _).alloc (Nat.le_refl _) _)) B13.out.symm hat7).symm); (have D23 := Lib.hid (apart_next (Kit.own_below Q2.out ((Below.refl _ _).alloc (Nat.le_refl _) _)) C23.out.symm hat7).symm); (have B7 := Lib.hid ((B6.out.alloc B6.out.size _).grown hg7 (by have := B6.out.size; simp; omega) (fun q hq => Kit.own_block_ge Q3.out q hq))); clear hown7 hg7 hat7 Q1 Q2 Q3 B13 C23 B6))
      go_roundw
      case rel => exact ⟨k + 1, by omega, by go_num, R1, R2, R3, Lib.hid ⟨C12.out, D13.out, D23.out⟩, B7⟩
      case measure => simp [intOf]; omega
    · obtain rfl : k = n := by omega
      clear HAP
      obtain ⟨V1', k1', e1', hk1, -, hrd1⟩ := Kit.own_rd HO1.out
      cases e1'
      obtain ⟨V2', k2', e2', hk2, -, hrd2⟩ := Kit.own_rd HO2.out
      cases e2'
      obtain ⟨V3', k3', e3', hk3, -, hrd3⟩ := Kit.own_rd HO3.out
      cases e3'
      obtain ⟨R1, hR1⟩ : ∃ R, IntKind.i32.wrap (bias + psum (termF zs (rowL (halfF us) k) 0 0 Z) k) = R := ⟨_, rfl⟩
      obtain ⟨R2, hR2⟩ : ∃ R, IntKind.i32.wrap (bias + psum (termF zs (rowL (halfF vs) k) 0 0 Z) k) = R := ⟨_, rfl⟩
      obtain ⟨R3, hR3⟩ : ∃ R, IntKind.i32.wrap (bias + psum (termF zs (rowL (bothF us vs) k) 0 0 Z) k) = R := ⟨_, rfl⟩
      have hfin : IntKind.i32.wrap (IntKind.i32.wrap (R1 + R2) - bias) = R3 := by
        rw [← hR1, ← hR2, ← hR3, sums_plus, fin_wrap]
      have hb1 : I8b (rowL (halfF us) k) := row_I8b fun i => by obtain ⟨q1, q2⟩ := HUB.out i; obtain ⟨q3, q4⟩ := half_bd q1 q2; unfold halfF; omega
      have hb2 : I8b (rowL (halfF vs) k) := row_I8b fun i => by obtain ⟨q1, q2⟩ := HVB.out i; obtain ⟨q3, q4⟩ := half_bd q1 q2; unfold halfF; omega
      have hb3 : I8b (rowL (bothF us vs) k) := row_I8b fun i => by obtain ⟨q1, q2⟩ := HUB.out i; obtain ⟨q3, q4⟩ := half_bd q1 q2; obtain ⟨p1, p2⟩ := HVB.out i; obtain ⟨p3, p4⟩ := half_bd p1 p2; unfold bothF halfF; omega
      have L1 := fun (w' : World) (BA : Option Addr) (r : Kit.Rd w' w'.heap.size A (I8s zs)) (r1 : Kit.Rd w' w'.heap.size V1 (I8s (rowL (halfF us) k))) (r2 : Kit.Rd w' w'.heap.size BA [.int .i32 bias]) => line_one A zs k c HN.out h2 (by omega) HZ.out V1 _ k1 (rowL_len _ _) hk1 hb1 BA bias Z z1 z2 R1 hR1 w' r r1 r2
      have L2 := fun (w' : World) (BA : Option Addr) (r : Kit.Rd w' w'.heap.size A (I8s zs)) (r1 : Kit.Rd w' w'.heap.size V2 (I8s (rowL (halfF vs) k))) (r2 : Kit.Rd w' w'.heap.size BA [.int .i32 bias]) => line_one A zs k c HN.out h2 (by omega) HZ.out V2 _ k2 (rowL_len _ _) hk2 hb2 BA bias Z z1 z2 R2 hR2 w' r r1 r2
      have L3 := fun (w' : World) (BA : Option Addr) (r : Kit.Rd w' w'.heap.size A (I8s zs)) (r1 : Kit.Rd w' w'.heap.size V3 (I8s (rowL (bothF us vs) k))) (r2 : Kit.Rd w' w'.heap.size BA [.int .i32 bias]) => line_one A zs k c HN.out h2 (by omega) HZ.out V3 _ k3 (rowL_len _ _) hk3 hb3 BA bias Z z1 z2 R3 hR3 w' r r1 r2
      have HL1 := Lib.hid L1
      have HL2 := Lib.hid L2
      have HL3 := Lib.hid L3
      have RA1 := Lib.hid hrd1
      have RA2 := Lib.hid hrd2
      have RA3 := Lib.hid hrd3
      replace HR := Lib.hid ((HR.out.below HB.out).more HB.out.size)
      clear HO1 HO2 HO3 hrd1 hrd2 hrd3 hR1 hR2 hR3 hb1 hb2 hb3 L1 L2 L3 hk1 hk2 hk3 HR1 HR2 HU HV HUB HVB HZ HI
      go_wp2_with fail
      go_at_call 8
      obtain ⟨Wn, hWn⟩ : ∃ Wn, wr.alloc (.cells #[.int .i32 bias] 21) = Wn := ⟨_, rfl⟩
      have hbn : Below wr.heap.size wr Wn := by rw [← hWn]; exact (Below.refl _ _).alloc (Nat.le_refl _) _
      have hrn : Kit.Rd Wn Wn.heap.size (some ⟨wr.heap.size, 0, none⟩) [.int .i32 bias] := by rw [← hWn]; exact (Kit.Rd.new wr [.int .i32 bias] 21 (Nat.lt_succ_self _)).more (by simp)
      rw [hWn]
      have HRN := Lib.hid hrn
      have RWn := Lib.hid ((HR.out.below hbn).more hbn.size)
      have RAn := Lib.hid ((RA1.out.below hbn).more hbn.size)
      refine (HL1.out Wn _ RWn.out RAn.out HRN.out).mono ?_
      rintro e wb ⟨t1, rfl, ho, hb⟩
      have hbb := hbn.trans (hb.mono hbn.size)
      have OW1 := Lib.hid (Kit.own_base ho (Nat.le_trans HB.out.size hbn.size))
      replace HR := Lib.hid ((HR.out.below hbb).more hbb.size)
      replace HB := Lib.hid (HB.out.trans (hbb.mono HB.out.size))
      replace RA2 := Lib.hid ((RA2.out.below hbb).more hbb.size)
      replace RA3 := Lib.hid ((RA3.out.below hbb).more hbb.size)
      clear ho hb hbb hbn hrn hWn HRN RWn RAn HL1 RA1
      go_wp2_with fail
      go_at_call 8
      obtain ⟨Wn, hWn⟩ : ∃ Wn, wb.alloc (.cells #[.int .i32 bias] 21) = Wn := ⟨_, rfl⟩
      have hbn : Below wb.heap.size wb Wn := by rw [← hWn]; exact (Below.refl _ _).alloc (Nat.le_refl _) _
      have hrn : Kit.Rd Wn Wn.heap.size (some ⟨wb.heap.size, 0, none⟩) [.int .i32 bias] := by rw [← hWn]; exact (Kit.Rd.new wb [.int .i32 bias] 21 (Nat.lt_succ_self _)).more (by simp)
      rw [hWn]
      have HRN := Lib.hid hrn
      have RWn := Lib.hid ((HR.out.below hbn).more hbn.size)
      have RAn := Lib.hid ((RA2.out.below hbn).more hbn.size)
      refine (HL2.out Wn _ RWn.out RAn.out HRN.out).mono ?_
      rintro e wc ⟨t2, rfl, ho, hb⟩
      have hbb := hbn.trans (hb.mono hbn.size)
      have OW2 := Lib.hid (Kit.own_base ho (Nat.le_trans HB.out.size hbn.size))
      replace HR := Lib.hid ((HR.out.below hbb).more hbb.size)
      replace HB := Lib.hid (HB.out.trans (hbb.mono HB.out.size))
      replace OW1 := Lib.hid (Kit.own_below OW1.out hbb)
      replace RA3 := Lib.hid ((RA3.out.below hbb).more hbb.size)
      clear ho hb hbb hbn hrn hWn HRN RWn RAn HL2 RA2
      go_wp2_with fail
      go_at_call 8
      obtain ⟨Wn, hWn⟩ : ∃ Wn, wc.alloc (.cells #[.int .i32 bias] 21) = Wn := ⟨_, rfl⟩
      have hbn : Below wc.heap.size wc Wn := by rw [← hWn]; exact (Below.refl _ _).alloc (Nat.le_refl _) _
      have hrn : Kit.Rd Wn Wn.heap.size (some ⟨wc.heap.size, 0, none⟩) [.int .i32 bias] := by rw [← hWn]; exact (Kit.Rd.new wc [.int .i32 bias] 21 (Nat.lt_succ_self _)).more (by simp)
      rw [hWn]
      have HRN := Lib.hid hrn
      have RWn := Lib.hid ((HR.out.below hbn).more hbn.size)
      have RAn := Lib.hid ((RA3.out.below hbn).more hbn.size)
      refine (HL3.out Wn _ RWn.out RAn.out HRN.out).mono ?_
      rintro e wd ⟨t3, rfl, ho, hb⟩
      have hbb := hbn.trans (hb.mono hbn.size)
      have OW3 := Lib.hid (Kit.own_base ho (Nat.le_trans HB.out.size hbn.size))
      replace HR := Lib.hid ((HR.out.below hbb).more hbb.size)
      replace HB := Lib.hid (HB.out.trans (hbb.mono HB.out.size))
      replace OW1 := Lib.hid (Kit.own_below OW1.out hbb)
      replace OW2 := Lib.hid (Kit.own_below OW2.out hbb)
      clear ho hb hbb hbn hrn hWn HRN RWn RAn HL3 RA3
      obtain ⟨g1, c1, rfl, -, -, -, -⟩ := Kit.own_form OW1.out (by omega)
      obtain ⟨g2, c2, rfl, -, -, -, -⟩ := Kit.own_form OW2.out (by omega)
      obtain ⟨g3, c3, rfl, -, -, -, -⟩ := Kit.own_form OW3.out (by omega)
      have kc1 : wd.cell? ⟨g1, 0, none⟩ = some (.int .i32 R1) := by rw [OW1.out.cellAt 0 (by omega)]; rfl
      have kc2 : wd.cell? ⟨g2, 0, none⟩ = some (.int .i32 R2) := by rw [OW2.out.cellAt 0 (by omega)]; rfl
      have kc3 : wd.cell? ⟨g3, 0, none⟩ = some (.int .i32 R3) := by rw [OW3.out.cellAt 0 (by omega)]; rfl
      have gs1 := Kit.block_lt_of_own OW1.out
      have gs2 := Kit.block_lt_of_own OW2.out
      have gs3 := Kit.block_lt_of_own OW3.out
      clear OW1 OW2 OW3 HR
      go_wp2_with fail
      refine wp_region_held_drew (S := fun w' => w'.cell? ⟨g1, 0, none⟩ = some (.int .i32 R1) ∧ w'.cell? ⟨g2, 0, none⟩ = some (.int .i32 R2) ∧ w'.cell? ⟨g3, 0, none⟩ = some (.int .i32 R3)) (by kernel_rfl) ⟨kc1, kc2, kc3⟩ (fun hHeld => ?_)
      replace HB := Lib.hid HB.out.drew
      refine wpAnyH_take (i := 0) (oi := ({ dst := some 89, op := Op.move (Operand.tmp 18), type := 23, pos := "law.go:49", after := #[], guard := none } : Oper)) (v := ?_) rfl (by kernel_rfl) (by kernel_rfl) (by kernel_rfl) (fun _ _ _ h => h) (Or.inl ⟨by rfl, ?_⟩) (by assumption) ?_
      rotate_left
      · intro wS hSw
        first
          | (go_simp; done)
          | (go_simp; with_reducible rfl)
      try simp only [Act.put, List.setIfInBounds_toArray, List.set_cons_zero, List.set_cons_succ]
      refine wpAnyH_take (i := 1) (oi := ({ dst := some 90, op := Op.call { callee := Callee.builtin Builtin.len, args := #[Operand.tmp 89], argTypes := #[23] }, type := 3, pos := "law.go:49", after := #[{ on := 0, ground := Ground.data }], guard := none } : Oper)) (v := ?_) rfl (by kernel_rfl) (by kernel_rfl) (by kernel_rfl) (fun _ _ _ h => h) (Or.inl ⟨by rfl, ?_⟩) (by assumption) ?_
      rotate_left
      · intro wS hSw
        first
          | (go_simp; done)
          | (go_simp; with_reducible rfl)
      try simp only [Act.put, List.setIfInBounds_toArray, List.set_cons_zero, List.set_cons_succ]
      refine wpAnyH_take (i := 2) (oi := ({ dst := some 91, op := Op.binOp BinOp.eql 3 (Operand.tmp 90) (Operand.const (Value.int IntKind.i64 1)) 3, type := 4, pos := "law.go:49", after := #[{ on := 1, ground := Ground.data }], guard := none } : Oper)) (v := ?_) rfl (by kernel_rfl) (by kernel_rfl) (by kernel_rfl) (fun _ _ _ h => h) (Or.inl ⟨by rfl, ?_⟩) (by assumption) ?_
      rotate_left
      · intro wS hSw
        first
          | (go_simp; done)
          | (go_simp; with_reducible rfl)
      try simp only [Act.put, List.setIfInBounds_toArray, List.set_cons_zero, List.set_cons_succ]
      refine wpAnyH_take (i := 3) (oi := ({ dst := some 92, op := Op.move (Operand.tmp 91), type := 4, pos := "law.go:49", after := #[{ on := 2, ground := Ground.data }], guard := none } : Oper)) (v := ?_) rfl (by kernel_rfl) (by kernel_rfl) (by kernel_rfl) (fun _ _ _ h => h) (Or.inl ⟨by rfl, ?_⟩) (by assumption) ?_
      rotate_left
      · intro wS hSw
        first
          | (go_simp; done)
          | (go_simp; with_reducible rfl)
      try simp only [Act.put, List.setIfInBounds_toArray, List.set_cons_zero, List.set_cons_succ]
      refine wpAnyH_take (i := 4) (oi := ({ dst := some 93, op := Op.move (Operand.tmp 19), type := 23, pos := "law.go:49", after := #[{ on := 3, ground := Ground.guard }], guard := some (3, true) } : Oper)) (v := ?_) rfl (by kernel_rfl) (by kernel_rfl) (by kernel_rfl) (fun _ _ _ h => h) (Or.inl ⟨by rfl, ?_⟩) (by assumption) ?_
      rotate_left
      · intro wS hSw
        first
          | (go_simp; done)
          | (go_simp; with_reducible rfl)
      try simp only [Act.put, List.setIfInBounds_toArray, List.set_cons_zero, List.set_cons_succ]
      refine wpAnyH_take (i := 5) (oi := ({ dst := some 94, op := Op.call { callee := Callee.builtin Builtin.len, args := #[Operand.tmp 93], argTypes := #[23] }, type := 3, pos := "law.go:49", after := #[{ on := 4, ground := Ground.data }, { on := 3, ground := Ground.guard }], guard := some (3, true) } : Oper)) (v := ?_) rfl (by kernel_rfl) (by kernel_rfl) (by kernel_rfl) (fun _ _ _ h => h) (Or.inl ⟨by rfl, ?_⟩) (by assumption) ?_
      rotate_left
      · intro wS hSw
        first
          | (go_simp; done)
          | (go_simp; with_reducible rfl)
      try simp only [Act.put, List.setIfInBounds_toArray, List.set_cons_zero, List.set_cons_succ]
      refine wpAnyH_take (i := 6) (oi := ({ dst := some 95, op := Op.binOp BinOp.eql 3 (Operand.tmp 94) (Operand.const (Value.int IntKind.i64 1)) 3, type := 4, pos := "law.go:49", after := #[{ on := 5, ground := Ground.data }, { on := 3, ground := Ground.guard }], guard := some (3, true) } : Oper)) (v := ?_) rfl (by kernel_rfl) (by kernel_rfl) (by kernel_rfl) (fun _ _ _ h => h) (Or.inl ⟨by rfl, ?_⟩) (by assumption) ?_
      rotate_left
      · intro wS hSw
        first
          | (go_simp; done)
          | (go_simp; with_reducible rfl)
      try simp only [Act.put, List.setIfInBounds_toArray, List.set_cons_zero, List.set_cons_succ]
      refine wpAnyH_take (i := 7) (oi := ({ dst := some 96, op := Op.pick (Operand.tmp 92) (Operand.tmp 95) (Operand.const (Value.bool false)), type := 4, pos := "law.go:49", after := #[{ on := 3, ground := Ground.data }, { on := 6, ground := Ground.data }], guard := none } : Oper)) (v := ?_) rfl (by kernel_rfl) (by kernel_rfl) (by kernel_rfl) (fun _ _ _ h => h) (Or.inl ⟨by rfl, ?_⟩) (by assumption) ?_
      rotate_left
      · intro wS hSw
        first
          | (go_simp; done)
          | (go_simp; with_reducible rfl)
      try simp only [Act.put, List.setIfInBounds_toArray, List.set_cons_zero, List.set_cons_succ]
      refine wpAnyH_take (i := 8) (oi := ({ dst := some 97, op := Op.move (Operand.tmp 96), type := 4, pos := "law.go:49", after := #[{ on := 7, ground := Ground.data }, { on := 3, ground := Ground.chain }], guard := none } : Oper)) (v := ?_) rfl (by kernel_rfl) (by kernel_rfl) (by kernel_rfl) (fun _ _ _ h => h) (Or.inl ⟨by rfl, ?_⟩) (by assumption) ?_
      rotate_left
      · intro wS hSw
        first
          | (go_simp; done)
          | (go_simp; with_reducible rfl)
      try simp only [Act.put, List.setIfInBounds_toArray, List.set_cons_zero, List.set_cons_succ]
      refine wpAnyH_take (i := 9) (oi := ({ dst := some 98, op := Op.move (Operand.tmp 20), type := 23, pos := "law.go:49", after := #[{ on := 8, ground := Ground.guard }], guard := some (8, true) } : Oper)) (v := ?_) rfl (by kernel_rfl) (by kernel_rfl) (by kernel_rfl) (fun _ _ _ h => h) (Or.inl ⟨by rfl, ?_⟩) (by assumption) ?_
      rotate_left
      · intro wS hSw
        first
          | (go_simp; done)
          | (go_simp; with_reducible rfl)
      try simp only [Act.put, List.setIfInBounds_toArray, List.set_cons_zero, List.set_cons_succ]
      refine wpAnyH_take (i := 10) (oi := ({ dst := some 99, op := Op.call { callee := Callee.builtin Builtin.len, args := #[Operand.tmp 98], argTypes := #[23] }, type := 3, pos := "law.go:49", after := #[{ on := 9, ground := Ground.data }, { on := 8, ground := Ground.guard }], guard := some (8, true) } : Oper)) (v := ?_) rfl (by kernel_rfl) (by kernel_rfl) (by kernel_rfl) (fun _ _ _ h => h) (Or.inl ⟨by rfl, ?_⟩) (by assumption) ?_
      rotate_left
      · intro wS hSw
        first
          | (go_simp; done)
          | (go_simp; with_reducible rfl)
      try simp only [Act.put, List.setIfInBounds_toArray, List.set_cons_zero, List.set_cons_succ]
      refine wpAnyH_take (i := 11) (oi := ({ dst := some 100, op := Op.binOp BinOp.eql 3 (Operand.tmp 99) (Operand.const (Value.int IntKind.i64 1)) 3, type := 4, pos := "law.go:49", after := #[{ on := 10, ground := Ground.data }, { on := 8, ground := Ground.guard }], guard := some (8, true) } : Oper)) (v := ?_) rfl (by kernel_rfl) (by kernel_rfl) (by kernel_rfl) (fun _ _ _ h => h) (Or.inl ⟨by rfl, ?_⟩) (by assumption) ?_
      rotate_left
      · intro wS hSw
        first
          | (go_simp; done)
          | (go_simp; with_reducible rfl)
      try simp only [Act.put, List.setIfInBounds_toArray, List.set_cons_zero, List.set_cons_succ]
      refine wpAnyH_take (i := 12) (oi := ({ dst := some 101, op := Op.pick (Operand.tmp 97) (Operand.tmp 100) (Operand.const (Value.bool false)), type := 4, pos := "law.go:49", after := #[{ on := 8, ground := Ground.data }, { on := 11, ground := Ground.data }], guard := none } : Oper)) (v := ?_) rfl (by kernel_rfl) (by kernel_rfl) (by kernel_rfl) (fun _ _ _ h => h) (Or.inl ⟨by rfl, ?_⟩) (by assumption) ?_
      rotate_left
      · intro wS hSw
        first
          | (go_simp; done)
          | (go_simp; with_reducible rfl)
      try simp only [Act.put, List.setIfInBounds_toArray, List.set_cons_zero, List.set_cons_succ]
      refine wpAnyH_take (i := 13) (oi := ({ dst := some 102, op := Op.move (Operand.tmp 101), type := 4, pos := "law.go:49", after := #[{ on := 12, ground := Ground.data }, { on := 8, ground := Ground.chain }], guard := none } : Oper)) (v := ?_) rfl (by kernel_rfl) (by kernel_rfl) (by kernel_rfl) (fun _ _ _ h => h) (Or.inl ⟨by rfl, ?_⟩) (by assumption) ?_
      rotate_left
      · intro wS hSw
        first
          | (go_simp; done)
          | (go_simp; with_reducible rfl)
      try simp only [Act.put, List.setIfInBounds_toArray, List.set_cons_zero, List.set_cons_succ]
      refine wpAnyH_take (i := 14) (oi := ({ dst := some 103, op := Op.move (Operand.tmp 20), type := 23, pos := "law.go:49", after := #[{ on := 13, ground := Ground.guard }], guard := some (13, true) } : Oper)) (v := ?_) rfl (by kernel_rfl) (by kernel_rfl) (by kernel_rfl) (fun _ _ _ h => h) (Or.inl ⟨by rfl, ?_⟩) (by assumption) ?_
      rotate_left
      · intro wS hSw
        first
          | (go_simp; done)
          | (go_simp; with_reducible rfl)
      try simp only [Act.put, List.setIfInBounds_toArray, List.set_cons_zero, List.set_cons_succ]
      refine wpAnyH_take (i := 15) (oi := ({ dst := some 104, op := Op.indexAddr 23 (Operand.tmp 103) (Operand.const (Value.int IntKind.i64 0)), type := 0, pos := "law.go:49", after := #[{ on := 14, ground := Ground.data }, { on := 13, ground := Ground.guard }], guard := some (13, true) } : Oper)) (v := ?_) rfl (by kernel_rfl) (by kernel_rfl) (by kernel_rfl) (fun _ _ _ h => h) (Or.inl ⟨by rfl, ?_⟩) (by assumption) ?_
      rotate_left
      · intro wS hSw
        first
          | (go_simp; done)
          | (go_simp; with_reducible rfl)
      try simp only [Act.put, List.setIfInBounds_toArray, List.set_cons_zero, List.set_cons_succ]
      refine wpAnyH_take (i := 16) (oi := ({ dst := some 105, op := Op.load 21 (Operand.tmp 104), type := 21, pos := "law.go:49", after := #[{ on := 15, ground := Ground.data }, { on := 13, ground := Ground.guard }], guard := some (13, true) } : Oper)) (v := ?_) rfl (by kernel_rfl) (by kernel_rfl) (by kernel_rfl) (fun _ _ _ h => h) (Or.inl ⟨by rfl, ?_⟩) (by assumption) ?_
      rotate_left
      · intro wS hSw
        obtain ⟨s1, s2, s3⟩ := hSw
        first
          | (go_simp; done)
          | (go_simp; with_reducible rfl)
      try simp only [Act.put, List.setIfInBounds_toArray, List.set_cons_zero, List.set_cons_succ]
      refine wpAnyH_take (i := 17) (oi := ({ dst := some 106, op := Op.move (Operand.tmp 18), type := 23, pos := "law.go:49", after := #[{ on := 13, ground := Ground.guard }], guard := some (13, true) } : Oper)) (v := ?_) rfl (by kernel_rfl) (by kernel_rfl) (by kernel_rfl) (fun _ _ _ h => h) (Or.inl ⟨by rfl, ?_⟩) (by assumption) ?_
      rotate_left
      · intro wS hSw
        first
          | (go_simp; done)
          | (go_simp; with_reducible rfl)
      try simp only [Act.put, List.setIfInBounds_toArray, List.set_cons_zero, List.set_cons_succ]
      refine wpAnyH_take (i := 18) (oi := ({ dst := some 107, op := Op.indexAddr 23 (Operand.tmp 106) (Operand.const (Value.int IntKind.i64 0)), type := 0, pos := "law.go:49", after := #[{ on := 17, ground := Ground.data }, { on := 13, ground := Ground.guard }], guard := some (13, true) } : Oper)) (v := ?_) rfl (by kernel_rfl) (by kernel_rfl) (by kernel_rfl) (fun _ _ _ h => h) (Or.inl ⟨by rfl, ?_⟩) (by assumption) ?_
      rotate_left
      · intro wS hSw
        first
          | (go_simp; done)
          | (go_simp; with_reducible rfl)
      try simp only [Act.put, List.setIfInBounds_toArray, List.set_cons_zero, List.set_cons_succ]
      refine wpAnyH_take (i := 19) (oi := ({ dst := some 108, op := Op.load 21 (Operand.tmp 107), type := 21, pos := "law.go:49", after := #[{ on := 18, ground := Ground.data }, { on := 13, ground := Ground.guard }], guard := some (13, true) } : Oper)) (v := ?_) rfl (by kernel_rfl) (by kernel_rfl) (by kernel_rfl) (fun _ _ _ h => h) (Or.inl ⟨by rfl, ?_⟩) (by assumption) ?_
      rotate_left
      · intro wS hSw
        obtain ⟨s1, s2, s3⟩ := hSw
        first
          | (go_simp; done)
          | (go_simp; with_reducible rfl)
      try simp only [Act.put, List.setIfInBounds_toArray, List.set_cons_zero, List.set_cons_succ]
      refine wpAnyH_take (i := 20) (oi := ({ dst := some 109, op := Op.move (Operand.tmp 19), type := 23, pos := "law.go:49", after := #[{ on := 13, ground := Ground.guard }], guard := some (13, true) } : Oper)) (v := ?_) rfl (by kernel_rfl) (by kernel_rfl) (by kernel_rfl) (fun _ _ _ h => h) (Or.inl ⟨by rfl, ?_⟩) (by assumption) ?_
      rotate_left
      · intro wS hSw
        first
          | (go_simp; done)
          | (go_simp; with_reducible rfl)
      try simp only [Act.put, List.setIfInBounds_toArray, List.set_cons_zero, List.set_cons_succ]
      refine wpAnyH_take (i := 21) (oi := ({ dst := some 110, op := Op.indexAddr 23 (Operand.tmp 109) (Operand.const (Value.int IntKind.i64 0)), type := 0, pos := "law.go:49", after := #[{ on := 20, ground := Ground.data }, { on := 13, ground := Ground.guard }], guard := some (13, true) } : Oper)) (v := ?_) rfl (by kernel_rfl) (by kernel_rfl) (by kernel_rfl) (fun _ _ _ h => h) (Or.inl ⟨by rfl, ?_⟩) (by assumption) ?_
      rotate_left
      · intro wS hSw
        first
          | (go_simp; done)
          | (go_simp; with_reducible rfl)
      try simp only [Act.put, List.setIfInBounds_toArray, List.set_cons_zero, List.set_cons_succ]
      refine wpAnyH_take (i := 22) (oi := ({ dst := some 111, op := Op.load 21 (Operand.tmp 110), type := 21, pos := "law.go:49", after := #[{ on := 21, ground := Ground.data }, { on := 13, ground := Ground.guard }], guard := some (13, true) } : Oper)) (v := ?_) rfl (by kernel_rfl) (by kernel_rfl) (by kernel_rfl) (fun _ _ _ h => h) (Or.inl ⟨by rfl, ?_⟩) (by assumption) ?_
      rotate_left
      · intro wS hSw
        obtain ⟨s1, s2, s3⟩ := hSw
        first
          | (go_simp; done)
          | (go_simp; with_reducible rfl)
      try simp only [Act.put, List.setIfInBounds_toArray, List.set_cons_zero, List.set_cons_succ]
      refine wpAnyH_take (i := 23) (oi := ({ dst := some 112, op := Op.binOp BinOp.add 21 (Operand.tmp 108) (Operand.tmp 111) 21, type := 21, pos := "law.go:49", after := #[{ on := 19, ground := Ground.data }, { on := 22, ground := Ground.data }, { on := 13, ground := Ground.guard }], guard := some (13, true) } : Oper)) (v := ?_) rfl (by kernel_rfl) (by kernel_rfl) (by kernel_rfl) (fun _ _ _ h => h) (Or.inl ⟨by rfl, ?_⟩) (by assumption) ?_
      rotate_left
      · intro wS hSw
        first
          | (go_simp; done)
          | (go_simp; with_reducible rfl)
      try simp only [Act.put, List.setIfInBounds_toArray, List.set_cons_zero, List.set_cons_succ]
      refine wpAnyH_take (i := 24) (oi := ({ dst := some 113, op := Op.move (Operand.tmp 3), type := 21, pos := "law.go:49", after := #[{ on := 13, ground := Ground.guard }], guard := some (13, true) } : Oper)) (v := ?_) rfl (by kernel_rfl) (by kernel_rfl) (by kernel_rfl) (fun _ _ _ h => h) (Or.inl ⟨by rfl, ?_⟩) (by assumption) ?_
      rotate_left
      · intro wS hSw
        first
          | (go_simp; done)
          | (go_simp; with_reducible rfl)
      try simp only [Act.put, List.setIfInBounds_toArray, List.set_cons_zero, List.set_cons_succ]
      refine wpAnyH_take (i := 25) (oi := ({ dst := some 114, op := Op.binOp BinOp.sub 21 (Operand.tmp 112) (Operand.tmp 113) 21, type := 21, pos := "law.go:49", after := #[{ on := 23, ground := Ground.data }, { on := 24, ground := Ground.data }, { on := 13, ground := Ground.guard }], guard := some (13, true) } : Oper)) (v := ?_) rfl (by kernel_rfl) (by kernel_rfl) (by kernel_rfl) (fun _ _ _ h => h) (Or.inl ⟨by rfl, ?_⟩) (by assumption) ?_
      rotate_left
      · intro wS hSw
        first
          | (go_simp; done)
          | (go_simp; with_reducible rfl)
      try simp only [Act.put, List.setIfInBounds_toArray, List.set_cons_zero, List.set_cons_succ]
      refine wpAnyH_take (i := 26) (oi := ({ dst := some 115, op := Op.binOp BinOp.eql 21 (Operand.tmp 105) (Operand.tmp 114) 21, type := 4, pos := "law.go:49", after := #[{ on := 16, ground := Ground.data }, { on := 25, ground := Ground.data }, { on := 13, ground := Ground.guard }], guard := some (13, true) } : Oper)) (v := ?_) rfl (by kernel_rfl) (by kernel_rfl) (by kernel_rfl) (fun _ _ _ h => h) (Or.inl ⟨by rfl, ?_⟩) (by assumption) ?_
      rotate_left
      · intro wS hSw
        first
          | (go_simp; done)
          | (go_simp; with_reducible rfl)
      try simp only [Act.put, List.setIfInBounds_toArray, List.set_cons_zero, List.set_cons_succ]
      refine wpAnyH_take (i := 27) (oi := ({ dst := some 116, op := Op.pick (Operand.tmp 102) (Operand.tmp 115) (Operand.const (Value.bool false)), type := 4, pos := "law.go:49", after := #[{ on := 13, ground := Ground.data }, { on := 26, ground := Ground.data }], guard := none } : Oper)) (v := ?_) rfl (by kernel_rfl) (by kernel_rfl) (by kernel_rfl) (fun _ _ _ h => h) (Or.inl ⟨by rfl, ?_⟩) (by assumption) ?_
      rotate_left
      · intro wS hSw
        first
          | (go_simp; done)
          | (go_simp; with_reducible rfl)
      try simp only [Act.put, List.setIfInBounds_toArray, List.set_cons_zero, List.set_cons_succ]
      refine wpAnyH_take (i := 28) (oi := ({ dst := some 117, op := Op.move (Operand.tmp 116), type := 4, pos := "law.go:49", after := #[{ on := 27, ground := Ground.data }, { on := 13, ground := Ground.chain }], guard := none } : Oper)) (v := ?_) rfl (by kernel_rfl) (by kernel_rfl) (by kernel_rfl) (fun _ _ _ h => h) (Or.inl ⟨by rfl, ?_⟩) (by assumption) ?_
      rotate_left
      · intro wS hSw
        first
          | (go_simp; done)
          | (go_simp; with_reducible rfl)
      try simp only [Act.put, List.setIfInBounds_toArray, List.set_cons_zero, List.set_cons_succ]
      refine wpAnyH_ready (rs := [29]) (by kernel_rfl) (by simp) ?_
      refine AllReadyH.cons (o := ({ dst := some 118, op := Op.call { callee := Callee.value (Operand.func 6), args := #[], argTypes := #[] }, type := 4, pos := "law.go:49", after := #[{ on := 28, ground := Ground.chain }, { on := 28, ground := Ground.guard }], guard := some (28, true) } : Oper)) rfl (fun K hK => ?_) (AllReadyH.nil)
      go_simp
      go_at_call 6
      refine (known18 _).mono ?_
      rintro e we ⟨rfl, hb⟩
      have hS1 : we.cell? ⟨g1, 0, none⟩ = some (.int .i32 R1) ∧ we.cell? ⟨g2, 0, none⟩ = some (.int .i32 R2) ∧ we.cell? ⟨g3, 0, none⟩ = some (.int .i32 R3) := ⟨(hb.cell (p := ⟨g1, 0, none⟩) gs1).trans hHeld.1, (hb.cell (p := ⟨g2, 0, none⟩) gs2).trans hHeld.2.1, (hb.cell (p := ⟨g3, 0, none⟩) gs3).trans hHeld.2.2⟩
      replace HB := Lib.hid (HB.out.trans (hb.mono HB.out.size))
      clear hb hHeld
      dsimp only
      refine hK.out _ _ ?_ (fun hHeld => ?_)
      · exact hS1
      clear hK K
      try simp only [Act.put, List.setIfInBounds_toArray, List.set_cons_zero, List.set_cons_succ]
      refine wpAnyH_take (i := 30) (oi := ({ dst := some 119, op := Op.pick (Operand.tmp 117) (Operand.tmp 118) (Operand.const (Value.bool false)), type := 4, pos := "law.go:49", after := #[{ on := 28, ground := Ground.data }, { on := 29, ground := Ground.data }], guard := none } : Oper)) (v := ?_) rfl (by kernel_rfl) (by kernel_rfl) (by kernel_rfl) (fun _ _ _ h => h) (Or.inl ⟨by rfl, ?_⟩) (by assumption) ?_
      rotate_left
      · intro wS hSw
        first
          | (go_simp; done)
          | (go_simp; with_reducible rfl)
      try simp only [Act.put, List.setIfInBounds_toArray, List.set_cons_zero, List.set_cons_succ]
      refine wpAnyH_take (i := 31) (oi := ({ dst := some 10, op := Op.assign (Operand.tmp 119), type := 4, pos := "law.go:49", after := #[{ on := 30, ground := Ground.data }, { on := 29, ground := Ground.chain }, { on := 0, ground := Ground.phase }, { on := 1, ground := Ground.phase }, { on := 2, ground := Ground.phase }, { on := 3, ground := Ground.phase }, { on := 4, ground := Ground.phase }, { on := 5, ground := Ground.phase }, { on := 6, ground := Ground.phase }, { on := 7, ground := Ground.phase }, { on := 8, ground := Ground.phase }, { on := 9, ground := Ground.phase }, { on := 10, ground := Ground.phase }, { on := 11, ground := Ground.phase }, { on := 12, ground := Ground.phase }, { on := 13, ground := Ground.phase }, { on := 14, ground := Ground.phase }, { on := 15, ground := Ground.phase }, { on := 16, ground := Ground.phase }, { on := 17, ground := Ground.phase }, { on := 18, ground := Ground.phase }, { on := 19, ground := Ground.phase }, { on := 20, ground := Ground.phase }, { on := 21, ground := Ground.phase }, { on := 22, ground := Ground.phase }, { on := 23, ground := Ground.phase }, { on := 24, ground := Ground.phase }, { on := 25, ground := Ground.phase }, { on := 26, ground := Ground.phase }, { on := 27, ground := Ground.phase }, { on := 28, ground := Ground.phase }, { on := 29, ground := Ground.phase }, { on := 30, ground := Ground.phase }], guard := none } : Oper)) (v := ?_) rfl (by kernel_rfl) (by kernel_rfl) (by kernel_rfl) (fun _ _ _ h => h) (Or.inl ⟨by rfl, ?_⟩) (by assumption) ?_
      rotate_left
      · intro wS hSw
        first
          | (go_simp; done)
          | (go_simp; with_reducible rfl)
      try simp only [Act.put, List.setIfInBounds_toArray, List.set_cons_zero, List.set_cons_succ]
      refine wpAnyH_done (by kernel_rfl) ?_ _
      go_wp2_with fail
      go_ret
      exact ⟨rfl, HB.out⟩
theorem walk {w : World} (A : Option Addr) (zs : List Int) (c : Nat) (hc : zs.length ≤ c) (hm : c ≤ maxLen) (hw : ∀ n ∈ zs, (Lit.int .i8 n).wf = true) (hr : Kit.Rd w w.heap.size A (zs.map (.int .i8)))
    (B : Option Addr) (us : List Int) (c1 : Nat) (hc1 : us.length ≤ c1) (hm1 : c1 ≤ maxLen) (hw1 : ∀ n ∈ us, (Lit.int .i8 n).wf = true) (hr1 : Kit.Rd w w.heap.size B (us.map (.int .i8)))
    (C : Option Addr) (vs : List Int) (c2 : Nat) (hc2 : vs.length ≤ c2) (hm2 : c2 ≤ maxLen) (hw2 : ∀ n ∈ vs, (Lit.int .i8 n).wf = true) (hr2 : Kit.Rd w w.heap.size C (vs.map (.int .i8)))
    (b : Int) (wb : (Lit.int .i32 b).wf = true) (Z : Int) (wZ : (Lit.int .i8 Z).wf = true) :
    Calls Try.prog 5 #[.slice A zs.length c, .slice B us.length c1, .slice C vs.length c2, .int .i32 b, .int .i8 Z] w fun e w' => e = .returned (.bool true) ∧ Below w.heap.size w w' := by
  have hZ : -128 ≤ Z ∧ Z ≤ 127 := by simpa [Lit.wf, IntKind.min, IntKind.max, IntKind.signed, IntKind.bits] using wZ
  by_cases hl : zs.length ≤ 300 ∧ 1 ≤ zs.length ∧ zs.length ≤ us.length ∧ zs.length ≤ vs.length
  · obtain ⟨q1, q2, q3, q4⟩ := hl
    exact walk_yes A zs _ c rfl (I8b_of hw) B us _ c1 rfl (I8b_of hw1) C vs _ c2 rfl (I8b_of hw2) b Z hZ.1 hZ.2 q1 q2 q3 q4 hr hr1 hr2
  · exact walk_no A B C _ c _ c1 _ c2 b Z hl
/-! ### the frame: written by program -/
theorem own : ownKnob Try.prog.godebug = none := by kernel_rfl
theorem laid : laidOutB Try.prog = true := by kernel_rfl
theorem contract {H : Type} {enc : TypeId × Value → H} {W : World} {base : Nat} {args : Array Value} {ds gs : List (DataW H)} {before : List MemPlace}
    (hval0 : ∀ (j : Nat) t v, Try.f5.params[j]? = some t → args[j]? = some v → Value.okWide Try.prog W .any base t v)
    (hW : DataW.Whole enc Try.prog Try.f5.params.toList Rows.densePlusSpec.vars false W args.toList ds gs before) :
    Calls Try.prog 5 args W fun e W' => e = .returned (.bool true) ∧ Below W.heap.size W W' := by
  have hval : ∀ (j : Nat) t v, Try.f5.params[j]? = some t → args[j]? = some v → Value.okWide Try.prog W .any base t v := hval0
  obtain ⟨p, q, hA0, hV, rfl, hfz, hnd⟩ := hW
  have hA : DataW.TrodAll enc Try.prog W 0 (fun _ => true) true Try.f5.params.toList args.toList ds p := hA0
  rw [Try.params5] at hA hval
  obtain ⟨v0, vs0, d0, ds0, p0, q0, hargs, rfl, rfl, h0, r0⟩ := trodAll_cons hA
  obtain ⟨v1, vs1, d1, ds1, p1, q1, rfl, rfl, rfl, h1, r1⟩ := trodAll_cons r0
  obtain ⟨v2, vs2, d2, ds2, p2, q2, rfl, rfl, rfl, h2, r2⟩ := trodAll_cons r1
  obtain ⟨v3, vs3, d3, ds3, p3, q3, rfl, rfl, rfl, h3, r3⟩ := trodAll_cons r2
  obtain ⟨v4, vs4, d4, ds4, p4, q4, rfl, rfl, rfl, h4, r4⟩ := trodAll_cons r3
  obtain ⟨rfl, rfl, rfl⟩ := trodAll_nil r4
  obtain rfl : args = #[v0, v1, v2, v3, v4] := by cases args; simp_all
  clear hA0 hval0
  obtain ⟨A0, z0, c0, rfl, hc0, hm0, hw0, hr0⟩ := Kit.open_islice Try.underlying22 Try.underlying24 (by kernel_rfl) (hval 0 22 v0 rfl rfl) h0
  obtain ⟨A1, z1, c1, rfl, hc1, hm1, hw1, hr1⟩ := Kit.open_islice Try.underlying22 Try.underlying24 (by kernel_rfl) (hval 1 22 v1 rfl rfl) h1
  obtain ⟨A2, z2, c2, rfl, hc2, hm2, hw2, hr2⟩ := Kit.open_islice Try.underlying22 Try.underlying24 (by kernel_rfl) (hval 2 22 v2 rfl rfl) h2
  obtain ⟨a3, rfl, rfl, rfl, w3⟩ := open_int Try.underlying21 (hval 3 21 v3 rfl rfl) h3
  obtain ⟨a4, rfl, rfl, rfl, w4⟩ := open_int Try.underlying24 (hval 4 24 v4 rfl rfl) h4
  exact walk (w := W) A0 z0 c0 hc0 hm0 hw0 hr0 A1 z1 c1 hc1 hm1 hw1 hr1 A2 z2 c2 hc2 hm2 hw2 hr2 a3 w3 a4 w4
theorem fnIs {H : Type} : ∀ ds : List (DataW H), ds.length = Try.f5.params.toList.length → Rows.densePlusSpec.fn H ds = { results := [.lit (.bool true)], args := ds } := by
  intro ds h
  rw [Try.params5] at h
  match ds, h with
  | [d1, d2, d3, d4, d5], _ => rfl
set_option maxRecDepth 100000 in
theorem lifted (os : Os) (started : os.Started) (H : Type) (enc : TypeId × Value → H) :
    ReturnsInHanded {} Try.checked os 5 .any (Rows.densePlusSpec.pre6 enc Try.prog Try.f5 Rows.densePlusRow.domain false) (Rows.densePlusSpec.post enc Try.prog Try.f5 false true false false) := by
  refine returnsInHanded_of_change (C := Try.checked) own started (by kernel_rfl) Try.func5
    (ChangeSpec.witness6 (enc := enc) (C := Try.checked) false ⟨#[], #[.slice none 0 0, .slice none 0 0, .slice none 0 0, .int .i32 0, .int .i8 0], []⟩ 8 (by kernel_rfl) (by kernel_rfl) (by kernel_rfl) (by kernel_rfl)) ?_
  intro W base args ds gs before hval hW _ _
  refine (contract hval hW).mono fun e W' ⟨he, hg⟩ => ?_
  subst he
  exact ⟨_, rfl, Kit.law_post (tb := 4) laid (by kernel_rfl) rfl (by kernel_rfl) Try.underlying4 fnIs hW hg⟩
theorem over : Rows.densePlusRow.holds Try.pinned (OpenSpec.ofChange Rows.densePlusSpec) :=
  OpenClaim.holds_of_wide 5 Try.f5 rfl rfl rfl rfl rfl rfl rfl ⟨rfl, rfl, rfl, rfl, rfl⟩ rfl rfl rfl rfl rfl (by kernel_rfl) Try.func5 (by kernel_rfl)
    (of_decide_eq_true (by kernel_rfl)) (by unfold Func.isWrapper; first | (rw [if_pos (by decide +kernel)]; kernel_rfl) | (rw [if_neg (by decide +kernel)]; exact ⟨rfl, rfl⟩))
    (fun os started H enc _ => lifted os started H enc)
/-- the statement. -/
theorem proved : Rows.DensePlusSaid :=
  over
end Go.Proofs.Ytfgjkfabgbhhfaa.lawDensePlus
