/- PatchAll: PatchHelp, PatchEach, PatchVisit, PatchOf, one behind the other. -/
import Derived.Test.YtceejjliboiciaaConvOf
import Derived.BigQuiet
import Derived.Deep.CutRange
namespace Go.Proofs.Ytceejjliboiciaa.CPatch
open Go Go.ChangeShapes Go.WideShapes Go.ChangeAt Go.RowKit
open Plain CSat CShape CTensor CConv
set_option linter.unusedVariables false

theorem ShapeAt_grown {B gd : Nat} {H W C : Int} {w w' : World} (h : ShapeAt B H W C w) (hg : w.grownBy w' (some gd)) (hB : B < w.heap.size) (hne : gd ≠ B) : ShapeAt B H W C w' :=
  ⟨(hg.cell_far ⟨B, 0, none⟩ hB (by simp; omega)).trans h.1, (hg.cell_far ⟨B, 1, none⟩ hB (by simp; omega)).trans h.2.1, (hg.cell_far ⟨B, 2, none⟩ hB (by simp; omega)).trans h.2.2⟩
theorem NodeAt_grown {B gd : Nat} {x0 x1 x2 x8 x11 x12 x13 x14 x15 x16 x17 x18 : Value} {K S P O Z : Int} {WA BA : Option Addr} {nW cW nB cB : Nat} {w w' : World} (h : NodeAt B x0 x1 x2 x8 x11 x12 x13 x14 x15 x16 x17 x18 K S P O Z WA BA nW cW nB cB w) (hg : w.grownBy w' (some gd)) (hB : B < w.heap.size) (hne : gd ≠ B) : NodeAt B x0 x1 x2 x8 x11 x12 x13 x14 x15 x16 x17 x18 K S P O Z WA BA nW cW nB cB w' := fun j v hj =>
  (hg.cell_far ⟨B, 0 + j, none⟩ hB (by simp; omega)).trans (h j v hj)
theorem begin_to (M Wd : Int) (x : Value) (i R : Int) (hR : IntKind.i64.wrap (i * Wd) = R) (w : World) :
    Calls Try.prog 43 #[.agg #[.int .i64 M, .int .i64 Wd, x], .int .i64 i] w fun e w' => e = .returned (.int .i64 R) ∧ Below w.heap.size w w' := by
  go_enter Try.func43, Try.ntmps43
  go_wp2_with fail
  go_ret
  exact ⟨rfl, (Below.refl _ _).alloc (Nat.le_refl _) _⟩
set_option maxHeartbeats 1000000 in
theorem empty_to (H W C a b c : Int) (x0 x1 x2 x8 x11 x12 x13 x14 x15 x16 x17 x18 : Value) (K S P O Z : Int) (WA BA : Option Addr) (nW cW nB cB : Nat) (M k2 Wd : Int) (h1 : IntKind.i64.wrap (a * b) = M) (h2 : IntKind.i64.wrap (K * K) = k2) (h3 : IntKind.i64.wrap (k2 * C) = Wd) (w : World) :
    Calls Try.prog 41 #[.agg #[.int .i64 H, .int .i64 W, .int .i64 C], .agg #[.int .i64 a, .int .i64 b, .int .i64 c], .agg #[x0, x1, x2, .int .i64 K, .int .i64 S, .int .i64 P, .int .i64 O, .int .i8 Z, x8, .slice WA nW cW, .slice BA nB cB, x11, x12, x13, x14, x15, x16, x17, x18]] w fun e w' => e = .returned (.agg #[.int .i64 M, .int .i64 Wd, .slice none 0 0]) ∧ Below w.heap.size w w' := by
  go_enter Try.func41, Try.ntmps41
  go_wp2_with fail
  refine bodyPost_ret (Kit.results_c rfl _ _ (w.heap.size + 3) 0 [.int .i64 M, .int .i64 Wd, .slice none 0 0] _ rfl (Kit.range_3 (by go_cell) (by go_cell) (by go_cell)) Try.underlying64 rfl (by kernel_rfl)) rfl ?_
  exact ⟨rfl, by first | exact ((((Below.refl _ _).alloc (Nat.le_refl _) _).alloc (by simp) _).alloc (by simp; omega) _).alloc (by simp; omega) _ | (refine ((((((((Below.refl _ _).alloc (Nat.le_refl _) _).alloc (by simp) _).alloc (by simp; omega) _).alloc (by simp; omega) _).setCell ?_ _).setCell ?_ _).setCell ?_ _) <;> simp)⟩
end Go.Proofs.Ytceejjliboiciaa.CPatch

namespace Go.Proofs.Ytceejjliboiciaa.CPatch
open Go Go.ChangeShapes Go.WideShapes Go.ChangeAt Go.RowKit
open Plain CSat CShape CTensor CConv
set_option linter.unusedVariables false


set_option maxRecDepth 100000 in
set_option maxHeartbeats 8000000 in
theorem each_of (H W C : Int) (hs : shapeB H W C = true) (x0 x1 x2 x8 x11 x12 x13 x14 x15 x16 x17 x18 : Value) (K S P O Z : Int) (WA BA : Option Addr) (nW cW nB cB : Nat) (a b kk k2 d : Nat) (hk : K = (kk : Int)) (hk1 : 1 ≤ kk) (hk5 : kk ≤ 5) (hk2 : kk * kk = k2) (hb0 : 0 < b) (ha16 : a ≤ 1024) (hb16 : b ≤ 1024) (hd : C = (d : Int)) (s1 : 1 ≤ S) (s4 : S ≤ 4) (p0 : 0 ≤ P) (p4 : P ≤ 4)
    (M Wd : Int) (xD : Value) (wd : Nat) (hwd : Wd = (wd : Int)) (hwd2 : k2 * d = wd) (N1 : Nat) (hN1 : a * b = N1) (hN1b : N1 ≤ 1024) (pt pn pr gd : Nat) (I : Nat → World → Prop) (w : World) (hgd : gd < w.heap.size)
    (hstay : ∀ (k : Nat) (v v' : World), I k v → Below v.heap.size v v' → I k v')
    (hin : ∀ (i q : Nat) (y x pos : Int), i < N1 → q < k2 → y = ((i / b : Nat) : Int) * S - P + ((q / kk : Nat) : Int) → x = ((i % b : Nat) : Int) * S - P + ((q % kk : Nat) : Int) → 0 ≤ y → y < H → 0 ≤ x → x < W → (y * W + x) * C = pos → ∀ v : World, I (i * k2 + q) v →
      Calls Try.prog 44 #[.int .i64 ((i * wd + q * d : Nat) : Int), .int .i64 pos, .pointer (some ⟨pt, 0, none⟩), .pointer (some ⟨pn, 0, none⟩), .pointer (some ⟨pr, 0, none⟩)] v fun e v' => (∃ u, e = .returned u) ∧ I (i * k2 + (q + 1)) v' ∧ v.grownBy v' (some gd))
    (hskip : ∀ (i q : Nat) (y x : Int), i < N1 → q < k2 → y = ((i / b : Nat) : Int) * S - P + ((q / kk : Nat) : Int) → x = ((i % b : Nat) : Int) * S - P + ((q % kk : Nat) : Int) → ¬ (0 ≤ y ∧ y < H ∧ 0 ≤ x ∧ x < W) → ∀ v : World, I (i * k2 + q) v → I (i * k2 + (q + 1)) v)
    (h0 : I 0 w) :
    Calls Try.prog 42 #[.agg #[.int .i64 H, .int .i64 W, .int .i64 C], .agg #[.int .i64 (a : Int), .int .i64 (b : Int), .int .i64 1], .agg #[x0, x1, x2, .int .i64 K, .int .i64 S, .int .i64 P, .int .i64 O, .int .i8 Z, x8, .slice WA nW cW, .slice BA nB cB, x11, x12, x13, x14, x15, x16, x17, x18], .func (.func 43) #[.agg #[.int .i64 M, .int .i64 Wd, xD]] #[], .func (.func 44) #[] #[.pointer (some ⟨pt, 0, none⟩), .pointer (some ⟨pn, 0, none⟩), .pointer (some ⟨pr, 0, none⟩)]] w fun e w' => (∃ u, e = .returned u) ∧ I (N1 * k2) w' ∧ w.grownBy w' (some gd) := by
  obtain ⟨g1, g2, g3, g4, g5, g6, g7⟩ := shapeB_yes hs
  have hk25 : k2 ≤ 25 := by rw [← hk2]; exact Nat.le_trans (Nat.mul_le_mul hk5 hk5) (by omega)
  have hd1 : d ≤ 1024 := by omega
  have hwdb : wd ≤ 25600 := by rw [← hwd2]; exact Nat.le_trans (Nat.mul_le_mul hk25 hd1) (by omega)
  have e1 : IntKind.i64.wrap ((a : Int) * (b : Int)) = (N1 : Int) := by rw [← Int.natCast_mul, hN1]; exact IntWalk.i64_in _ (by omega)
  have e2 : IntKind.i64.wrap ((kk : Int) * (kk : Int)) = (k2 : Int) := by rw [← Int.natCast_mul, hk2]; exact IntWalk.i64_in _ (by omega)
  have HS := Lib.hid hs
  have HSTAY := Lib.hid hstay
  have HIN := Lib.hid hin
  have HSKIP := Lib.hid hskip
  have H0 := Lib.hid h0
  have HK2 := Lib.hid hk2
  have HN1 := Lib.hid hN1
  have HD := Lib.hid hd
  have HWD2 := Lib.hid hwd2
  subst hk hwd
  clear hs hstay hin hskip h0 hk2 hN1 hd hwd2 g7
  go_enter Try.func42, Try.ntmps42
  go_wp2_with fail
  have hbel : Below w.heap.size w (((w.alloc (.cells #[.int .i64 H, .int .i64 W, .int .i64 C] 23)).alloc (.cells #[.int .i64 (a : Int), .int .i64 (b : Int), .int .i64 1] 23)).alloc (.cells #[x0, x1, x2, .int .i64 (kk : Int), .int .i64 S, .int .i64 P, .int .i64 O, .int .i8 Z, x8, .slice WA nW cW, .slice BA nB cB, x11, x12, x13, x14, x15, x16, x17, x18] 32)) := (((Below.refl _ _).alloc (Nat.le_refl _) _).alloc (by simp) _).alloc (by simp; omega) _
  have T1 : Hid (ShapeAt w.heap.size H W C (((w.alloc (.cells #[.int .i64 H, .int .i64 W, .int .i64 C] 23)).alloc (.cells #[.int .i64 (a : Int), .int .i64 (b : Int), .int .i64 1] 23)).alloc (.cells #[x0, x1, x2, .int .i64 (kk : Int), .int .i64 S, .int .i64 P, .int .i64 O, .int .i8 Z, x8, .slice WA nW cW, .slice BA nB cB, x11, x12, x13, x14, x15, x16, x17, x18] 32))) :=
    Lib.hid ((shapeNew H W C 23 w).below (B' := w.heap.size + 1) (by omega) (((Below.refl _ _).alloc (by simp) _).alloc (by simp) _))
  have hq2 := shapeNew (a : Int) (b : Int) 1 23 (w.alloc (.cells #[.int .i64 H, .int .i64 W, .int .i64 C] 23))
  rw [World.size_alloc] at hq2
  have T2 := Lib.hid (hq2.below (B' := w.heap.size + 2) (by omega) ((Below.refl _ _).alloc (by simp) (.cells #[x0, x1, x2, .int .i64 (kk : Int), .int .i64 S, .int .i64 P, .int .i64 O, .int .i8 Z, x8, .slice WA nW cW, .slice BA nB cB, x11, x12, x13, x14, x15, x16, x17, x18] 32)))
  have hq3 := NodeAt.new x0 x1 x2 x8 x11 x12 x13 x14 x15 x16 x17 x18 (kk : Int) S P O Z WA BA nW cW nB cB 32 ((w.alloc (.cells #[.int .i64 H, .int .i64 W, .int .i64 C] 23)).alloc (.cells #[.int .i64 (a : Int), .int .i64 (b : Int), .int .i64 1] 23))
  rw [World.size_alloc, World.size_alloc] at hq3
  have T3 := Lib.hid hq3
  have HG : Hid (w.grownBy _ (some gd)) := Lib.hid (Kit.grown_of_below hbel (some gd))
  have HI := Lib.hid (HSTAY.out 0 _ _ H0.out hbel)
  have hz : w.heap.size + 3 ≤ (((w.alloc (.cells #[.int .i64 H, .int .i64 W, .int .i64 C] 23)).alloc (.cells #[.int .i64 (a : Int), .int .i64 (b : Int), .int .i64 1] 23)).alloc (.cells #[x0, x1, x2, .int .i64 (kk : Int), .int .i64 S, .int .i64 P, .int .i64 O, .int .i8 Z, x8, .slice WA nW cW, .slice BA nB cB, x11, x12, x13, x14, x15, x16, x17, x18] 32)).heap.size := by simp
  clear hq2 hq3 hbel
  generalize ((w.alloc (.cells #[.int .i64 H, .int .i64 W, .int .i64 C] 23)).alloc (.cells #[.int .i64 (a : Int), .int .i64 (b : Int), .int .i64 1] 23)).alloc (.cells #[x0, x1, x2, .int .i64 (kk : Int), .int .i64 S, .int .i64 P, .int .i64 O, .int .i8 Z, x8, .slice WA nW cW, .slice BA nB cB, x11, x12, x13, x14, x15, x16, x17, x18] 32) = W0 at T1 T2 T3 HG HI hz ⊢
  go_loopw [22] (fun u wr => ∃ i : Nat, i ≤ N1 ∧ u = .int .i64 i ∧ Hid (I (i * k2) wr) ∧ Hid (ShapeAt w.heap.size H W C wr) ∧ Hid (ShapeAt (w.heap.size + 1) (a : Int) (b : Int) 1 wr) ∧ Hid (NodeAt (w.heap.size + 2) x0 x1 x2 x8 x11 x12 x13 x14 x15 x16 x17 x18 (kk : Int) S P O Z WA BA nW cW nB cB wr) ∧ Hid (w.grownBy wr (some gd)) ∧ w.heap.size + 3 ≤ wr.heap.size) (fun u _ => N1 - (intOf u).toNat)
  case atStart => exact ⟨0, Nat.zero_le _, rfl, by rw [Nat.zero_mul]; exact HI, T1, T2, T3, HG, hz⟩
  case round =>
    clear T1 T2 T3 HG HI hz
    obtain ⟨i, hi, rfl, HI, T1, T2, T3, HG, hz⟩ := hrel
    by_cases hlt : i < N1
    · have hiI : (i : Int) < (N1 : Int) := by omega
      obtain ⟨h, hh⟩ : ∃ h, i / b = h := ⟨_, rfl⟩
      obtain ⟨v, hv⟩ : ∃ v, i % b = v := ⟨_, rfl⟩
      have hvb : v < b := by rw [← hv]; exact Nat.mod_lt _ hb0
      have hha : h < a := by rw [← hh]; exact Nat.div_lt_of_lt_mul (by rw [Nat.mul_comm, HN1.out]; exact hlt)
      have b9 : ¬ b = 0 := by omega
      have d1 : (i : Int).tdiv (b : Int) = (h : Int) := by rw [Int.tdiv_eq_ediv_of_nonneg (by omega), ← hh]; simp
      have d2 : (i : Int).tmod (b : Int) = (v : Int) := by rw [Int.tmod_eq_emod_of_nonneg (by omega), ← hv]; simp
      have d3 : IntKind.i64.wrap (h : Int) = (h : Int) := IntWalk.i64_in _ (by omega)
      have d4 : IntKind.i64.wrap (v : Int) = (v : Int) := IntWalk.i64_in _ (by omega)
      obtain ⟨hs0, hhs⟩ : ∃ hs, (h : Int) * S = hs := ⟨_, rfl⟩
      obtain ⟨vs0, hvs⟩ : ∃ vs, (v : Int) * S = vs := ⟨_, rfl⟩
      have b1 : 0 ≤ hs0 ∧ hs0 ≤ 4096 := by
        rw [← hhs]
        exact ⟨Int.mul_nonneg (by omega) (by omega), Int.le_trans (Int.mul_le_mul (show (h : Int) ≤ 1024 by omega) s4 (by omega) (by omega)) (by omega)⟩
      have b2 : 0 ≤ vs0 ∧ vs0 ≤ 4096 := by
        rw [← hvs]
        exact ⟨Int.mul_nonneg (by omega) (by omega), Int.le_trans (Int.mul_le_mul (show (v : Int) ≤ 1024 by omega) s4 (by omega) (by omega)) (by omega)⟩
      obtain ⟨b3, b4⟩ := b1
      obtain ⟨b5, b6⟩ := b2
      obtain ⟨top, htop⟩ : ∃ top, hs0 - P = top := ⟨_, rfl⟩
      obtain ⟨left, hleft⟩ : ∃ left, vs0 - P = left := ⟨_, rfl⟩
      have f1 : IntKind.i64.wrap ((h : Int) * S) = hs0 := by rw [hhs]; exact IntWalk.i64_in _ (by omega)
      have f2 : IntKind.i64.wrap ((v : Int) * S) = vs0 := by rw [hvs]; exact IntWalk.i64_in _ (by omega)
      have f3 : IntKind.i64.wrap (hs0 - P) = top := by rw [htop]; exact IntWalk.i64_in _ (by omega)
      have f4 : IntKind.i64.wrap (vs0 - P) = left := by rw [hleft]; exact IntWalk.i64_in _ (by omega)
      obtain ⟨bg, hbg⟩ : ∃ bg, i * wd = bg := ⟨_, rfl⟩
      have hbgb : bg ≤ 26214400 := by rw [← hbg]; exact Nat.le_trans (Nat.mul_le_mul (show i ≤ 1024 by omega) hwdb) (by omega)
      have f5 : IntKind.i64.wrap ((i : Int) * (wd : Int)) = (bg : Int) := by rw [← Int.natCast_mul, hbg]; exact IntWalk.i64_in _ (by omega)
      have HTOP : Hid (((i / b : Nat) : Int) * S - P = top) := Lib.hid (by rw [hh, hhs]; exact htop)
      have HLEFT : Hid (((i % b : Nat) : Int) * S - P = left) := Lib.hid (by rw [hv, hvs]; exact hleft)
      have HBG := Lib.hid hbg
      have tb1 : -4 ≤ top := by omega
      have tb2 : top ≤ 4096 := by omega
      have lb1 : -4 ≤ left := by omega
      have lb2 : left ≤ 4096 := by omega
      clear hh hv hhs hvs htop hleft hbg
      go_wp2_with fail
      refine wp_region_held_drew (S := fun w' => ShapeAt (w.heap.size + 1) (a : Int) (b : Int) 1 w' ∧ NodeAt (w.heap.size + 2) x0 x1 x2 x8 x11 x12 x13 x14 x15 x16 x17 x18 (kk : Int) S P O Z WA BA nW cW nB cB w') (by kernel_rfl) ⟨T2.out, T3.out⟩ (fun hHeld => ?_)
      refine wpAnyH_take (i := 0) (oi := ({ dst := some 25, op := Op.move (Operand.tmp 10), type := 3, pos := "patch.go:84", after := #[], guard := none } : Oper)) (v := ?_) rfl (by kernel_rfl) (by kernel_rfl) (by kernel_rfl) (fun _ _ _ h => h) (Or.inl ⟨by rfl, ?_⟩) (by assumption) ?_
      rotate_left
      · intro wS hSw
        first
          | (go_simp; done)
          | (go_simp; with_reducible rfl)
      try simp only [Act.put, List.setIfInBounds_toArray, List.set_cons_zero, List.set_cons_succ]
      refine wpAnyH_take (i := 1) (oi := ({ dst := some 26, op := Op.fieldAddr 23 (Operand.tmp 6) 1, type := 0, pos := "patch.go:84", after := #[], guard := none } : Oper)) (v := ?_) rfl (by kernel_rfl) (by kernel_rfl) (by kernel_rfl) (fun _ _ _ h => h) (Or.inl ⟨by rfl, ?_⟩) (by assumption) ?_
      rotate_left
      · intro wS hSw
        first
          | (go_simp; done)
          | (go_simp; with_reducible rfl)
      try simp only [Act.put, List.setIfInBounds_toArray, List.set_cons_zero, List.set_cons_succ]
      refine wpAnyH_take (i := 2) (oi := ({ dst := some 27, op := Op.load 3 (Operand.tmp 26), type := 3, pos := "patch.go:84", after := #[{ on := 1, ground := Ground.data }], guard := none } : Oper)) (v := ?_) rfl (by kernel_rfl) (by kernel_rfl) (by kernel_rfl) (fun _ _ _ h => h) (Or.inl ⟨by rfl, ?_⟩) (by assumption) ?_
      rotate_left
      · intro wS hSw
        obtain ⟨hq1, hq2⟩ := hSw
        obtain ⟨z1, z2, z3⟩ := hq1; clear hq2
        first
          | (go_simp; done)
          | (go_simp; with_reducible rfl)
      try simp only [Act.put, List.setIfInBounds_toArray, List.set_cons_zero, List.set_cons_succ]
      refine wpAnyH_take (i := 3) (oi := ({ dst := some 28, op := Op.binOp BinOp.quo 3 (Operand.tmp 25) (Operand.tmp 27) 3, type := 3, pos := "patch.go:84", after := #[{ on := 0, ground := Ground.data }, { on := 2, ground := Ground.data }], guard := none } : Oper)) (v := ?_) rfl (by kernel_rfl) (by kernel_rfl) (by kernel_rfl) (fun _ _ _ h => h) (Or.inl ⟨by rfl, ?_⟩) (by assumption) ?_
      rotate_left
      · intro wS hSw
        first
          | (go_simp; done)
          | (go_simp; with_reducible rfl)
      try simp only [Act.put, List.setIfInBounds_toArray, List.set_cons_zero, List.set_cons_succ]
      refine wpAnyH_take (i := 4) (oi := ({ dst := some 29, op := Op.fieldAddr 32 (Operand.tmp 7) 4, type := 0, pos := "patch.go:84", after := #[], guard := none } : Oper)) (v := ?_) rfl (by kernel_rfl) (by kernel_rfl) (by kernel_rfl) (fun _ _ _ h => h) (Or.inl ⟨by rfl, ?_⟩) (by assumption) ?_
      rotate_left
      · intro wS hSw
        first
          | (go_simp; done)
          | (go_simp; with_reducible rfl)
      try simp only [Act.put, List.setIfInBounds_toArray, List.set_cons_zero, List.set_cons_succ]
      refine wpAnyH_take (i := 5) (oi := ({ dst := some 30, op := Op.load 3 (Operand.tmp 29), type := 3, pos := "patch.go:84", after := #[{ on := 4, ground := Ground.data }], guard := none } : Oper)) (v := ?_) rfl (by kernel_rfl) (by kernel_rfl) (by kernel_rfl) (fun _ _ _ h => h) (Or.inl ⟨by rfl, ?_⟩) (by assumption) ?_
      rotate_left
      · intro wS hSw
        obtain ⟨hq1, hq2⟩ := hSw
        have hn9 := hq2.at 4 _ rfl; clear hq1 hq2
        first
          | (go_simp; done)
          | (go_simp; with_reducible rfl)
      try simp only [Act.put, List.setIfInBounds_toArray, List.set_cons_zero, List.set_cons_succ]
      refine wpAnyH_take (i := 6) (oi := ({ dst := some 31, op := Op.binOp BinOp.mul 3 (Operand.tmp 28) (Operand.tmp 30) 3, type := 3, pos := "patch.go:84", after := #[{ on := 3, ground := Ground.data }, { on := 5, ground := Ground.data }], guard := none } : Oper)) (v := ?_) rfl (by kernel_rfl) (by kernel_rfl) (by kernel_rfl) (fun _ _ _ h => h) (Or.inl ⟨by rfl, ?_⟩) (by assumption) ?_
      rotate_left
      · intro wS hSw
        first
          | (go_simp; done)
          | (go_simp; with_reducible rfl)
      try simp only [Act.put, List.setIfInBounds_toArray, List.set_cons_zero, List.set_cons_succ]
      refine wpAnyH_take (i := 7) (oi := ({ dst := some 32, op := Op.fieldAddr 32 (Operand.tmp 7) 5, type := 0, pos := "patch.go:84", after := #[], guard := none } : Oper)) (v := ?_) rfl (by kernel_rfl) (by kernel_rfl) (by kernel_rfl) (fun _ _ _ h => h) (Or.inl ⟨by rfl, ?_⟩) (by assumption) ?_
      rotate_left
      · intro wS hSw
        first
          | (go_simp; done)
          | (go_simp; with_reducible rfl)
      try simp only [Act.put, List.setIfInBounds_toArray, List.set_cons_zero, List.set_cons_succ]
      refine wpAnyH_take (i := 8) (oi := ({ dst := some 33, op := Op.load 3 (Operand.tmp 32), type := 3, pos := "patch.go:84", after := #[{ on := 7, ground := Ground.data }], guard := none } : Oper)) (v := ?_) rfl (by kernel_rfl) (by kernel_rfl) (by kernel_rfl) (fun _ _ _ h => h) (Or.inl ⟨by rfl, ?_⟩) (by assumption) ?_
      rotate_left
      · intro wS hSw
        obtain ⟨hq1, hq2⟩ := hSw
        have hn9 := hq2.at 5 _ rfl; clear hq1 hq2
        first
          | (go_simp; done)
          | (go_simp; with_reducible rfl)
      try simp only [Act.put, List.setIfInBounds_toArray, List.set_cons_zero, List.set_cons_succ]
      refine wpAnyH_take (i := 9) (oi := ({ dst := some 34, op := Op.binOp BinOp.sub 3 (Operand.tmp 31) (Operand.tmp 33) 3, type := 3, pos := "patch.go:84", after := #[{ on := 6, ground := Ground.data }, { on := 8, ground := Ground.data }], guard := none } : Oper)) (v := ?_) rfl (by kernel_rfl) (by kernel_rfl) (by kernel_rfl) (fun _ _ _ h => h) (Or.inl ⟨by rfl, ?_⟩) (by assumption) ?_
      rotate_left
      · intro wS hSw
        first
          | (go_simp; done)
          | (go_simp; with_reducible rfl)
      try simp only [Act.put, List.setIfInBounds_toArray, List.set_cons_zero, List.set_cons_succ]
      refine wpAnyH_take (i := 10) (oi := ({ dst := some 35, op := Op.move (Operand.tmp 10), type := 3, pos := "patch.go:84", after := #[{ on := 23, ground := Ground.gcOnly Departure.lateStores }], guard := none } : Oper)) (v := ?_) rfl (by kernel_rfl) (by kernel_rfl) (by kernel_rfl) (fun _ _ _ h => h) (Or.inl ⟨by rfl, ?_⟩) (by assumption) ?_
      rotate_left
      · intro wS hSw
        first
          | (go_simp; done)
          | (go_simp; with_reducible rfl)
      try simp only [Act.put, List.setIfInBounds_toArray, List.set_cons_zero, List.set_cons_succ]
      refine wpAnyH_take (i := 11) (oi := ({ dst := some 36, op := Op.fieldAddr 23 (Operand.tmp 6) 1, type := 0, pos := "patch.go:84", after := #[{ on := 23, ground := Ground.gcOnly Departure.lateStores }], guard := none } : Oper)) (v := ?_) rfl (by kernel_rfl) (by kernel_rfl) (by kernel_rfl) (fun _ _ _ h => h) (Or.inl ⟨by rfl, ?_⟩) (by assumption) ?_
      rotate_left
      · intro wS hSw
        first
          | (go_simp; done)
          | (go_simp; with_reducible rfl)
      try simp only [Act.put, List.setIfInBounds_toArray, List.set_cons_zero, List.set_cons_succ]
      refine wpAnyH_take (i := 12) (oi := ({ dst := some 37, op := Op.load 3 (Operand.tmp 36), type := 3, pos := "patch.go:84", after := #[{ on := 11, ground := Ground.data }, { on := 23, ground := Ground.gcOnly Departure.lateStores }], guard := none } : Oper)) (v := ?_) rfl (by kernel_rfl) (by kernel_rfl) (by kernel_rfl) (fun _ _ _ h => h) (Or.inl ⟨by rfl, ?_⟩) (by assumption) ?_
      rotate_left
      · intro wS hSw
        obtain ⟨hq1, hq2⟩ := hSw
        obtain ⟨z1, z2, z3⟩ := hq1; clear hq2
        first
          | (go_simp; done)
          | (go_simp; with_reducible rfl)
      try simp only [Act.put, List.setIfInBounds_toArray, List.set_cons_zero, List.set_cons_succ]
      refine wpAnyH_take (i := 13) (oi := ({ dst := some 38, op := Op.binOp BinOp.rem 3 (Operand.tmp 35) (Operand.tmp 37) 3, type := 3, pos := "patch.go:84", after := #[{ on := 10, ground := Ground.data }, { on := 12, ground := Ground.data }, { on := 23, ground := Ground.gcOnly Departure.lateStores }], guard := none } : Oper)) (v := ?_) rfl (by kernel_rfl) (by kernel_rfl) (by kernel_rfl) (fun _ _ _ h => h) (Or.inl ⟨by rfl, ?_⟩) (by assumption) ?_
      rotate_left
      · intro wS hSw
        first
          | (go_simp; done)
          | (go_simp; with_reducible rfl)
      try simp only [Act.put, List.setIfInBounds_toArray, List.set_cons_zero, List.set_cons_succ]
      refine wpAnyH_take (i := 14) (oi := ({ dst := some 39, op := Op.fieldAddr 32 (Operand.tmp 7) 4, type := 0, pos := "patch.go:84", after := #[{ on := 23, ground := Ground.gcOnly Departure.lateStores }], guard := none } : Oper)) (v := ?_) rfl (by kernel_rfl) (by kernel_rfl) (by kernel_rfl) (fun _ _ _ h => h) (Or.inl ⟨by rfl, ?_⟩) (by assumption) ?_
      rotate_left
      · intro wS hSw
        first
          | (go_simp; done)
          | (go_simp; with_reducible rfl)
      try simp only [Act.put, List.setIfInBounds_toArray, List.set_cons_zero, List.set_cons_succ]
      refine wpAnyH_take (i := 15) (oi := ({ dst := some 40, op := Op.load 3 (Operand.tmp 39), type := 3, pos := "patch.go:84", after := #[{ on := 14, ground := Ground.data }, { on := 23, ground := Ground.gcOnly Departure.lateStores }], guard := none } : Oper)) (v := ?_) rfl (by kernel_rfl) (by kernel_rfl) (by kernel_rfl) (fun _ _ _ h => h) (Or.inl ⟨by rfl, ?_⟩) (by assumption) ?_
      rotate_left
      · intro wS hSw
        obtain ⟨hq1, hq2⟩ := hSw
        have hn9 := hq2.at 4 _ rfl; clear hq1 hq2
        first
          | (go_simp; done)
          | (go_simp; with_reducible rfl)
      try simp only [Act.put, List.setIfInBounds_toArray, List.set_cons_zero, List.set_cons_succ]
      refine wpAnyH_take (i := 16) (oi := ({ dst := some 41, op := Op.binOp BinOp.mul 3 (Operand.tmp 38) (Operand.tmp 40) 3, type := 3, pos := "patch.go:84", after := #[{ on := 13, ground := Ground.data }, { on := 15, ground := Ground.data }, { on := 23, ground := Ground.gcOnly Departure.lateStores }], guard := none } : Oper)) (v := ?_) rfl (by kernel_rfl) (by kernel_rfl) (by kernel_rfl) (fun _ _ _ h => h) (Or.inl ⟨by rfl, ?_⟩) (by assumption) ?_
      rotate_left
      · intro wS hSw
        first
          | (go_simp; done)
          | (go_simp; with_reducible rfl)
      try simp only [Act.put, List.setIfInBounds_toArray, List.set_cons_zero, List.set_cons_succ]
      refine wpAnyH_take (i := 17) (oi := ({ dst := some 42, op := Op.fieldAddr 32 (Operand.tmp 7) 5, type := 0, pos := "patch.go:84", after := #[{ on := 23, ground := Ground.gcOnly Departure.lateStores }], guard := none } : Oper)) (v := ?_) rfl (by kernel_rfl) (by kernel_rfl) (by kernel_rfl) (fun _ _ _ h => h) (Or.inl ⟨by rfl, ?_⟩) (by assumption) ?_
      rotate_left
      · intro wS hSw
        first
          | (go_simp; done)
          | (go_simp; with_reducible rfl)
      try simp only [Act.put, List.setIfInBounds_toArray, List.set_cons_zero, List.set_cons_succ]
      refine wpAnyH_take (i := 18) (oi := ({ dst := some 43, op := Op.load 3 (Operand.tmp 42), type := 3, pos := "patch.go:84", after := #[{ on := 17, ground := Ground.data }, { on := 23, ground := Ground.gcOnly Departure.lateStores }], guard := none } : Oper)) (v := ?_) rfl (by kernel_rfl) (by kernel_rfl) (by kernel_rfl) (fun _ _ _ h => h) (Or.inl ⟨by rfl, ?_⟩) (by assumption) ?_
      rotate_left
      · intro wS hSw
        obtain ⟨hq1, hq2⟩ := hSw
        have hn9 := hq2.at 5 _ rfl; clear hq1 hq2
        first
          | (go_simp; done)
          | (go_simp; with_reducible rfl)
      try simp only [Act.put, List.setIfInBounds_toArray, List.set_cons_zero, List.set_cons_succ]
      refine wpAnyH_take (i := 19) (oi := ({ dst := some 44, op := Op.binOp BinOp.sub 3 (Operand.tmp 41) (Operand.tmp 43) 3, type := 3, pos := "patch.go:84", after := #[{ on := 16, ground := Ground.data }, { on := 18, ground := Ground.data }, { on := 23, ground := Ground.gcOnly Departure.lateStores }], guard := none } : Oper)) (v := ?_) rfl (by kernel_rfl) (by kernel_rfl) (by kernel_rfl) (fun _ _ _ h => h) (Or.inl ⟨by rfl, ?_⟩) (by assumption) ?_
      rotate_left
      · intro wS hSw
        first
          | (go_simp; done)
          | (go_simp; with_reducible rfl)
      try simp only [Act.put, List.setIfInBounds_toArray, List.set_cons_zero, List.set_cons_succ]
      refine wpAnyH_take (i := 20) (oi := ({ dst := some 45, op := Op.move (Operand.tmp 3), type := 88, pos := "patch.go:84", after := #[], guard := none } : Oper)) (v := ?_) rfl (by kernel_rfl) (by kernel_rfl) (by kernel_rfl) (fun _ _ _ h => h) (Or.inl ⟨by rfl, ?_⟩) (by assumption) ?_
      rotate_left
      · intro wS hSw
        first
          | (go_simp; done)
          | (go_simp; with_reducible rfl)
      try simp only [Act.put, List.setIfInBounds_toArray, List.set_cons_zero, List.set_cons_succ]
      refine wpAnyH_take (i := 21) (oi := ({ dst := some 46, op := Op.move (Operand.tmp 10), type := 3, pos := "patch.go:84", after := #[], guard := none } : Oper)) (v := ?_) rfl (by kernel_rfl) (by kernel_rfl) (by kernel_rfl) (fun _ _ _ h => h) (Or.inl ⟨by rfl, ?_⟩) (by assumption) ?_
      rotate_left
      · intro wS hSw
        first
          | (go_simp; done)
          | (go_simp; with_reducible rfl)
      try simp only [Act.put, List.setIfInBounds_toArray, List.set_cons_zero, List.set_cons_succ]
      refine wpAnyH_ready (rs := [22]) (by kernel_rfl) (by simp) ?_
      refine AllReadyH.cons (o := ({ dst := some 47, op := Op.call { callee := Callee.value (Operand.tmp 45), args := #[Operand.tmp 46], argTypes := #[3] }, type := 3, pos := "patch.go:84", after := #[{ on := 20, ground := Ground.data }, { on := 21, ground := Ground.data }], guard := none } : Oper)) rfl (fun Kq hK => ?_) (AllReadyH.nil)
      go_simp
      go_at_call 43
      refine (begin_to M (wd : Int) xD (i : Int) (bg : Int) f5 _).mono ?_
      rintro e w1 ⟨rfl, hb1⟩
      have hbb : Below wr.heap.size wr w1 := (Below.refl _ _).drew.trans hb1
      clear hb1 hHeld
      replace HI := Lib.hid (HSTAY.out _ _ _ HI.out hbb)
      replace T1 := Lib.hid (T1.out.below (B' := wr.heap.size) (by omega) hbb)
      replace T2 := Lib.hid (T2.out.below (B' := wr.heap.size) (by omega) hbb)
      replace T3 := Lib.hid (T3.out.below (B' := wr.heap.size) (by omega) hbb)
      replace HG := Lib.hid (HG.out.trans (Kit.grown_of_below hbb (some gd)))
      replace hz := Nat.le_trans hz hbb.size
      clear hbb
      dsimp only
      refine hK.out _ _ ?_ (fun hHeld => ?_)
      · exact ⟨T2.out, T3.out⟩
      clear hK Kq
      try simp only [Act.put, List.setIfInBounds_toArray, List.set_cons_zero, List.set_cons_succ]
      refine wpAnyH_take (i := 23) (oi := ({ dst := some 11, op := Op.assign (Operand.tmp 34), type := 3, pos := "patch.go:84", after := #[{ on := 9, ground := Ground.data }, { on := 22, ground := Ground.chain }, { on := 0, ground := Ground.phase }, { on := 1, ground := Ground.phase }, { on := 2, ground := Ground.phase }, { on := 3, ground := Ground.phase }, { on := 4, ground := Ground.phase }, { on := 5, ground := Ground.phase }, { on := 6, ground := Ground.phase }, { on := 7, ground := Ground.phase }, { on := 8, ground := Ground.phase }, { on := 9, ground := Ground.phase }, { on := 10, ground := Ground.textOnly Departure.lateStores }, { on := 11, ground := Ground.textOnly Departure.lateStores }, { on := 12, ground := Ground.textOnly Departure.lateStores }, { on := 13, ground := Ground.textOnly Departure.lateStores }, { on := 14, ground := Ground.textOnly Departure.lateStores }, { on := 15, ground := Ground.textOnly Departure.lateStores }, { on := 16, ground := Ground.textOnly Departure.lateStores }, { on := 17, ground := Ground.textOnly Departure.lateStores }, { on := 18, ground := Ground.textOnly Departure.lateStores }, { on := 19, ground := Ground.textOnly Departure.lateStores }, { on := 20, ground := Ground.textOnly Departure.lateStores }, { on := 21, ground := Ground.textOnly Departure.lateStores }, { on := 22, ground := Ground.textOnly Departure.lateStoresUnsure }], guard := none } : Oper)) (v := ?_) rfl (by kernel_rfl) (by kernel_rfl) (by kernel_rfl) (fun _ _ _ h => h) (Or.inl ⟨by rfl, ?_⟩) (by assumption) ?_
      rotate_left
      · intro wS hSw
        first
          | (go_simp; done)
          | (go_simp; with_reducible rfl)
      try simp only [Act.put, List.setIfInBounds_toArray, List.set_cons_zero, List.set_cons_succ]
      refine wpAnyH_take (i := 24) (oi := ({ dst := some 12, op := Op.assign (Operand.tmp 44), type := 3, pos := "patch.go:84", after := #[{ on := 19, ground := Ground.data }, { on := 23, ground := Ground.chain }, { on := 0, ground := Ground.phase }, { on := 1, ground := Ground.phase }, { on := 2, ground := Ground.phase }, { on := 3, ground := Ground.phase }, { on := 4, ground := Ground.phase }, { on := 5, ground := Ground.phase }, { on := 6, ground := Ground.phase }, { on := 7, ground := Ground.phase }, { on := 8, ground := Ground.phase }, { on := 9, ground := Ground.phase }, { on := 10, ground := Ground.phase }, { on := 11, ground := Ground.phase }, { on := 12, ground := Ground.phase }, { on := 13, ground := Ground.phase }, { on := 14, ground := Ground.phase }, { on := 15, ground := Ground.phase }, { on := 16, ground := Ground.phase }, { on := 17, ground := Ground.phase }, { on := 18, ground := Ground.phase }, { on := 19, ground := Ground.phase }, { on := 20, ground := Ground.textOnly Departure.lateStores }, { on := 21, ground := Ground.textOnly Departure.lateStores }, { on := 22, ground := Ground.textOnly Departure.lateStoresUnsure }, { on := 23, ground := Ground.phase }], guard := none } : Oper)) (v := ?_) rfl (by kernel_rfl) (by kernel_rfl) (by kernel_rfl) (fun _ _ _ h => h) (Or.inl ⟨by rfl, ?_⟩) (by assumption) ?_
      rotate_left
      · intro wS hSw
        first
          | (go_simp; done)
          | (go_simp; with_reducible rfl)
      try simp only [Act.put, List.setIfInBounds_toArray, List.set_cons_zero, List.set_cons_succ]
      refine wpAnyH_take (i := 25) (oi := ({ dst := some 13, op := Op.assign (Operand.tmp 47), type := 3, pos := "patch.go:84", after := #[{ on := 22, ground := Ground.data }, { on := 24, ground := Ground.chain }, { on := 0, ground := Ground.phase }, { on := 1, ground := Ground.phase }, { on := 2, ground := Ground.phase }, { on := 3, ground := Ground.phase }, { on := 4, ground := Ground.phase }, { on := 5, ground := Ground.phase }, { on := 6, ground := Ground.phase }, { on := 7, ground := Ground.phase }, { on := 8, ground := Ground.phase }, { on := 9, ground := Ground.phase }, { on := 10, ground := Ground.phase }, { on := 11, ground := Ground.phase }, { on := 12, ground := Ground.phase }, { on := 13, ground := Ground.phase }, { on := 14, ground := Ground.phase }, { on := 15, ground := Ground.phase }, { on := 16, ground := Ground.phase }, { on := 17, ground := Ground.phase }, { on := 18, ground := Ground.phase }, { on := 19, ground := Ground.phase }, { on := 20, ground := Ground.phase }, { on := 21, ground := Ground.phase }, { on := 22, ground := Ground.phase }, { on := 23, ground := Ground.phase }, { on := 24, ground := Ground.phase }], guard := none } : Oper)) (v := ?_) rfl (by kernel_rfl) (by kernel_rfl) (by kernel_rfl) (fun _ _ _ h => h) (Or.inl ⟨by rfl, ?_⟩) (by assumption) ?_
      rotate_left
      · intro wS hSw
        first
          | (go_simp; done)
          | (go_simp; with_reducible rfl)
      try simp only [Act.put, List.setIfInBounds_toArray, List.set_cons_zero, List.set_cons_succ]
      refine wpAnyH_done (by kernel_rfl) ?_ _
      clear hHeld d1 d2 d3 d4 f1 f2 f3 f4 f5
      have n3 := T3.out.at 3 _ rfl
      go_wp2_with fail
      clear n3
      go_loopw [53] (fun u wr => ∃ q : Nat, q ≤ k2 ∧ u = .int .i64 q ∧ Hid (I (i * k2 + q) wr) ∧ Hid (ShapeAt w.heap.size H W C wr) ∧ Hid (ShapeAt (w.heap.size + 1) (a : Int) (b : Int) 1 wr) ∧ Hid (NodeAt (w.heap.size + 2) x0 x1 x2 x8 x11 x12 x13 x14 x15 x16 x17 x18 (kk : Int) S P O Z WA BA nW cW nB cB wr) ∧ Hid (w.grownBy wr (some gd)) ∧ w.heap.size + 3 ≤ wr.heap.size) (fun u _ => k2 - (intOf u).toNat)
      case atStart => exact ⟨0, Nat.zero_le _, rfl, by rw [Nat.add_zero]; exact HI, T1, T2, T3, HG, hz⟩
      case round =>
        clear T1 T2 T3 HG HI hz
        obtain ⟨q, hq, rfl, HI, T1, T2, T3, HG, hz⟩ := hrel
        by_cases hltq : q < k2
        · have hqI : (q : Int) < (k2 : Int) := by omega
          obtain ⟨qi, hqi⟩ : ∃ x, q / kk = x := ⟨_, rfl⟩
          obtain ⟨qj, hqj⟩ : ∃ x, q % kk = x := ⟨_, rfl⟩
          have hqj5 : qj < kk := by rw [← hqj]; exact Nat.mod_lt _ (by omega)
          have hqi5 : qi < kk := by rw [← hqi]; exact Nat.div_lt_of_lt_mul (by rw [HK2.out]; exact hltq)
          obtain ⟨y, hy⟩ : ∃ y, top + (qi : Int) = y := ⟨_, rfl⟩
          obtain ⟨x, hx⟩ : ∃ x, left + (qj : Int) = x := ⟨_, rfl⟩
          have kk9 : ¬ kk = 0 := by omega
          have d1 : (q : Int).tdiv (kk : Int) = (qi : Int) := by rw [Int.tdiv_eq_ediv_of_nonneg (by omega), ← hqi]; simp
          have d2 : (q : Int).tmod (kk : Int) = (qj : Int) := by rw [Int.tmod_eq_emod_of_nonneg (by omega), ← hqj]; simp
          have d3 : IntKind.i64.wrap (qi : Int) = (qi : Int) := IntWalk.i64_in _ (by omega)
          have d4 : IntKind.i64.wrap (qj : Int) = (qj : Int) := IntWalk.i64_in _ (by omega)
          have f1 : IntKind.i64.wrap (top + (qi : Int)) = y := by rw [hy]; exact IntWalk.i64_in _ (by omega)
          have f2 : IntKind.i64.wrap (left + (qj : Int)) = x := by rw [hx]; exact IntWalk.i64_in _ (by omega)
          have HYE : Hid (y = ((i / b : Nat) : Int) * S - P + ((q / kk : Nat) : Int)) := Lib.hid (by rw [HTOP.out, hqi]; exact hy.symm)
          have HXE : Hid (x = ((i % b : Nat) : Int) * S - P + ((q % kk : Nat) : Int)) := Lib.hid (by rw [HLEFT.out, hqj]; exact hx.symm)
          clear hqi hqj hy hx
          by_cases hin : 0 ≤ y ∧ y < H ∧ 0 ≤ x ∧ x < W
          · obtain ⟨i1, i2, i3, i4⟩ := hin
            obtain ⟨pos, hpos⟩ : ∃ pos, (y * W + x) * C = pos := ⟨_, rfl⟩
            obtain ⟨o1, ho1⟩ : ∃ o1, q * d = o1 := ⟨_, rfl⟩
            have ho1b : o1 ≤ 25600 := by rw [← ho1]; exact Nat.le_trans (Nat.mul_le_mul (show q ≤ 25 by omega) hd1) (by omega)
            obtain ⟨o2, ho2⟩ : ∃ o2, bg + o1 = o2 := ⟨_, rfl⟩
            have f3 : IntKind.i64.wrap ((q : Int) * C) = (o1 : Int) := by rw [HD.out, ← Int.natCast_mul, ho1]; exact IntWalk.i64_in _ (by omega)
            have f4 : IntKind.i64.wrap ((bg : Int) + (o1 : Int)) = (o2 : Int) := by rw [← Int.natCast_add, ho2]; exact IntWalk.i64_in _ (by omega)
            have HV : Hid (∀ v : World, I (i * k2 + q) v → Calls Try.prog 44 #[.int .i64 (o2 : Int), .int .i64 pos, .pointer (some ⟨pt, 0, none⟩), .pointer (some ⟨pn, 0, none⟩), .pointer (some ⟨pr, 0, none⟩)] v fun e v' => (∃ u, e = .returned u) ∧ I (i * k2 + (q + 1)) v' ∧ v.grownBy v' (some gd)) := Lib.hid (by
              have := HIN.out i q y x pos hlt hltq HYE.out HXE.out i1 i2 i3 i4 hpos
              rwa [HBG.out, ho1, ho2] at this)
            have HPOS : Hid ((y * W + x) * C + 0 = pos) := Lib.hid (by rw [Int.add_zero]; exact hpos)
            clear hpos ho1 ho2
            go_wp2_with fail
            refine wp_region_held_drew (S := fun w' => ShapeAt w.heap.size H W C w' ∧ NodeAt (w.heap.size + 2) x0 x1 x2 x8 x11 x12 x13 x14 x15 x16 x17 x18 (kk : Int) S P O Z WA BA nW cW nB cB w') (by kernel_rfl) ⟨T1.out, T3.out⟩ (fun hHeld => ?_)
            refine wpAnyH_take (i := 0) (oi := ({ dst := some 57, op := Op.load 23 (Operand.tmp 5), type := 23, pos := "patch.go:86", after := #[], guard := none } : Oper)) (v := ?_) rfl (by kernel_rfl) (by kernel_rfl) (by kernel_rfl) (fun _ _ _ h => h) (Or.inl ⟨by rfl, ?_⟩) (by assumption) ?_
            rotate_left
            · intro wS hSw
              obtain ⟨hq1, hq2⟩ := hSw
              obtain ⟨z1, z2, z3⟩ := hq1; clear hq2
              first
                | (go_simp; done)
                | (go_simp; with_reducible rfl)
            try simp only [Act.put, List.setIfInBounds_toArray, List.set_cons_zero, List.set_cons_succ]
            refine wpAnyH_take (i := 1) (oi := ({ dst := some 58, op := Op.move (Operand.tmp 11), type := 3, pos := "patch.go:86", after := #[], guard := none } : Oper)) (v := ?_) rfl (by kernel_rfl) (by kernel_rfl) (by kernel_rfl) (fun _ _ _ h => h) (Or.inl ⟨by rfl, ?_⟩) (by assumption) ?_
            rotate_left
            · intro wS hSw
              first
                | (go_simp; done)
                | (go_simp; with_reducible rfl)
            try simp only [Act.put, List.setIfInBounds_toArray, List.set_cons_zero, List.set_cons_succ]
            refine wpAnyH_take (i := 2) (oi := ({ dst := some 59, op := Op.move (Operand.tmp 14), type := 3, pos := "patch.go:86", after := #[], guard := none } : Oper)) (v := ?_) rfl (by kernel_rfl) (by kernel_rfl) (by kernel_rfl) (fun _ _ _ h => h) (Or.inl ⟨by rfl, ?_⟩) (by assumption) ?_
            rotate_left
            · intro wS hSw
              first
                | (go_simp; done)
                | (go_simp; with_reducible rfl)
            try simp only [Act.put, List.setIfInBounds_toArray, List.set_cons_zero, List.set_cons_succ]
            refine wpAnyH_take (i := 3) (oi := ({ dst := some 60, op := Op.fieldAddr 32 (Operand.tmp 7) 3, type := 0, pos := "patch.go:86", after := #[], guard := none } : Oper)) (v := ?_) rfl (by kernel_rfl) (by kernel_rfl) (by kernel_rfl) (fun _ _ _ h => h) (Or.inl ⟨by rfl, ?_⟩) (by assumption) ?_
            rotate_left
            · intro wS hSw
              first
                | (go_simp; done)
                | (go_simp; with_reducible rfl)
            try simp only [Act.put, List.setIfInBounds_toArray, List.set_cons_zero, List.set_cons_succ]
            refine wpAnyH_take (i := 4) (oi := ({ dst := some 61, op := Op.load 3 (Operand.tmp 60), type := 3, pos := "patch.go:86", after := #[{ on := 3, ground := Ground.data }], guard := none } : Oper)) (v := ?_) rfl (by kernel_rfl) (by kernel_rfl) (by kernel_rfl) (fun _ _ _ h => h) (Or.inl ⟨by rfl, ?_⟩) (by assumption) ?_
            rotate_left
            · intro wS hSw
              obtain ⟨hq1, hq2⟩ := hSw
              have hn9 := hq2.at 3 _ rfl; clear hq1 hq2
              first
                | (go_simp; done)
                | (go_simp; with_reducible rfl)
            try simp only [Act.put, List.setIfInBounds_toArray, List.set_cons_zero, List.set_cons_succ]
            refine wpAnyH_take (i := 5) (oi := ({ dst := some 62, op := Op.binOp BinOp.quo 3 (Operand.tmp 59) (Operand.tmp 61) 3, type := 3, pos := "patch.go:86", after := #[{ on := 2, ground := Ground.data }, { on := 4, ground := Ground.data }], guard := none } : Oper)) (v := ?_) rfl (by kernel_rfl) (by kernel_rfl) (by kernel_rfl) (fun _ _ _ h => h) (Or.inl ⟨by rfl, ?_⟩) (by assumption) ?_
            rotate_left
            · intro wS hSw
              first
                | (go_simp; done)
                | (go_simp; with_reducible rfl)
            try simp only [Act.put, List.setIfInBounds_toArray, List.set_cons_zero, List.set_cons_succ]
            refine wpAnyH_take (i := 6) (oi := ({ dst := some 63, op := Op.binOp BinOp.add 3 (Operand.tmp 58) (Operand.tmp 62) 3, type := 3, pos := "patch.go:86", after := #[{ on := 1, ground := Ground.data }, { on := 5, ground := Ground.data }], guard := none } : Oper)) (v := ?_) rfl (by kernel_rfl) (by kernel_rfl) (by kernel_rfl) (fun _ _ _ h => h) (Or.inl ⟨by rfl, ?_⟩) (by assumption) ?_
            rotate_left
            · intro wS hSw
              first
                | (go_simp; done)
                | (go_simp; with_reducible rfl)
            try simp only [Act.put, List.setIfInBounds_toArray, List.set_cons_zero, List.set_cons_succ]
            refine wpAnyH_take (i := 7) (oi := ({ dst := some 64, op := Op.move (Operand.tmp 12), type := 3, pos := "patch.go:86", after := #[], guard := none } : Oper)) (v := ?_) rfl (by kernel_rfl) (by kernel_rfl) (by kernel_rfl) (fun _ _ _ h => h) (Or.inl ⟨by rfl, ?_⟩) (by assumption) ?_
            rotate_left
            · intro wS hSw
              first
                | (go_simp; done)
                | (go_simp; with_reducible rfl)
            try simp only [Act.put, List.setIfInBounds_toArray, List.set_cons_zero, List.set_cons_succ]
            refine wpAnyH_take (i := 8) (oi := ({ dst := some 65, op := Op.move (Operand.tmp 14), type := 3, pos := "patch.go:86", after := #[], guard := none } : Oper)) (v := ?_) rfl (by kernel_rfl) (by kernel_rfl) (by kernel_rfl) (fun _ _ _ h => h) (Or.inl ⟨by rfl, ?_⟩) (by assumption) ?_
            rotate_left
            · intro wS hSw
              first
                | (go_simp; done)
                | (go_simp; with_reducible rfl)
            try simp only [Act.put, List.setIfInBounds_toArray, List.set_cons_zero, List.set_cons_succ]
            refine wpAnyH_take (i := 9) (oi := ({ dst := some 66, op := Op.fieldAddr 32 (Operand.tmp 7) 3, type := 0, pos := "patch.go:86", after := #[], guard := none } : Oper)) (v := ?_) rfl (by kernel_rfl) (by kernel_rfl) (by kernel_rfl) (fun _ _ _ h => h) (Or.inl ⟨by rfl, ?_⟩) (by assumption) ?_
            rotate_left
            · intro wS hSw
              first
                | (go_simp; done)
                | (go_simp; with_reducible rfl)
            try simp only [Act.put, List.setIfInBounds_toArray, List.set_cons_zero, List.set_cons_succ]
            refine wpAnyH_take (i := 10) (oi := ({ dst := some 67, op := Op.load 3 (Operand.tmp 66), type := 3, pos := "patch.go:86", after := #[{ on := 9, ground := Ground.data }], guard := none } : Oper)) (v := ?_) rfl (by kernel_rfl) (by kernel_rfl) (by kernel_rfl) (fun _ _ _ h => h) (Or.inl ⟨by rfl, ?_⟩) (by assumption) ?_
            rotate_left
            · intro wS hSw
              obtain ⟨hq1, hq2⟩ := hSw
              have hn9 := hq2.at 3 _ rfl; clear hq1 hq2
              first
                | (go_simp; done)
                | (go_simp; with_reducible rfl)
            try simp only [Act.put, List.setIfInBounds_toArray, List.set_cons_zero, List.set_cons_succ]
            refine wpAnyH_take (i := 11) (oi := ({ dst := some 68, op := Op.binOp BinOp.rem 3 (Operand.tmp 65) (Operand.tmp 67) 3, type := 3, pos := "patch.go:86", after := #[{ on := 8, ground := Ground.data }, { on := 10, ground := Ground.data }], guard := none } : Oper)) (v := ?_) rfl (by kernel_rfl) (by kernel_rfl) (by kernel_rfl) (fun _ _ _ h => h) (Or.inl ⟨by rfl, ?_⟩) (by assumption) ?_
            rotate_left
            · intro wS hSw
              first
                | (go_simp; done)
                | (go_simp; with_reducible rfl)
            try simp only [Act.put, List.setIfInBounds_toArray, List.set_cons_zero, List.set_cons_succ]
            refine wpAnyH_take (i := 12) (oi := ({ dst := some 69, op := Op.binOp BinOp.add 3 (Operand.tmp 64) (Operand.tmp 68) 3, type := 3, pos := "patch.go:86", after := #[{ on := 7, ground := Ground.data }, { on := 11, ground := Ground.data }], guard := none } : Oper)) (v := ?_) rfl (by kernel_rfl) (by kernel_rfl) (by kernel_rfl) (fun _ _ _ h => h) (Or.inl ⟨by rfl, ?_⟩) (by assumption) ?_
            rotate_left
            · intro wS hSw
              first
                | (go_simp; done)
                | (go_simp; with_reducible rfl)
            try simp only [Act.put, List.setIfInBounds_toArray, List.set_cons_zero, List.set_cons_succ]
            refine wpAnyH_ready (rs := [13]) (by kernel_rfl) (by simp) ?_
            refine AllReadyH.cons (o := ({ dst := some 70, op := Op.call { callee := Callee.value (Operand.func 53), args := #[Operand.tmp 57, Operand.tmp 63, Operand.tmp 69, Operand.const (Value.int IntKind.i64 0)], argTypes := #[23, 3, 3, 3] }, type := 77, pos := "patch.go:86", after := #[{ on := 0, ground := Ground.data }, { on := 6, ground := Ground.data }, { on := 12, ground := Ground.data }], guard := none } : Oper)) rfl (fun Kq hK => ?_) (AllReadyH.nil)
            go_simp
            go_at_call 53
            refine (index_yes H W C y x 0 pos HS.out i1 i2 i3 i4 (Int.le_refl _) (by omega) HPOS.out _).mono ?_
            rintro e w1 ⟨rfl, hb1⟩
            have hbb : Below wr.heap.size wr w1 := (Below.refl _ _).drew.trans hb1
            clear hb1 hHeld
            replace HI := Lib.hid (HSTAY.out _ _ _ HI.out hbb)
            replace T1 := Lib.hid (T1.out.below (B' := wr.heap.size) (by omega) hbb)
            replace T2 := Lib.hid (T2.out.below (B' := wr.heap.size) (by omega) hbb)
            replace T3 := Lib.hid (T3.out.below (B' := wr.heap.size) (by omega) hbb)
            replace HG := Lib.hid (HG.out.trans (Kit.grown_of_below hbb (some gd)))
            replace hz := Nat.le_trans hz hbb.size
            clear hbb
            dsimp only
            refine hK.out _ _ ?_ (fun hHeld => ?_)
            · exact ⟨T1.out, T3.out⟩
            clear hK Kq
            try simp only [Act.put, List.setIfInBounds_toArray, List.set_cons_zero, List.set_cons_succ]
            refine wpAnyH_take (i := 14) (oi := ({ dst := some 56, op := Op.move (Operand.tmp 70), type := 77, pos := "patch.go:86", after := #[{ on := 13, ground := Ground.data }], guard := none } : Oper)) (v := ?_) rfl (by kernel_rfl) (by kernel_rfl) (by kernel_rfl) (fun _ _ _ h => h) (Or.inl ⟨by rfl, ?_⟩) (by assumption) ?_
            rotate_left
            · intro wS hSw
              first
                | (go_simp; done)
                | (go_simp; with_reducible rfl)
            try simp only [Act.put, List.setIfInBounds_toArray, List.set_cons_zero, List.set_cons_succ]
            refine wpAnyH_take (i := 15) (oi := ({ dst := some 71, op := Op.extract (Operand.tmp 56) 0, type := 3, pos := "patch.go:86", after := #[{ on := 14, ground := Ground.data }], guard := none } : Oper)) (v := ?_) rfl (by kernel_rfl) (by kernel_rfl) (by kernel_rfl) (fun _ _ _ h => h) (Or.inl ⟨by rfl, ?_⟩) (by assumption) ?_
            rotate_left
            · intro wS hSw
              first
                | (go_simp; done)
                | (go_simp; with_reducible rfl)
            try simp only [Act.put, List.setIfInBounds_toArray, List.set_cons_zero, List.set_cons_succ]
            refine wpAnyH_take (i := 16) (oi := ({ dst := some 72, op := Op.extract (Operand.tmp 56) 1, type := 4, pos := "patch.go:86", after := #[{ on := 14, ground := Ground.data }, { on := 17, ground := Ground.gcOnly Departure.lateStores }], guard := none } : Oper)) (v := ?_) rfl (by kernel_rfl) (by kernel_rfl) (by kernel_rfl) (fun _ _ _ h => h) (Or.inl ⟨by rfl, ?_⟩) (by assumption) ?_
            rotate_left
            · intro wS hSw
              first
                | (go_simp; done)
                | (go_simp; with_reducible rfl)
            try simp only [Act.put, List.setIfInBounds_toArray, List.set_cons_zero, List.set_cons_succ]
            refine wpAnyH_take (i := 17) (oi := ({ dst := some 15, op := Op.assign (Operand.tmp 71), type := 3, pos := "patch.go:86", after := #[{ on := 15, ground := Ground.data }, { on := 13, ground := Ground.chain }, { on := 0, ground := Ground.phase }, { on := 1, ground := Ground.phase }, { on := 2, ground := Ground.phase }, { on := 3, ground := Ground.phase }, { on := 4, ground := Ground.phase }, { on := 5, ground := Ground.phase }, { on := 6, ground := Ground.phase }, { on := 7, ground := Ground.phase }, { on := 8, ground := Ground.phase }, { on := 9, ground := Ground.phase }, { on := 10, ground := Ground.phase }, { on := 11, ground := Ground.phase }, { on := 12, ground := Ground.phase }, { on := 13, ground := Ground.phase }, { on := 14, ground := Ground.phase }, { on := 15, ground := Ground.phase }, { on := 16, ground := Ground.textOnly Departure.lateStores }], guard := none } : Oper)) (v := ?_) rfl (by kernel_rfl) (by kernel_rfl) (by kernel_rfl) (fun _ _ _ h => h) (Or.inl ⟨by rfl, ?_⟩) (by assumption) ?_
            rotate_left
            · intro wS hSw
              first
                | (go_simp; done)
                | (go_simp; with_reducible rfl)
            try simp only [Act.put, List.setIfInBounds_toArray, List.set_cons_zero, List.set_cons_succ]
            refine wpAnyH_take (i := 18) (oi := ({ dst := some 16, op := Op.assign (Operand.tmp 72), type := 4, pos := "patch.go:86", after := #[{ on := 16, ground := Ground.data }, { on := 17, ground := Ground.chain }, { on := 0, ground := Ground.phase }, { on := 1, ground := Ground.phase }, { on := 2, ground := Ground.phase }, { on := 3, ground := Ground.phase }, { on := 4, ground := Ground.phase }, { on := 5, ground := Ground.phase }, { on := 6, ground := Ground.phase }, { on := 7, ground := Ground.phase }, { on := 8, ground := Ground.phase }, { on := 9, ground := Ground.phase }, { on := 10, ground := Ground.phase }, { on := 11, ground := Ground.phase }, { on := 12, ground := Ground.phase }, { on := 13, ground := Ground.phase }, { on := 14, ground := Ground.phase }, { on := 15, ground := Ground.phase }, { on := 16, ground := Ground.phase }, { on := 17, ground := Ground.phase }], guard := none } : Oper)) (v := ?_) rfl (by kernel_rfl) (by kernel_rfl) (by kernel_rfl) (fun _ _ _ h => h) (Or.inl ⟨by rfl, ?_⟩) (by assumption) ?_
            rotate_left
            · intro wS hSw
              first
                | (go_simp; done)
                | (go_simp; with_reducible rfl)
            try simp only [Act.put, List.setIfInBounds_toArray, List.set_cons_zero, List.set_cons_succ]
            refine wpAnyH_done (by kernel_rfl) ?_ _
            clear hHeld d1 d2 d3 d4 f1 f2
            obtain ⟨c1, c2, c3⟩ := T1.out
            go_wp2_with (go_at_call 44; (refine (HV.out _ HI.out).mono ?_); rintro e w2 ⟨⟨u, rfl⟩, hi2, hg2⟩)
            replace HI := Lib.hid hi2
            replace T1 := Lib.hid (ShapeAt_grown T1.out hg2 (by omega) (by omega))
            replace T2 := Lib.hid (ShapeAt_grown T2.out hg2 (by omega) (by omega))
            replace T3 := Lib.hid (NodeAt_grown T3.out hg2 (by omega) (by omega))
            replace HG := Lib.hid (HG.out.trans hg2)
            replace hz := Nat.le_trans hz hg2.size
            clear hi2 hg2
            go_roundw
            case rel => exact ⟨q + 1, by omega, by go_num, HI, T1, T2, T3, HG, hz⟩
            case measure => simp [intOf]; omega
          · have HNI : Hid (inB H W C y x 0 = false) := Lib.hid (by
              simp only [inB, Bool.and_eq_false_iff, decide_eq_false_iff_not]
              right; intro hc; exact hin ⟨hc.1, hc.2.1, hc.2.2.1, hc.2.2.2.1⟩)
            have HNX := Lib.hid (HSKIP.out i q y x hlt hltq HYE.out HXE.out hin)
            clear hin
            go_wp2_with fail
            refine wp_region_held_drew (S := fun w' => ShapeAt w.heap.size H W C w' ∧ NodeAt (w.heap.size + 2) x0 x1 x2 x8 x11 x12 x13 x14 x15 x16 x17 x18 (kk : Int) S P O Z WA BA nW cW nB cB w') (by kernel_rfl) ⟨T1.out, T3.out⟩ (fun hHeld => ?_)
            refine wpAnyH_take (i := 0) (oi := ({ dst := some 57, op := Op.load 23 (Operand.tmp 5), type := 23, pos := "patch.go:86", after := #[], guard := none } : Oper)) (v := ?_) rfl (by kernel_rfl) (by kernel_rfl) (by kernel_rfl) (fun _ _ _ h => h) (Or.inl ⟨by rfl, ?_⟩) (by assumption) ?_
            rotate_left
            · intro wS hSw
              obtain ⟨hq1, hq2⟩ := hSw
              obtain ⟨z1, z2, z3⟩ := hq1; clear hq2
              first
                | (go_simp; done)
                | (go_simp; with_reducible rfl)
            try simp only [Act.put, List.setIfInBounds_toArray, List.set_cons_zero, List.set_cons_succ]
            refine wpAnyH_take (i := 1) (oi := ({ dst := some 58, op := Op.move (Operand.tmp 11), type := 3, pos := "patch.go:86", after := #[], guard := none } : Oper)) (v := ?_) rfl (by kernel_rfl) (by kernel_rfl) (by kernel_rfl) (fun _ _ _ h => h) (Or.inl ⟨by rfl, ?_⟩) (by assumption) ?_
            rotate_left
            · intro wS hSw
              first
                | (go_simp; done)
                | (go_simp; with_reducible rfl)
            try simp only [Act.put, List.setIfInBounds_toArray, List.set_cons_zero, List.set_cons_succ]
            refine wpAnyH_take (i := 2) (oi := ({ dst := some 59, op := Op.move (Operand.tmp 14), type := 3, pos := "patch.go:86", after := #[], guard := none } : Oper)) (v := ?_) rfl (by kernel_rfl) (by kernel_rfl) (by kernel_rfl) (fun _ _ _ h => h) (Or.inl ⟨by rfl, ?_⟩) (by assumption) ?_
            rotate_left
            · intro wS hSw
              first
                | (go_simp; done)
                | (go_simp; with_reducible rfl)
            try simp only [Act.put, List.setIfInBounds_toArray, List.set_cons_zero, List.set_cons_succ]
            refine wpAnyH_take (i := 3) (oi := ({ dst := some 60, op := Op.fieldAddr 32 (Operand.tmp 7) 3, type := 0, pos := "patch.go:86", after := #[], guard := none } : Oper)) (v := ?_) rfl (by kernel_rfl) (by kernel_rfl) (by kernel_rfl) (fun _ _ _ h => h) (Or.inl ⟨by rfl, ?_⟩) (by assumption) ?_
            rotate_left
            · intro wS hSw
              first
                | (go_simp; done)
                | (go_simp; with_reducible rfl)
            try simp only [Act.put, List.setIfInBounds_toArray, List.set_cons_zero, List.set_cons_succ]
            refine wpAnyH_take (i := 4) (oi := ({ dst := some 61, op := Op.load 3 (Operand.tmp 60), type := 3, pos := "patch.go:86", after := #[{ on := 3, ground := Ground.data }], guard := none } : Oper)) (v := ?_) rfl (by kernel_rfl) (by kernel_rfl) (by kernel_rfl) (fun _ _ _ h => h) (Or.inl ⟨by rfl, ?_⟩) (by assumption) ?_
            rotate_left
            · intro wS hSw
              obtain ⟨hq1, hq2⟩ := hSw
              have hn9 := hq2.at 3 _ rfl; clear hq1 hq2
              first
                | (go_simp; done)
                | (go_simp; with_reducible rfl)
            try simp only [Act.put, List.setIfInBounds_toArray, List.set_cons_zero, List.set_cons_succ]
            refine wpAnyH_take (i := 5) (oi := ({ dst := some 62, op := Op.binOp BinOp.quo 3 (Operand.tmp 59) (Operand.tmp 61) 3, type := 3, pos := "patch.go:86", after := #[{ on := 2, ground := Ground.data }, { on := 4, ground := Ground.data }], guard := none } : Oper)) (v := ?_) rfl (by kernel_rfl) (by kernel_rfl) (by kernel_rfl) (fun _ _ _ h => h) (Or.inl ⟨by rfl, ?_⟩) (by assumption) ?_
            rotate_left
            · intro wS hSw
              first
                | (go_simp; done)
                | (go_simp; with_reducible rfl)
            try simp only [Act.put, List.setIfInBounds_toArray, List.set_cons_zero, List.set_cons_succ]
            refine wpAnyH_take (i := 6) (oi := ({ dst := some 63, op := Op.binOp BinOp.add 3 (Operand.tmp 58) (Operand.tmp 62) 3, type := 3, pos := "patch.go:86", after := #[{ on := 1, ground := Ground.data }, { on := 5, ground := Ground.data }], guard := none } : Oper)) (v := ?_) rfl (by kernel_rfl) (by kernel_rfl) (by kernel_rfl) (fun _ _ _ h => h) (Or.inl ⟨by rfl, ?_⟩) (by assumption) ?_
            rotate_left
            · intro wS hSw
              first
                | (go_simp; done)
                | (go_simp; with_reducible rfl)
            try simp only [Act.put, List.setIfInBounds_toArray, List.set_cons_zero, List.set_cons_succ]
            refine wpAnyH_take (i := 7) (oi := ({ dst := some 64, op := Op.move (Operand.tmp 12), type := 3, pos := "patch.go:86", after := #[], guard := none } : Oper)) (v := ?_) rfl (by kernel_rfl) (by kernel_rfl) (by kernel_rfl) (fun _ _ _ h => h) (Or.inl ⟨by rfl, ?_⟩) (by assumption) ?_
            rotate_left
            · intro wS hSw
              first
                | (go_simp; done)
                | (go_simp; with_reducible rfl)
            try simp only [Act.put, List.setIfInBounds_toArray, List.set_cons_zero, List.set_cons_succ]
            refine wpAnyH_take (i := 8) (oi := ({ dst := some 65, op := Op.move (Operand.tmp 14), type := 3, pos := "patch.go:86", after := #[], guard := none } : Oper)) (v := ?_) rfl (by kernel_rfl) (by kernel_rfl) (by kernel_rfl) (fun _ _ _ h => h) (Or.inl ⟨by rfl, ?_⟩) (by assumption) ?_
            rotate_left
            · intro wS hSw
              first
                | (go_simp; done)
                | (go_simp; with_reducible rfl)
            try simp only [Act.put, List.setIfInBounds_toArray, List.set_cons_zero, List.set_cons_succ]
            refine wpAnyH_take (i := 9) (oi := ({ dst := some 66, op := Op.fieldAddr 32 (Operand.tmp 7) 3, type := 0, pos := "patch.go:86", after := #[], guard := none } : Oper)) (v := ?_) rfl (by kernel_rfl) (by kernel_rfl) (by kernel_rfl) (fun _ _ _ h => h) (Or.inl ⟨by rfl, ?_⟩) (by assumption) ?_
            rotate_left
            · intro wS hSw
              first
                | (go_simp; done)
                | (go_simp; with_reducible rfl)
            try simp only [Act.put, List.setIfInBounds_toArray, List.set_cons_zero, List.set_cons_succ]
            refine wpAnyH_take (i := 10) (oi := ({ dst := some 67, op := Op.load 3 (Operand.tmp 66), type := 3, pos := "patch.go:86", after := #[{ on := 9, ground := Ground.data }], guard := none } : Oper)) (v := ?_) rfl (by kernel_rfl) (by kernel_rfl) (by kernel_rfl) (fun _ _ _ h => h) (Or.inl ⟨by rfl, ?_⟩) (by assumption) ?_
            rotate_left
            · intro wS hSw
              obtain ⟨hq1, hq2⟩ := hSw
              have hn9 := hq2.at 3 _ rfl; clear hq1 hq2
              first
                | (go_simp; done)
                | (go_simp; with_reducible rfl)
            try simp only [Act.put, List.setIfInBounds_toArray, List.set_cons_zero, List.set_cons_succ]
            refine wpAnyH_take (i := 11) (oi := ({ dst := some 68, op := Op.binOp BinOp.rem 3 (Operand.tmp 65) (Operand.tmp 67) 3, type := 3, pos := "patch.go:86", after := #[{ on := 8, ground := Ground.data }, { on := 10, ground := Ground.data }], guard := none } : Oper)) (v := ?_) rfl (by kernel_rfl) (by kernel_rfl) (by kernel_rfl) (fun _ _ _ h => h) (Or.inl ⟨by rfl, ?_⟩) (by assumption) ?_
            rotate_left
            · intro wS hSw
              first
                | (go_simp; done)
                | (go_simp; with_reducible rfl)
            try simp only [Act.put, List.setIfInBounds_toArray, List.set_cons_zero, List.set_cons_succ]
            refine wpAnyH_take (i := 12) (oi := ({ dst := some 69, op := Op.binOp BinOp.add 3 (Operand.tmp 64) (Operand.tmp 68) 3, type := 3, pos := "patch.go:86", after := #[{ on := 7, ground := Ground.data }, { on := 11, ground := Ground.data }], guard := none } : Oper)) (v := ?_) rfl (by kernel_rfl) (by kernel_rfl) (by kernel_rfl) (fun _ _ _ h => h) (Or.inl ⟨by rfl, ?_⟩) (by assumption) ?_
            rotate_left
            · intro wS hSw
              first
                | (go_simp; done)
                | (go_simp; with_reducible rfl)
            try simp only [Act.put, List.setIfInBounds_toArray, List.set_cons_zero, List.set_cons_succ]
            refine wpAnyH_ready (rs := [13]) (by kernel_rfl) (by simp) ?_
            refine AllReadyH.cons (o := ({ dst := some 70, op := Op.call { callee := Callee.value (Operand.func 53), args := #[Operand.tmp 57, Operand.tmp 63, Operand.tmp 69, Operand.const (Value.int IntKind.i64 0)], argTypes := #[23, 3, 3, 3] }, type := 77, pos := "patch.go:86", after := #[{ on := 0, ground := Ground.data }, { on := 6, ground := Ground.data }, { on := 12, ground := Ground.data }], guard := none } : Oper)) rfl (fun Kq hK => ?_) (AllReadyH.nil)
            go_simp
            go_at_call 53
            refine (index_no H W C y x 0 HNI.out _).mono ?_
            rintro e w1 ⟨rfl, hb1⟩
            have hbb : Below wr.heap.size wr w1 := (Below.refl _ _).drew.trans hb1
            clear hb1 hHeld
            replace HI := Lib.hid (HSTAY.out _ _ _ HI.out hbb)
            replace T1 := Lib.hid (T1.out.below (B' := wr.heap.size) (by omega) hbb)
            replace T2 := Lib.hid (T2.out.below (B' := wr.heap.size) (by omega) hbb)
            replace T3 := Lib.hid (T3.out.below (B' := wr.heap.size) (by omega) hbb)
            replace HG := Lib.hid (HG.out.trans (Kit.grown_of_below hbb (some gd)))
            replace hz := Nat.le_trans hz hbb.size
            clear hbb
            dsimp only
            refine hK.out _ _ ?_ (fun hHeld => ?_)
            · exact ⟨T1.out, T3.out⟩
            clear hK Kq
            try simp only [Act.put, List.setIfInBounds_toArray, List.set_cons_zero, List.set_cons_succ]
            refine wpAnyH_take (i := 14) (oi := ({ dst := some 56, op := Op.move (Operand.tmp 70), type := 77, pos := "patch.go:86", after := #[{ on := 13, ground := Ground.data }], guard := none } : Oper)) (v := ?_) rfl (by kernel_rfl) (by kernel_rfl) (by kernel_rfl) (fun _ _ _ h => h) (Or.inl ⟨by rfl, ?_⟩) (by assumption) ?_
            rotate_left
            · intro wS hSw
              first
                | (go_simp; done)
                | (go_simp; with_reducible rfl)
            try simp only [Act.put, List.setIfInBounds_toArray, List.set_cons_zero, List.set_cons_succ]
            refine wpAnyH_take (i := 15) (oi := ({ dst := some 71, op := Op.extract (Operand.tmp 56) 0, type := 3, pos := "patch.go:86", after := #[{ on := 14, ground := Ground.data }], guard := none } : Oper)) (v := ?_) rfl (by kernel_rfl) (by kernel_rfl) (by kernel_rfl) (fun _ _ _ h => h) (Or.inl ⟨by rfl, ?_⟩) (by assumption) ?_
            rotate_left
            · intro wS hSw
              first
                | (go_simp; done)
                | (go_simp; with_reducible rfl)
            try simp only [Act.put, List.setIfInBounds_toArray, List.set_cons_zero, List.set_cons_succ]
            refine wpAnyH_take (i := 16) (oi := ({ dst := some 72, op := Op.extract (Operand.tmp 56) 1, type := 4, pos := "patch.go:86", after := #[{ on := 14, ground := Ground.data }, { on := 17, ground := Ground.gcOnly Departure.lateStores }], guard := none } : Oper)) (v := ?_) rfl (by kernel_rfl) (by kernel_rfl) (by kernel_rfl) (fun _ _ _ h => h) (Or.inl ⟨by rfl, ?_⟩) (by assumption) ?_
            rotate_left
            · intro wS hSw
              first
                | (go_simp; done)
                | (go_simp; with_reducible rfl)
            try simp only [Act.put, List.setIfInBounds_toArray, List.set_cons_zero, List.set_cons_succ]
            refine wpAnyH_take (i := 17) (oi := ({ dst := some 15, op := Op.assign (Operand.tmp 71), type := 3, pos := "patch.go:86", after := #[{ on := 15, ground := Ground.data }, { on := 13, ground := Ground.chain }, { on := 0, ground := Ground.phase }, { on := 1, ground := Ground.phase }, { on := 2, ground := Ground.phase }, { on := 3, ground := Ground.phase }, { on := 4, ground := Ground.phase }, { on := 5, ground := Ground.phase }, { on := 6, ground := Ground.phase }, { on := 7, ground := Ground.phase }, { on := 8, ground := Ground.phase }, { on := 9, ground := Ground.phase }, { on := 10, ground := Ground.phase }, { on := 11, ground := Ground.phase }, { on := 12, ground := Ground.phase }, { on := 13, ground := Ground.phase }, { on := 14, ground := Ground.phase }, { on := 15, ground := Ground.phase }, { on := 16, ground := Ground.textOnly Departure.lateStores }], guard := none } : Oper)) (v := ?_) rfl (by kernel_rfl) (by kernel_rfl) (by kernel_rfl) (fun _ _ _ h => h) (Or.inl ⟨by rfl, ?_⟩) (by assumption) ?_
            rotate_left
            · intro wS hSw
              first
                | (go_simp; done)
                | (go_simp; with_reducible rfl)
            try simp only [Act.put, List.setIfInBounds_toArray, List.set_cons_zero, List.set_cons_succ]
            refine wpAnyH_take (i := 18) (oi := ({ dst := some 16, op := Op.assign (Operand.tmp 72), type := 4, pos := "patch.go:86", after := #[{ on := 16, ground := Ground.data }, { on := 17, ground := Ground.chain }, { on := 0, ground := Ground.phase }, { on := 1, ground := Ground.phase }, { on := 2, ground := Ground.phase }, { on := 3, ground := Ground.phase }, { on := 4, ground := Ground.phase }, { on := 5, ground := Ground.phase }, { on := 6, ground := Ground.phase }, { on := 7, ground := Ground.phase }, { on := 8, ground := Ground.phase }, { on := 9, ground := Ground.phase }, { on := 10, ground := Ground.phase }, { on := 11, ground := Ground.phase }, { on := 12, ground := Ground.phase }, { on := 13, ground := Ground.phase }, { on := 14, ground := Ground.phase }, { on := 15, ground := Ground.phase }, { on := 16, ground := Ground.phase }, { on := 17, ground := Ground.phase }], guard := none } : Oper)) (v := ?_) rfl (by kernel_rfl) (by kernel_rfl) (by kernel_rfl) (fun _ _ _ h => h) (Or.inl ⟨by rfl, ?_⟩) (by assumption) ?_
            rotate_left
            · intro wS hSw
              first
                | (go_simp; done)
                | (go_simp; with_reducible rfl)
            try simp only [Act.put, List.setIfInBounds_toArray, List.set_cons_zero, List.set_cons_succ]
            refine wpAnyH_done (by kernel_rfl) ?_ _
            clear hHeld d1 d2 d3 d4 f1 f2
            go_wp2_with fail
            go_roundw
            case rel => exact ⟨q + 1, by omega, by go_num, Lib.hid (HNX.out _ HI.out), T1, T2, T3, HG, hz⟩
            case measure => simp [intOf]; omega
        · obtain rfl : q = k2 := by omega
          go_wp2_with fail
          go_roundw
          case rel => exact ⟨i + 1, by omega, by go_num, by rw [Nat.add_mul, Nat.one_mul]; exact HI, T1, T2, T3, HG, hz⟩
          case measure => simp [intOf]; omega
    · obtain rfl : i = N1 := by omega
      go_wp2_with fail
      go_end0
      exact ⟨⟨_, rfl⟩, HI.out, HG.out⟩
end Go.Proofs.Ytceejjliboiciaa.CPatch

namespace Go.Proofs.Ytceejjliboiciaa.CPatch
open Go Go.ChangeShapes Go.WideShapes Go.ChangeAt Go.RowKit
open Plain CSat CShape CTensor CConv
set_option linter.unusedVariables false

def I16v (zs : List Int) : List Value := zs.map (.int .i16)
def upto (F : Nat → Int) (m t : Nat) : Int := if t < m then F t else 0
def listF (F : Nat → Int) (N : Nat) : List Int := (List.range N).map F
theorem listF_len (F : Nat → Int) (N : Nat) : (listF F N).length = N := by simp [listF]
theorem listF_at (F : Nat → Int) {N i : Nat} (h : i < N) : (listF F N)[i]? = some (F i) := by simp [listF, h]
theorem listF_congr {F G : Nat → Int} {n : Nat} (h : ∀ i, i < n → F i = G i) : listF F n = listF G n := by
  apply List.ext_getElem?
  intro i
  by_cases hi : i < n
  · rw [listF_at F hi, listF_at G hi, h i hi]
  · rw [List.getElem?_eq_none (by rw [listF_len]; omega), List.getElem?_eq_none (by rw [listF_len]; omega)]
theorem listF_set (F : Nat → Int) {N m : Nat} (x : Int) (hx : F m = x) : (listF (upto F m) N).set m x = listF (upto F (m + 1)) N := by
  apply List.ext_getElem?
  intro i
  rw [List.getElem?_set]
  by_cases hi : i < N
  · by_cases e : m = i
    · subst e
      rw [if_pos rfl, if_pos (by rw [listF_len]; exact hi), listF_at _ hi]
      simp [upto, hx]
    · rw [if_neg e, listF_at _ hi, listF_at _ hi]
      simp only [upto]
      by_cases h1 : i < m
      · rw [if_pos h1, if_pos (by omega)]
      · rw [if_neg h1, if_neg (by omega)]
  · have e1 : (listF (upto F (m + 1)) N)[i]? = none := List.getElem?_eq_none (by rw [listF_len]; omega)
    have e2 : (listF (upto F m) N)[i]? = none := List.getElem?_eq_none (by rw [listF_len]; omega)
    rw [e1, e2]
    by_cases e : m = i
    · rw [if_pos e, if_neg (by rw [listF_len]; omega)]
    · rw [if_neg e]
theorem I16v_set (ys : List Int) (i : Nat) (x : Int) : (I16v ys).set i (.int .i16 x) = I16v (ys.set i x) := by simp [I16v, List.map_set]
/-- the box of rows. -/
def RowsAt (B : Nat) (M Wd : Int) (gd N : Nat) (w : World) : Prop :=
  w.cell? ⟨B, 0, none⟩ = some (.int .i64 M) ∧ w.cell? ⟨B, 1, none⟩ = some (.int .i64 Wd) ∧ w.cell? ⟨B, 2, none⟩ = some (.slice (some ⟨gd, 0, none⟩) N N)
theorem BoxAt_grown {B gd : Nat} {H W C : Int} {A : Option Addr} {n c : Nat} {w w' : World} (h : BoxAt B H W C A n c w) (hg : w.grownBy w' (some gd)) (hne : gd ≠ B) : BoxAt B H W C A n c w' := by
  have hB : B < w.heap.size := Kit.block_lt h.1
  exact ⟨(hg.cell_far ⟨B, 0, none⟩ hB (by simp; omega)).trans h.1, (hg.cell_far ⟨B, 1, none⟩ hB (by simp; omega)).trans h.2.1, (hg.cell_far ⟨B, 2, none⟩ hB (by simp; omega)).trans h.2.2.1, (hg.cell_far ⟨B, 3, none⟩ hB (by simp; omega)).trans h.2.2.2⟩
theorem RowsAt_grown {B gd N gr : Nat} {M Wd : Int} {w w' : World} (h : RowsAt B M Wd gd N w) (hg : w.grownBy w' (some gr)) (hne : gr ≠ B) : RowsAt B M Wd gd N w' := by
  have hB : B < w.heap.size := Kit.block_lt h.1
  exact ⟨(hg.cell_far ⟨B, 0, none⟩ hB (by simp; omega)).trans h.1, (hg.cell_far ⟨B, 1, none⟩ hB (by simp; omega)).trans h.2.1, (hg.cell_far ⟨B, 2, none⟩ hB (by simp; omega)).trans h.2.2⟩
theorem NodeAt_size {B : Nat} {x0 x1 x2 x8 x11 x12 x13 x14 x15 x16 x17 x18 : Value} {K S P O Z : Int} {WA BA : Option Addr} {nW cW nB cB : Nat} {w : World} (h : NodeAt B x0 x1 x2 x8 x11 x12 x13 x14 x15 x16 x17 x18 K S P O Z WA BA nW cW nB cB w) : B < w.heap.size := Kit.block_lt (h.at 0 _ rfl)
theorem Rd_grown {w w' : World} {B gd : Nat} {A : Option Addr} {xs : List Value} (h : Kit.Rd w B A xs) (hg : w.grownBy w' (some gd)) (hB : B ≤ w.heap.size) (hgd : B ≤ gd) : Kit.Rd w' B A xs :=
  h.keep fun p hp => hg.cell_far p (by omega) (by simp; omega)
theorem grown_set (w : World) (g o : Nat) (v : Value) : w.grownBy (w.setCell ⟨g, o, none⟩ v) (some g) := ⟨rfl, rfl, rfl, by simp, fun k _ hk => Below.heap_setCell _ _ _ k (fun e => hk (by rw [e]))⟩
/-- how it stands behind k places. -/
def OfAt (pt pn pr gd B0 : Nat) (H W C : Int) (A : Option Addr) (n c : Nat) (x0 x1 x2 x8 x11 x12 x13 x14 x15 x16 x17 x18 : Value) (K S P O Z : Int) (WA BA : Option Addr) (nW cW nB cB : Nat) (M Wd : Int) (N : Nat) (zs : List Int) (F : Nat → Int) (d k : Nat) (v : World) : Prop :=
  BoxAt pt H W C A n c v ∧ NodeAt pn x0 x1 x2 x8 x11 x12 x13 x14 x15 x16 x17 x18 K S P O Z WA BA nW cW nB cB v ∧ RowsAt pr M Wd gd N v ∧ v.ownsRow B0 89 1 (.slice (some ⟨gd, 0, none⟩) N N) N (I16v (listF (upto F (k * d)) N)) ∧ Kit.Rd v B0 A (I8s zs) ∧ B0 ≤ v.heap.size
theorem OfAt.stay {pt pn pr gd B0 : Nat} {H W C : Int} {A : Option Addr} {n c : Nat} {x0 x1 x2 x8 x11 x12 x13 x14 x15 x16 x17 x18 : Value} {K S P O Z : Int} {WA BA : Option Addr} {nW cW nB cB : Nat} {M Wd : Int} {N : Nat} {zs : List Int} {F : Nat → Int} {d k : Nat} {v v' : World}
    (h : OfAt pt pn pr gd B0 H W C A n c x0 x1 x2 x8 x11 x12 x13 x14 x15 x16 x17 x18 K S P O Z WA BA nW cW nB cB M Wd N zs F d k v) (hb : Below v.heap.size v v') : OfAt pt pn pr gd B0 H W C A n c x0 x1 x2 x8 x11 x12 x13 x14 x15 x16 x17 x18 K S P O Z WA BA nW cW nB cB M Wd N zs F d k v' := by
  obtain ⟨h1, h2, h3, h4, h5, h6⟩ := h
  have z3 : pr < v.heap.size := Kit.block_lt h3.1
  exact ⟨h1.below (B' := v.heap.size) (Kit.block_lt h1.1) hb, h2.below (B' := v.heap.size) (NodeAt_size h2) hb,
    ⟨(hb.cell (p := ⟨pr, 0, none⟩) z3).trans h3.1, (hb.cell (p := ⟨pr, 1, none⟩) z3).trans h3.2.1, (hb.cell (p := ⟨pr, 2, none⟩) z3).trans h3.2.2⟩, Kit.own_below h4 hb, h5.below (hb.mono h6), Nat.le_trans h6 hb.size⟩

set_option maxRecDepth 100000 in
set_option maxHeartbeats 4000000 in
theorem visit_of (pt pn pr gd B0 : Nat) (n1 : gd ≠ pt) (n2 : gd ≠ pn) (n3 : gd ≠ pr) (hgB : B0 ≤ gd) (H W C : Int) (bz oz n c : Nat) (x0 x1 x2 x8 x11 x12 x13 x14 x15 x16 x17 x18 : Value) (K S P O Z : Int) (WA BA : Option Addr) (nW cW nB cB : Nat) (M Wd : Int) (N : Nat) (zs : List Int) (F : Nat → Int) (d k at_ pos : Nat) (hd : C = (d : Int)) (hn : zs.length = n) (hz : I8b zs) (z1 : -128 ≤ Z) (z2 : Z ≤ 127)
    (hat : k * d = at_) (hN : at_ + d ≤ N) (hN1 : N ≤ 30000000) (hpos : pos + d ≤ n) (hn1 : n ≤ 1024) (hF : ∀ q, q < d → F (at_ + q) = zs.getD (pos + q) 0 - Z) (v : World) (hI : OfAt pt pn pr gd B0 H W C (some ⟨bz, oz, none⟩) n c x0 x1 x2 x8 x11 x12 x13 x14 x15 x16 x17 x18 K S P O Z WA BA nW cW nB cB M Wd N zs F d k v) :
    Calls Try.prog 44 #[.int .i64 (at_ : Int), .int .i64 (pos : Int), .pointer (some ⟨pt, 0, none⟩), .pointer (some ⟨pn, 0, none⟩), .pointer (some ⟨pr, 0, none⟩)] v fun e v' => (∃ u, e = .returned u) ∧ OfAt pt pn pr gd B0 H W C (some ⟨bz, oz, none⟩) n c x0 x1 x2 x8 x11 x12 x13 x14 x15 x16 x17 x18 K S P O Z WA BA nW cW nB cB M Wd N zs F d (k + 1) v' ∧ v.grownBy v' (some gd) := by
  obtain ⟨h1, h2, h3, h4, h5, h6⟩ := hI
  have T1 := Lib.hid h1
  have T2 := Lib.hid h2
  have T3 := Lib.hid h3
  rw [hat] at h4
  have HO := Lib.hid h4
  have HR := Lib.hid h5
  have HG : Hid (v.grownBy v (some gd)) := Lib.hid (World.grownBy.refl v _)
  have HAT := Lib.hid hat
  have HF := Lib.hid hF
  have HZ := Lib.hid hz
  have HN := Lib.hid hn
  have hz6 := h6
  subst hd
  obtain ⟨tb0, tb1, tb2, tb3⟩ := T1.out
  clear h1 h2 h3 h4 h5 h6 hat hF hz hn
  go_enter Try.func44, Try.ntmps44
  go_wp2_with fail
  clear tb0 tb1 tb2 tb3
  go_loopw [11] (fun u wr => ∃ q : Nat, q ≤ d ∧ u = .int .i64 q ∧ Hid (BoxAt pt H W (d : Int) (some ⟨bz, oz, none⟩) n c wr) ∧ Hid (NodeAt pn x0 x1 x2 x8 x11 x12 x13 x14 x15 x16 x17 x18 K S P O Z WA BA nW cW nB cB wr) ∧ Hid (RowsAt pr M Wd gd N wr) ∧ Hid (wr.ownsRow B0 89 1 (.slice (some ⟨gd, 0, none⟩) N N) N (I16v (listF (upto F (at_ + q)) N))) ∧ Hid (Kit.Rd wr B0 (some ⟨bz, oz, none⟩) (I8s zs)) ∧ Hid (v.grownBy wr (some gd)) ∧ B0 ≤ wr.heap.size) (fun u _ => d - (intOf u).toNat)
  case atStart => exact ⟨0, Nat.zero_le _, rfl, T1, T2, T3, HO, HR, HG, hz6⟩
  case round =>
    clear T1 T2 T3 HO HR HG hz6
    obtain ⟨q, hq, rfl, T1, T2, T3, HO, HR, HG, hz6⟩ := hrel
    by_cases hlt : q < d
    · have hqI : (q : Int) < (d : Int) := by omega
      obtain ⟨tb0, tb1, tb2, tb3⟩ := T1.out
      obtain ⟨tr0, tr1, tr2⟩ := T3.out
      have n7 := T2.out.at 7 _ rfl
      obtain ⟨a1, ha1⟩ : ∃ a1, at_ + q = a1 := ⟨_, rfl⟩
      obtain ⟨p1, hp1⟩ : ∃ p1, pos + q = p1 := ⟨_, rfl⟩
      have f1 : IntKind.i64.wrap ((at_ : Int) + (q : Int)) = (a1 : Int) := by rw [IntWalk.i64_in _ (by omega)]; omega
      have f2 : IntKind.i64.wrap ((pos : Int) + (q : Int)) = (p1 : Int) := by rw [IntWalk.i64_in _ (by omega)]; omega
      have s1 : (0 : Int) ≤ (a1 : Int) := by omega
      have s2 : (a1 : Int) < (N : Int) := by omega
      have s3 : (0 : Int) ≤ (p1 : Int) := by omega
      have s4 : (p1 : Int) < (n : Int) := by omega
      obtain ⟨b', o', hbo, hbz, hcz⟩ := ints_getD HR.out (j := 0) (by have := HN.out; omega)
      cases hbo
      have hcx := hcz p1 (by have := HN.out; omega)
      have hFq := HF.out q hlt
      rw [ha1, hp1] at hFq
      obtain ⟨x1, x2⟩ := HZ.out p1
      generalize zs.getD p1 0 = x at hcx hFq x1 x2
      have k1 : IntKind.i16.wrap x = x := IntWalk.i16_in _ (by omega)
      have k2 : IntKind.i16.wrap Z = Z := IntWalk.i16_in _ (by omega)
      have k3 : IntKind.i16.wrap (x - Z) = x - Z := IntWalk.i16_in _ (by omega)
      have hfr : wr.frozen? ⟨gd, a1, none⟩ = false := HO.out.frozenAt a1
      have hcl : ∃ u, wr.cell? ⟨gd, a1, none⟩ = some u := ⟨_, (HO.out.cellAt a1 (by omega)).trans (List.getElem?_eq_getElem (by simp [I16v, listF]; omega))⟩
      obtain ⟨vold, hcl⟩ := hcl
      have hbg : gd ≠ bz := by omega
      have HFQ := Lib.hid hFq
      have HA1 := Lib.hid ha1
      clear hcz hFq ha1 hp1
      go_wp2_with fail
      refine wp_region_held_drew (S := fun w' => w'.cell? ⟨pr, 2, none⟩ = some (.slice (some ⟨gd, 0, none⟩) N N) ∧ w'.cell? ⟨pt, 3, none⟩ = some (.slice (some ⟨bz, oz, none⟩) n c) ∧ w'.cell? ⟨bz, oz + p1, none⟩ = some (.int .i8 x) ∧ w'.cell? ⟨pn, 7, none⟩ = some (.int .i8 Z)) (by kernel_rfl) ⟨tr2, tb3, hcx, n7⟩ (fun hHeld => ?_)
      clear tb0 tb1 tb2 tb3 tr0 tr1 tr2 n7 hcx
      refine wpAnyH_take (i := 0) (oi := ({ dst := some 14, op := Op.fieldAddr 64 (Operand.tmp 4) 2, type := 0, pos := "patch.go:34", after := #[], guard := none } : Oper)) (v := ?_) rfl (by kernel_rfl) (by kernel_rfl) (by kernel_rfl) (fun _ _ _ h => h) (Or.inl ⟨by rfl, ?_⟩) (by assumption) ?_
      rotate_left
      · intro wS hSw
        first
          | (go_simp; done)
          | (go_simp; with_reducible rfl)
      try simp only [Act.put, List.setIfInBounds_toArray, List.set_cons_zero, List.set_cons_succ]
      refine wpAnyH_take (i := 1) (oi := ({ dst := some 15, op := Op.load 62 (Operand.tmp 14), type := 62, pos := "patch.go:34", after := #[{ on := 0, ground := Ground.data }], guard := none } : Oper)) (v := ?_) rfl (by kernel_rfl) (by kernel_rfl) (by kernel_rfl) (fun _ _ _ h => h) (Or.inl ⟨by rfl, ?_⟩) (by assumption) ?_
      rotate_left
      · intro wS hSw
        obtain ⟨hq1, hq2, hq3, hq4⟩ := hSw
        first
          | (go_simp; done)
          | (go_simp; with_reducible rfl)
      try simp only [Act.put, List.setIfInBounds_toArray, List.set_cons_zero, List.set_cons_succ]
      refine wpAnyH_take (i := 2) (oi := ({ dst := some 16, op := Op.move (Operand.tmp 0), type := 3, pos := "patch.go:34", after := #[], guard := none } : Oper)) (v := ?_) rfl (by kernel_rfl) (by kernel_rfl) (by kernel_rfl) (fun _ _ _ h => h) (Or.inl ⟨by rfl, ?_⟩) (by assumption) ?_
      rotate_left
      · intro wS hSw
        first
          | (go_simp; done)
          | (go_simp; with_reducible rfl)
      try simp only [Act.put, List.setIfInBounds_toArray, List.set_cons_zero, List.set_cons_succ]
      refine wpAnyH_take (i := 3) (oi := ({ dst := some 17, op := Op.move (Operand.tmp 7), type := 3, pos := "patch.go:34", after := #[], guard := none } : Oper)) (v := ?_) rfl (by kernel_rfl) (by kernel_rfl) (by kernel_rfl) (fun _ _ _ h => h) (Or.inl ⟨by rfl, ?_⟩) (by assumption) ?_
      rotate_left
      · intro wS hSw
        first
          | (go_simp; done)
          | (go_simp; with_reducible rfl)
      try simp only [Act.put, List.setIfInBounds_toArray, List.set_cons_zero, List.set_cons_succ]
      refine wpAnyH_take (i := 4) (oi := ({ dst := some 18, op := Op.binOp BinOp.add 3 (Operand.tmp 16) (Operand.tmp 17) 3, type := 3, pos := "patch.go:34", after := #[{ on := 2, ground := Ground.data }, { on := 3, ground := Ground.data }], guard := none } : Oper)) (v := ?_) rfl (by kernel_rfl) (by kernel_rfl) (by kernel_rfl) (fun _ _ _ h => h) (Or.inl ⟨by rfl, ?_⟩) (by assumption) ?_
      rotate_left
      · intro wS hSw
        first
          | (go_simp; done)
          | (go_simp; with_reducible rfl)
      try simp only [Act.put, List.setIfInBounds_toArray, List.set_cons_zero, List.set_cons_succ]
      refine wpAnyH_take (i := 5) (oi := ({ dst := some 19, op := Op.fieldAddr 26 (Operand.tmp 2) 1, type := 0, pos := "patch.go:34", after := #[], guard := none } : Oper)) (v := ?_) rfl (by kernel_rfl) (by kernel_rfl) (by kernel_rfl) (fun _ _ _ h => h) (Or.inl ⟨by rfl, ?_⟩) (by assumption) ?_
      rotate_left
      · intro wS hSw
        first
          | (go_simp; done)
          | (go_simp; with_reducible rfl)
      try simp only [Act.put, List.setIfInBounds_toArray, List.set_cons_zero, List.set_cons_succ]
      refine wpAnyH_take (i := 6) (oi := ({ dst := some 20, op := Op.load 24 (Operand.tmp 19), type := 24, pos := "patch.go:34", after := #[{ on := 5, ground := Ground.data }], guard := none } : Oper)) (v := ?_) rfl (by kernel_rfl) (by kernel_rfl) (by kernel_rfl) (fun _ _ _ h => h) (Or.inl ⟨by rfl, ?_⟩) (by assumption) ?_
      rotate_left
      · intro wS hSw
        obtain ⟨hq1, hq2, hq3, hq4⟩ := hSw
        first
          | (go_simp; done)
          | (go_simp; with_reducible rfl)
      try simp only [Act.put, List.setIfInBounds_toArray, List.set_cons_zero, List.set_cons_succ]
      refine wpAnyH_take (i := 7) (oi := ({ dst := some 21, op := Op.move (Operand.tmp 1), type := 3, pos := "patch.go:34", after := #[], guard := none } : Oper)) (v := ?_) rfl (by kernel_rfl) (by kernel_rfl) (by kernel_rfl) (fun _ _ _ h => h) (Or.inl ⟨by rfl, ?_⟩) (by assumption) ?_
      rotate_left
      · intro wS hSw
        first
          | (go_simp; done)
          | (go_simp; with_reducible rfl)
      try simp only [Act.put, List.setIfInBounds_toArray, List.set_cons_zero, List.set_cons_succ]
      refine wpAnyH_take (i := 8) (oi := ({ dst := some 22, op := Op.move (Operand.tmp 7), type := 3, pos := "patch.go:34", after := #[], guard := none } : Oper)) (v := ?_) rfl (by kernel_rfl) (by kernel_rfl) (by kernel_rfl) (fun _ _ _ h => h) (Or.inl ⟨by rfl, ?_⟩) (by assumption) ?_
      rotate_left
      · intro wS hSw
        first
          | (go_simp; done)
          | (go_simp; with_reducible rfl)
      try simp only [Act.put, List.setIfInBounds_toArray, List.set_cons_zero, List.set_cons_succ]
      refine wpAnyH_take (i := 9) (oi := ({ dst := some 23, op := Op.binOp BinOp.add 3 (Operand.tmp 21) (Operand.tmp 22) 3, type := 3, pos := "patch.go:34", after := #[{ on := 7, ground := Ground.data }, { on := 8, ground := Ground.data }], guard := none } : Oper)) (v := ?_) rfl (by kernel_rfl) (by kernel_rfl) (by kernel_rfl) (fun _ _ _ h => h) (Or.inl ⟨by rfl, ?_⟩) (by assumption) ?_
      rotate_left
      · intro wS hSw
        first
          | (go_simp; done)
          | (go_simp; with_reducible rfl)
      try simp only [Act.put, List.setIfInBounds_toArray, List.set_cons_zero, List.set_cons_succ]
      refine wpAnyH_take (i := 10) (oi := ({ dst := some 24, op := Op.indexAddr 24 (Operand.tmp 20) (Operand.tmp 23), type := 0, pos := "patch.go:34", after := #[{ on := 6, ground := Ground.data }, { on := 9, ground := Ground.data }], guard := none } : Oper)) (v := ?_) rfl (by kernel_rfl) (by kernel_rfl) (by kernel_rfl) (fun _ _ _ h => h) (Or.inl ⟨by rfl, ?_⟩) (by assumption) ?_
      rotate_left
      · intro wS hSw
        first
          | (go_simp; done)
          | (go_simp; with_reducible rfl)
      try simp only [Act.put, List.setIfInBounds_toArray, List.set_cons_zero, List.set_cons_succ]
      refine wpAnyH_take (i := 11) (oi := ({ dst := some 25, op := Op.load 27 (Operand.tmp 24), type := 27, pos := "patch.go:34", after := #[{ on := 10, ground := Ground.data }], guard := none } : Oper)) (v := ?_) rfl (by kernel_rfl) (by kernel_rfl) (by kernel_rfl) (fun _ _ _ h => h) (Or.inl ⟨by rfl, ?_⟩) (by assumption) ?_
      rotate_left
      · intro wS hSw
        obtain ⟨hq1, hq2, hq3, hq4⟩ := hSw
        first
          | (go_simp; done)
          | (go_simp; with_reducible rfl)
      try simp only [Act.put, List.setIfInBounds_toArray, List.set_cons_zero, List.set_cons_succ]
      refine wpAnyH_take (i := 12) (oi := ({ dst := some 26, op := Op.convert 27 89 (Operand.tmp 25), type := 89, pos := "patch.go:34", after := #[{ on := 11, ground := Ground.data }], guard := none } : Oper)) (v := ?_) rfl (by kernel_rfl) (by kernel_rfl) (by kernel_rfl) (fun _ _ _ h => h) (Or.inl ⟨by rfl, ?_⟩) (by assumption) ?_
      rotate_left
      · intro wS hSw
        first
          | (go_simp; done)
          | (go_simp; with_reducible rfl)
      try simp only [Act.put, List.setIfInBounds_toArray, List.set_cons_zero, List.set_cons_succ]
      refine wpAnyH_take (i := 13) (oi := ({ dst := some 27, op := Op.fieldAddr 32 (Operand.tmp 3) 7, type := 0, pos := "patch.go:34", after := #[], guard := none } : Oper)) (v := ?_) rfl (by kernel_rfl) (by kernel_rfl) (by kernel_rfl) (fun _ _ _ h => h) (Or.inl ⟨by rfl, ?_⟩) (by assumption) ?_
      rotate_left
      · intro wS hSw
        first
          | (go_simp; done)
          | (go_simp; with_reducible rfl)
      try simp only [Act.put, List.setIfInBounds_toArray, List.set_cons_zero, List.set_cons_succ]
      refine wpAnyH_take (i := 14) (oi := ({ dst := some 28, op := Op.load 27 (Operand.tmp 27), type := 27, pos := "patch.go:34", after := #[{ on := 13, ground := Ground.data }], guard := none } : Oper)) (v := ?_) rfl (by kernel_rfl) (by kernel_rfl) (by kernel_rfl) (fun _ _ _ h => h) (Or.inl ⟨by rfl, ?_⟩) (by assumption) ?_
      rotate_left
      · intro wS hSw
        obtain ⟨hq1, hq2, hq3, hq4⟩ := hSw
        first
          | (go_simp; done)
          | (go_simp; with_reducible rfl)
      try simp only [Act.put, List.setIfInBounds_toArray, List.set_cons_zero, List.set_cons_succ]
      refine wpAnyH_take (i := 15) (oi := ({ dst := some 29, op := Op.convert 27 89 (Operand.tmp 28), type := 89, pos := "patch.go:34", after := #[{ on := 14, ground := Ground.data }], guard := none } : Oper)) (v := ?_) rfl (by kernel_rfl) (by kernel_rfl) (by kernel_rfl) (fun _ _ _ h => h) (Or.inl ⟨by rfl, ?_⟩) (by assumption) ?_
      rotate_left
      · intro wS hSw
        first
          | (go_simp; done)
          | (go_simp; with_reducible rfl)
      try simp only [Act.put, List.setIfInBounds_toArray, List.set_cons_zero, List.set_cons_succ]
      refine wpAnyH_take (i := 16) (oi := ({ dst := some 30, op := Op.binOp BinOp.sub 89 (Operand.tmp 26) (Operand.tmp 29) 89, type := 89, pos := "patch.go:34", after := #[{ on := 12, ground := Ground.data }, { on := 15, ground := Ground.data }], guard := none } : Oper)) (v := ?_) rfl (by kernel_rfl) (by kernel_rfl) (by kernel_rfl) (fun _ _ _ h => h) (Or.inl ⟨by rfl, ?_⟩) (by assumption) ?_
      rotate_left
      · intro wS hSw
        first
          | (go_simp; done)
          | (go_simp; with_reducible rfl)
      try simp only [Act.put, List.setIfInBounds_toArray, List.set_cons_zero, List.set_cons_succ]
      refine wpAnyH_take (i := 17) (oi := ({ dst := some 31, op := Op.indexAddr 62 (Operand.tmp 15) (Operand.tmp 18), type := 0, pos := "patch.go:34", after := #[{ on := 1, ground := Ground.data }, { on := 4, ground := Ground.data }, { on := 0, ground := Ground.phase }, { on := 1, ground := Ground.phase }, { on := 2, ground := Ground.phase }, { on := 3, ground := Ground.phase }, { on := 4, ground := Ground.phase }, { on := 5, ground := Ground.phase }, { on := 6, ground := Ground.phase }, { on := 7, ground := Ground.phase }, { on := 8, ground := Ground.phase }, { on := 9, ground := Ground.phase }, { on := 10, ground := Ground.phase }, { on := 11, ground := Ground.phase }, { on := 12, ground := Ground.phase }, { on := 13, ground := Ground.phase }, { on := 14, ground := Ground.phase }, { on := 15, ground := Ground.phase }, { on := 16, ground := Ground.phase }], guard := none } : Oper)) (v := ?_) rfl (by kernel_rfl) (by kernel_rfl) (by kernel_rfl) (fun _ _ _ h => h) (Or.inl ⟨by rfl, ?_⟩) (by assumption) ?_
      rotate_left
      · intro wS hSw
        first
          | (go_simp; done)
          | (go_simp; with_reducible rfl)
      try simp only [Act.put, List.setIfInBounds_toArray, List.set_cons_zero, List.set_cons_succ]
      refine wpAnyH_ready (rs := [18]) (by kernel_rfl) (by simp) ?_
      refine AllReadyH.cons (o := ({ dst := none, op := Op.store 89 (Operand.tmp 31) (Operand.tmp 30), type := 0, pos := "patch.go:34", after := #[{ on := 17, ground := Ground.data }, { on := 16, ground := Ground.data }, { on := 0, ground := Ground.phase }, { on := 1, ground := Ground.phase }, { on := 2, ground := Ground.phase }, { on := 3, ground := Ground.phase }, { on := 4, ground := Ground.phase }, { on := 5, ground := Ground.phase }, { on := 6, ground := Ground.phase }, { on := 7, ground := Ground.phase }, { on := 8, ground := Ground.phase }, { on := 9, ground := Ground.phase }, { on := 10, ground := Ground.phase }, { on := 11, ground := Ground.phase }, { on := 12, ground := Ground.phase }, { on := 13, ground := Ground.phase }, { on := 14, ground := Ground.phase }, { on := 15, ground := Ground.phase }, { on := 16, ground := Ground.phase }], guard := none } : Oper)) rfl (fun Kq hK => ?_) (AllReadyH.nil)
      go_simp
      refine hK.out _ _ ?_ (fun hHeld => ?_)
      · exact ⟨((World.cell?_setCell_far _ _ _ _ n3).trans hHeld.1), ((World.cell?_setCell_far _ _ _ _ n1).trans hHeld.2.1), ((World.cell?_setCell_far _ _ _ _ hbg).trans hHeld.2.2.1), ((World.cell?_setCell_far _ _ _ _ n2).trans hHeld.2.2.2)⟩
      clear hK Kq
      try simp only [Act.put, List.setIfInBounds_toArray, List.set_cons_zero, List.set_cons_succ]
      refine wpAnyH_done (by kernel_rfl) ?_ _
      have hgr : wr.grownBy (wr.drew.setCell ⟨gd, a1, none⟩ (.int .i16 (x - Z))) (some gd) := (Kit.grown_of_below (Below.refl _ _).drew (some gd)).trans (grown_set _ _ _ _)
      have HO4 := Lib.hid ((Kit.own_below HO.out (Below.refl wr.heap.size wr).drew).stored a1 (.int .i16 (x - Z))).1
      rw [I16v_set, HA1.out, listF_set F _ HFQ.out] at HO4
      have T1' := Lib.hid (BoxAt_grown T1.out hgr n1)
      have T2' := Lib.hid (NodeAt_grown T2.out hgr (NodeAt_size T2.out) n2)
      have T3' := Lib.hid (RowsAt_grown T3.out hgr n3)
      have HR' := Lib.hid (Rd_grown HR.out hgr hz6 hgB)
      have HG' := Lib.hid (HG.out.trans hgr)
      have hz7 := Nat.le_trans hz6 hgr.size
      clear hHeld T1 T2 T3 HO HR HG hgr hfr hcl
      rw [show a1 + 1 = at_ + (q + 1) by have := HA1.out; omega] at HO4
      go_wp2_with fail
      go_roundw
      case rel => exact ⟨q + 1, by omega, by go_num, T1', T2', T3', HO4, HR', HG', hz7⟩
      case measure => simp [intOf]; omega
    · obtain rfl : q = d := by omega
      go_wp2_with fail
      go_end0
      exact ⟨⟨_, rfl⟩, ⟨T1.out, T2.out, T3.out, by rw [Nat.add_mul, Nat.one_mul, HAT.out]; exact HO.out, HR.out, hz6⟩, HG.out⟩
end Go.Proofs.Ytceejjliboiciaa.CPatch

namespace Go.Proofs.Ytceejjliboiciaa.CPatch
open Go Go.ChangeShapes Go.WideShapes Go.ChangeAt Go.RowKit
open Plain CSat CShape CTensor CConv
set_option linter.unusedVariables false

/-- rows of the call's own, handed back with an error's number. -/
def MadeR (w : World) (M Wd : Int) (n : Nat) (zs : List Int) (x : Value) (e : Ending) (w' : World) : Prop :=
  ∃ v, e = .returned (.tuple #[.agg #[.int .i64 M, .int .i64 Wd, v], x]) ∧ w'.ownsRow w.heap.size 89 1 v n (I16v zs) ∧ Below w.heap.size w w'
/-- the number at t of all rows. -/
def numF (zs : List Int) (H W C S P Z : Int) (b kk d wd t : Nat) : Int :=
  if 0 ≤ ((t / wd / b : Nat) : Int) * S - P + ((t % wd / d / kk : Nat) : Int) ∧ ((t / wd / b : Nat) : Int) * S - P + ((t % wd / d / kk : Nat) : Int) < H ∧ 0 ≤ ((t / wd % b : Nat) : Int) * S - P + ((t % wd / d % kk : Nat) : Int) ∧ ((t / wd % b : Nat) : Int) * S - P + ((t % wd / d % kk : Nat) : Int) < W then
    zs.getD (((((t / wd / b : Nat) : Int) * S - P + ((t % wd / d / kk : Nat) : Int)) * W + (((t / wd % b : Nat) : Int) * S - P + ((t % wd / d % kk : Nat) : Int))) * C + ((t % wd % d : Nat) : Int)).toNat 0 - Z
  else 0
theorem t_parts {wd d k2 i q c t : Nat} (hwd : k2 * d = wd) (hq : q < k2) (hc : c < d) (ht : t = (i * k2 + q) * d + c) : t / wd = i ∧ t % wd / d = q ∧ t % wd % d = c := by
  have h1 : q * d + c < wd := by
    have := Nat.mul_le_mul_right d (show q + 1 ≤ k2 by omega)
    rw [Nat.add_mul, Nat.one_mul, hwd] at this
    omega
  have h2 : t = (q * d + c) + i * wd := by rw [ht, Nat.add_mul, Nat.mul_assoc, hwd]; omega
  have h3 : 0 < wd := by omega
  have h4 : 0 < d := by omega
  have e1 : t / wd = i := by rw [h2, Nat.add_mul_div_right _ _ h3, Nat.div_eq_of_lt h1, Nat.zero_add]
  have e2 : t % wd = c + q * d := by rw [h2, Nat.add_mul_mod_self_right, Nat.mod_eq_of_lt h1, Nat.add_comm]
  refine ⟨e1, ?_, ?_⟩
  · rw [e2, Nat.add_mul_div_right _ _ h4, Nat.div_eq_of_lt hc, Nat.zero_add]
  · rw [e2, Nat.add_mul_mod_self_right, Nat.mod_eq_of_lt hc]
theorem numF_in (zs : List Int) {H W C S P Z : Int} {b kk d wd k2 i q : Nat} {y x pos : Int} (hwd : k2 * d = wd) (hq : q < k2) (hy : y = ((i / b : Nat) : Int) * S - P + ((q / kk : Nat) : Int)) (hx : x = ((i % b : Nat) : Int) * S - P + ((q % kk : Nat) : Int))
    (i1 : 0 ≤ y) (i2 : y < H) (i3 : 0 ≤ x) (i4 : x < W) (hp : (y * W + x) * C = pos) (c : Nat) (hc : c < d) : numF zs H W C S P Z b kk d wd ((i * k2 + q) * d + c) = zs.getD (pos + (c : Int)).toNat 0 - Z := by
  obtain ⟨e1, e2, e3⟩ := t_parts hwd hq hc rfl
  unfold numF
  rw [e1, e2, e3, ← hy, ← hx, if_pos ⟨i1, i2, i3, i4⟩, hp]
theorem numF_out (zs : List Int) {H W C S P Z : Int} {b kk d wd k2 i q : Nat} {y x : Int} (hwd : k2 * d = wd) (hq : q < k2) (hy : y = ((i / b : Nat) : Int) * S - P + ((q / kk : Nat) : Int)) (hx : x = ((i % b : Nat) : Int) * S - P + ((q % kk : Nat) : Int))
    (ho : ¬ (0 ≤ y ∧ y < H ∧ 0 ≤ x ∧ x < W)) (c : Nat) (hc : c < d) : numF zs H W C S P Z b kk d wd ((i * k2 + q) * d + c) = 0 := by
  obtain ⟨e1, e2, e3⟩ := t_parts hwd hq hc rfl
  unfold numF
  rw [e1, e2, e3, ← hy, ← hx, if_neg ho]
theorem upto_skip {F : Nat → Int} {k d N : Nat} (h : ∀ c, c < d → F (k * d + c) = 0) : listF (upto F (k * d)) N = listF (upto F ((k + 1) * d)) N := listF_congr fun t _ => by
  unfold upto
  by_cases h1 : t < k * d
  · rw [if_pos h1, if_pos (by rw [Nat.add_mul, Nat.one_mul]; omega)]
  · rw [if_neg h1]
    by_cases h2 : t < (k + 1) * d
    · rw [if_pos h2]
      rw [Nat.add_mul, Nat.one_mul] at h2
      have := h (t - k * d) (by omega)
      rw [show k * d + (t - k * d) = t by omega] at this
      exact this.symm
    · rw [if_neg h2]
theorem RowsZ_new (w : World) (T : TypeId) : (w.alloc (.cells #[.int .i64 0, .int .i64 0, .slice none 0 0] T)).cell? ⟨w.heap.size, 0, none⟩ = some (.int .i64 0) ∧ (w.alloc (.cells #[.int .i64 0, .int .i64 0, .slice none 0 0] T)).cell? ⟨w.heap.size, 1, none⟩ = some (.int .i64 0) ∧ (w.alloc (.cells #[.int .i64 0, .int .i64 0, .slice none 0 0] T)).cell? ⟨w.heap.size, 2, none⟩ = some (.slice none 0 0) := ⟨Kit.new_cell _ _ _ _, Kit.new_cell _ _ _ _, Kit.new_cell _ _ _ _⟩
theorem grown_but {w w' : World} (h : w.grownBy w' none) (row : Option Nat) : w.grownBy w' row := ⟨h.os, h.tape, h.output, h.size, fun i hi _ => h.block i hi (by simp)⟩
def FreshR (B : Nat) (v0 v1 v2 : Value) (w : World) : Prop :=
  (w.cell? ⟨B, 0, none⟩ = some v0 ∧ w.cell? ⟨B, 1, none⟩ = some v1 ∧ w.cell? ⟨B, 2, none⟩ = some v2) ∧ w.frozen? ⟨B, 0, none⟩ = false ∧ w.frozen? ⟨B, 1, none⟩ = false ∧ w.frozen? ⟨B, 2, none⟩ = false
theorem FreshR.new (v0 v1 v2 : Value) (T : TypeId) (w : World) : FreshR w.heap.size v0 v1 v2 (w.alloc (.cells #[v0, v1, v2] T)) :=
  ⟨⟨Kit.new_cell _ _ _ _, Kit.new_cell _ _ _ _, Kit.new_cell _ _ _ _⟩, World.frozen?_alloc_at _ _ _ _ rfl, World.frozen?_alloc_at _ _ _ _ rfl, World.frozen?_alloc_at _ _ _ _ rfl⟩
theorem FreshR.grown {B : Nat} {v0 v1 v2 : Value} {w w' : World} {row : Option Nat} (h : FreshR B v0 v1 v2 w) (hg : w.grownBy w' row) (hne : some B ≠ row) : FreshR B v0 v1 v2 w' := by
  have hB : B < w.heap.size := Kit.block_lt h.1.1
  exact ⟨⟨(hg.cell_far ⟨B, 0, none⟩ hB hne).trans h.1.1, (hg.cell_far ⟨B, 1, none⟩ hB hne).trans h.1.2.1, (hg.cell_far ⟨B, 2, none⟩ hB hne).trans h.1.2.2⟩,
    (hg.frozen_far ⟨B, 0, none⟩ hB hne).trans h.2.1, (hg.frozen_far ⟨B, 1, none⟩ hB hne).trans h.2.2.1, (hg.frozen_far ⟨B, 2, none⟩ hB hne).trans h.2.2.2⟩
theorem FreshR.below {B : Nat} {v0 v1 v2 : Value} {w w' : World} (h : FreshR B v0 v1 v2 w) (hb : Below w.heap.size w w') : FreshR B v0 v1 v2 w' := h.grown (Kit.grown_of_below hb none) (by simp)
set_option maxHeartbeats 2000000 in
theorem pOf_bad (H W C : Int) (A : Option Addr) (n c : Nat) (x0 x1 x2 x8 x11 x12 x13 x14 x15 x16 x17 x18 : Value) (K S P O Z : Int) (WA BA : Option Addr) (nW cW nB cB : Nat) (ht : tensB H W C n = false) (w : World) : Calls Try.prog 26 #[.agg #[.int .i64 H, .int .i64 W, .int .i64 C, .slice A n c], .agg #[x0, x1, x2, .int .i64 K, .int .i64 S, .int .i64 P, .int .i64 O, .int .i8 Z, x8, .slice WA nW cW, .slice BA nB cB, x11, x12, x13, x14, x15, x16, x17, x18]] w (MadeR w 0 0 0 [] (.int .i64 5)) := by
  have HT := Lib.hid ht
  clear ht
  go_enter Try.func26, Try.ntmps26
  go_wp2_with fail
  have HB : Hid (Below w.heap.size w (((w.alloc (.cells #[.int .i64 H, .int .i64 W, .int .i64 C, .slice A n c] 26)).alloc (.cells #[x0, x1, x2, .int .i64 K, .int .i64 S, .int .i64 P, .int .i64 O, .int .i8 Z, x8, .slice WA nW cW, .slice BA nB cB, x11, x12, x13, x14, x15, x16, x17, x18] 32)).alloc (.cells #[.int .i64 0, .int .i64 0, .slice none 0 0] 64))) := Lib.hid ((((Below.refl _ _).alloc (Nat.le_refl _) _).alloc (by simp) _).alloc (by simp; omega) _)
  have hf := FreshR.new (.int .i64 0) (.int .i64 0) (.slice none 0 0) 64 ((w.alloc (.cells #[.int .i64 H, .int .i64 W, .int .i64 C, .slice A n c] 26)).alloc (.cells #[x0, x1, x2, .int .i64 K, .int .i64 S, .int .i64 P, .int .i64 O, .int .i8 Z, x8, .slice WA nW cW, .slice BA nB cB, x11, x12, x13, x14, x15, x16, x17, x18] 32))
  rw [World.size_alloc, World.size_alloc] at hf
  have HF := Lib.hid hf
  clear hf
  generalize ((w.alloc (.cells #[.int .i64 H, .int .i64 W, .int .i64 C, .slice A n c] 26)).alloc (.cells #[x0, x1, x2, .int .i64 K, .int .i64 S, .int .i64 P, .int .i64 O, .int .i8 Z, x8, .slice WA nW cW, .slice BA nB cB, x11, x12, x13, x14, x15, x16, x17, x18] 32)).alloc (.cells #[.int .i64 0, .int .i64 0, .slice none 0 0] 64) = W0 at HB HF ⊢
  go_at_call 16
  refine (right_to H W C A n c false HT.out _).mono ?_
  rintro e w1 ⟨rfl, hb⟩
  have hf1 := HF.out.below hb
  have hB := HB.out.trans (hb.mono HB.out.size)
  obtain ⟨⟨z0, z1, z2⟩, z3, z4, z5⟩ := hf1
  have hlt : w.heap.size + 1 + 1 < w1.heap.size := Kit.block_lt z0
  clear hb
  have HB1 := Lib.hid hB
  clear hB HB HF
  go_wp2_with fail
  refine bodyPost_ret (Kit.results_ct rfl _ _ (w.heap.size + 1 + 1) 0 [.int .i64 0, .int .i64 0, .slice none 0 0] _ rfl (Kit.range_3 (by go_cell) (by go_cell) (by go_cell)) Try.underlying64 rfl (by kernel_rfl)) rfl ?_
  exact ⟨_, rfl, World.ownsRow_nil _ _ _ _, ((HB1.out.setCell (by simp; omega) _).setCell (by simp; omega) _).setCell (by simp; omega) _⟩
theorem info_i16 : (Try.prog.info? 89).map (fun i => (i.zero, i.size, i.bytes)) = some (some (.int .i16 0), 1, 2) := by kernel_rfl
theorem info_parts16 {T : Nat} {z : Value} {a b : Nat} (h : (Try.prog.info? T).map (fun i => (i.zero, i.size, i.bytes)) = some (some z, a, b)) : ∃ i, Try.prog.info? T = some i ∧ i.zero = some z ∧ i.size = a ∧ i.bytes = b := by
  cases hi : Try.prog.info? T with
  | none => rw [hi] at h; cases h
  | some i => rw [hi] at h; simp at h; exact ⟨i, rfl, h.1, h.2.1, h.2.2⟩
set_option maxHeartbeats 4000000 in
theorem pOf_err (H W C : Int) (A : Option Addr) (n c : Nat) (x0 x1 x2 x8 x11 x12 x13 x14 x15 x16 x17 x18 : Value) (K S P O Z : Int) (WA BA : Option Addr) (nW cW nB cB : Nat) (ht : tensB H W C n = true) (er : Int) (he : slideE H W C K S P 1 = er) (h0 : er ≠ 0) (w : World) : Calls Try.prog 26 #[.agg #[.int .i64 H, .int .i64 W, .int .i64 C, .slice A n c], .agg #[x0, x1, x2, .int .i64 K, .int .i64 S, .int .i64 P, .int .i64 O, .int .i8 Z, x8, .slice WA nW cW, .slice BA nB cB, x11, x12, x13, x14, x15, x16, x17, x18]] w (MadeR w 0 0 0 [] (.int .i64 er)) := by
  have hv : slideS H W C K S P 1 = #[.int .i64 0, .int .i64 0, .int .i64 0] := by
    unfold slideS; rw [he, if_neg h0]
  have HT := Lib.hid ht
  have HE := Lib.hid he
  have HV := Lib.hid hv
  have hbn : (er != 0) = true := by simpa using h0
  clear ht he hv
  go_enter Try.func26, Try.ntmps26
  go_wp2_with fail
  have HB : Hid (Below w.heap.size w (((w.alloc (.cells #[.int .i64 H, .int .i64 W, .int .i64 C, .slice A n c] 26)).alloc (.cells #[x0, x1, x2, .int .i64 K, .int .i64 S, .int .i64 P, .int .i64 O, .int .i8 Z, x8, .slice WA nW cW, .slice BA nB cB, x11, x12, x13, x14, x15, x16, x17, x18] 32)).alloc (.cells #[.int .i64 0, .int .i64 0, .slice none 0 0] 64))) := Lib.hid ((((Below.refl _ _).alloc (Nat.le_refl _) _).alloc (by simp) _).alloc (by simp; omega) _)
  have hf := FreshR.new (.int .i64 0) (.int .i64 0) (.slice none 0 0) 64 ((w.alloc (.cells #[.int .i64 H, .int .i64 W, .int .i64 C, .slice A n c] 26)).alloc (.cells #[x0, x1, x2, .int .i64 K, .int .i64 S, .int .i64 P, .int .i64 O, .int .i8 Z, x8, .slice WA nW cW, .slice BA nB cB, x11, x12, x13, x14, x15, x16, x17, x18] 32))
  rw [World.size_alloc, World.size_alloc] at hf
  have HF := Lib.hid hf
  have TB : Hid (BoxAt w.heap.size H W C A n c (((w.alloc (.cells #[.int .i64 H, .int .i64 W, .int .i64 C, .slice A n c] 26)).alloc (.cells #[x0, x1, x2, .int .i64 K, .int .i64 S, .int .i64 P, .int .i64 O, .int .i8 Z, x8, .slice WA nW cW, .slice BA nB cB, x11, x12, x13, x14, x15, x16, x17, x18] 32)).alloc (.cells #[.int .i64 0, .int .i64 0, .slice none 0 0] 64))) := Lib.hid ((boxNew H W C A n c 26 w).below (B' := w.heap.size + 1) (by omega) (((Below.refl _ _).alloc (by simp) _).alloc (by simp) _))
  have hn9 := NodeAt.new x0 x1 x2 x8 x11 x12 x13 x14 x15 x16 x17 x18 K S P O Z WA BA nW cW nB cB 32 (w.alloc (.cells #[.int .i64 H, .int .i64 W, .int .i64 C, .slice A n c] 26))
  rw [World.size_alloc] at hn9
  have TN : Hid (NodeAt (w.heap.size + 1) x0 x1 x2 x8 x11 x12 x13 x14 x15 x16 x17 x18 K S P O Z WA BA nW cW nB cB (((w.alloc (.cells #[.int .i64 H, .int .i64 W, .int .i64 C, .slice A n c] 26)).alloc (.cells #[x0, x1, x2, .int .i64 K, .int .i64 S, .int .i64 P, .int .i64 O, .int .i8 Z, x8, .slice WA nW cW, .slice BA nB cB, x11, x12, x13, x14, x15, x16, x17, x18] 32)).alloc (.cells #[.int .i64 0, .int .i64 0, .slice none 0 0] 64))) := Lib.hid (hn9.below (B' := w.heap.size + 2) (by omega) ((Below.refl _ _).alloc (by simp) _))
  have hz : w.heap.size + 3 ≤ (((w.alloc (.cells #[.int .i64 H, .int .i64 W, .int .i64 C, .slice A n c] 26)).alloc (.cells #[x0, x1, x2, .int .i64 K, .int .i64 S, .int .i64 P, .int .i64 O, .int .i8 Z, x8, .slice WA nW cW, .slice BA nB cB, x11, x12, x13, x14, x15, x16, x17, x18] 32)).alloc (.cells #[.int .i64 0, .int .i64 0, .slice none 0 0] 64)).heap.size := by simp
  clear hf hn9
  generalize ((w.alloc (.cells #[.int .i64 H, .int .i64 W, .int .i64 C, .slice A n c] 26)).alloc (.cells #[x0, x1, x2, .int .i64 K, .int .i64 S, .int .i64 P, .int .i64 O, .int .i8 Z, x8, .slice WA nW cW, .slice BA nB cB, x11, x12, x13, x14, x15, x16, x17, x18] 32)).alloc (.cells #[.int .i64 0, .int .i64 0, .slice none 0 0] 64) = W0 at HB HF TB TN hz ⊢
  go_at_call 16
  refine (right_to H W C A n c true HT.out _).mono ?_
  rintro e W1 ⟨rfl, hb⟩
  replace HF := Lib.hid (HF.out.below hb)
  replace TB := Lib.hid (TB.out.below (B' := W0.heap.size) (by omega) hb)
  replace TN := Lib.hid (TN.out.below (B' := W0.heap.size) (by omega) hb)
  replace HB := Lib.hid (HB.out.trans (hb.mono HB.out.size))
  replace hz := Nat.le_trans hz hb.size
  clear hb
  obtain ⟨tb0, tb1, tb2, tb3⟩ := TB.out
  have n3 := TN.out.at 3 _ rfl
  have n4 := TN.out.at 4 _ rfl
  have n5 := TN.out.at 5 _ rfl
  go_wp2_with fail
  clear tb0 tb1 tb2 tb3 n3 n4 n5
  go_at_call 32
  refine (slide_to H W C K S P 1 er _ HE.out HV.out _).mono ?_
  rintro e W2 ⟨rfl, hb⟩
  replace HF := Lib.hid (HF.out.below hb)
  replace TB := Lib.hid (TB.out.below (B' := W1.heap.size) (by omega) hb)
  replace TN := Lib.hid (TN.out.below (B' := W1.heap.size) (by omega) hb)
  replace HB := Lib.hid (HB.out.trans (hb.mono HB.out.size))
  replace hz := Nat.le_trans hz hb.size
  clear hb
  obtain ⟨⟨z0, z1, z2⟩, z3, z4, z5⟩ := HF.out
  have hne2 : w.heap.size + 1 + 1 ≠ W2.heap.size := by omega
  have hne3 : w.heap.size + 1 + 1 < W2.heap.size := by omega
  go_wp2_with fail
  refine bodyPost_ret (Kit.results_ct rfl _ _ (w.heap.size + 1 + 1) 0 [.int .i64 0, .int .i64 0, .slice none 0 0] _ rfl (Kit.range_3 (by go_cell) (by go_cell) (by go_cell)) Try.underlying64 rfl (by kernel_rfl)) rfl ?_
  refine ⟨_, rfl, World.ownsRow_nil _ _ _ _, ?_⟩
  first
    | exact (((HB.out.alloc (by omega) _).setCell (by simp; omega) _).setCell (by simp; omega) _).setCell (by simp; omega) _
    | exact (((HB.out.setCell (by simp; omega) _).setCell (by simp; omega) _).setCell (by simp; omega) _).alloc (by simp; omega) _
set_option maxRecDepth 100000 in
set_option maxHeartbeats 8000000 in
theorem pOf_yes (H W C : Int) (A : Option Addr) (zs : List Int) (n c : Nat) (hn : zs.length = n) (hz8 : I8b zs) (x0 x1 x2 x8 x11 x12 x13 x14 x15 x16 x17 x18 : Value) (K S P O Z : Int) (WA BA : Option Addr) (nW cW nB cB : Nat) (z1 : -128 ≤ Z) (z2 : Z ≤ 127) (ht : tensB H W C n = true) (he : slideE H W C K S P 1 = 0) (a b kk d k2 wd N1 N : Nat) (ha : stepsM H K S P = (a : Int)) (hb : stepsM W K S P = (b : Int)) (hk : K = (kk : Int)) (hd : C = (d : Int))
    (hk2 : kk * kk = k2) (hwd : k2 * d = wd) (hN1 : a * b = N1) (hN : N1 * wd = N) (F : Nat → Int) (hF : F = numF zs H W C S P Z b kk d wd) (w : World) (hr : Kit.Rd w w.heap.size A (I8s zs)) : Calls Try.prog 26 #[.agg #[.int .i64 H, .int .i64 W, .int .i64 C, .slice A n c], .agg #[x0, x1, x2, .int .i64 K, .int .i64 S, .int .i64 P, .int .i64 O, .int .i8 Z, x8, .slice WA nW cW, .slice BA nB cB, x11, x12, x13, x14, x15, x16, x17, x18]] w (MadeR w (N1 : Int) (wd : Int) N (listF F N) (.int .i64 0)) := by
  obtain ⟨hs0, har1, har2, -, -, hsr⟩ := slide_ok he
  have hm : (n : Int) = H * W * C := by simp only [tensB, Bool.and_eq_true, decide_eq_true_eq] at ht; exact ht.2
  obtain ⟨g1, g2, g3, g4, g5, g6, g7⟩ := shapeB_yes hs0
  obtain ⟨q1, q2, q3, q4, q5, q6, q7⟩ := shapeB_yes hsr
  obtain ⟨-, -, k1, k5, st1, st4, pd0, pd4, -⟩ := argsB_yes har1
  have hv : slideS H W C K S P 1 = #[.int .i64 (a : Int), .int .i64 (b : Int), .int .i64 1] := by
    unfold slideS; rw [he, if_pos rfl, ha, hb]
  have hN1b : N1 ≤ 1024 := by
    have : ((N1 : Nat) : Int) = stepsM H K S P * stepsM W K S P * 1 := by rw [ha, hb, ← hN1]; simp
    omega
  have hkk1 : 1 ≤ kk := by omega
  have hkk5 : kk ≤ 5 := by omega
  have hk25 : k2 ≤ 25 := by rw [← hk2]; exact Nat.le_trans (Nat.mul_le_mul hkk5 hkk5) (by omega)
  have hd1 : d ≤ 1024 := by omega
  have hd0 : 1 ≤ d := by omega
  have hwdb : wd ≤ 25600 := by rw [← hwd]; exact Nat.le_trans (Nat.mul_le_mul hk25 hd1) (by omega)
  have hNb : N ≤ 26214400 := by rw [← hN]; exact Nat.le_trans (Nat.mul_le_mul hN1b hwdb) (by omega)
  have hn0 : 0 < zs.length := by rw [hn]; have := Int.mul_pos (Int.mul_pos (show 0 < H by omega) (show 0 < W by omega)) (show 0 < C by omega); omega
  obtain ⟨bz, oz, rfl, hbz, -⟩ := ints_getD hr (j := 0) hn0
  have hm1 : IntKind.i64.wrap ((a : Int) * (b : Int)) = (N1 : Int) := by rw [← Int.natCast_mul, hN1]; exact IntWalk.i64_in _ (by omega)
  have hm2 : IntKind.i64.wrap (K * K) = (k2 : Int) := by rw [hk, ← Int.natCast_mul, hk2]; exact IntWalk.i64_in _ (by omega)
  have hm3 : IntKind.i64.wrap ((k2 : Int) * C) = (wd : Int) := by rw [hd, ← Int.natCast_mul, hwd]; exact IntWalk.i64_in _ (by omega)
  have hm4 : IntKind.i64.wrap ((N1 : Int) * (wd : Int)) = (N : Int) := by rw [← Int.natCast_mul, hN]; exact IntWalk.i64_in _ (by omega)
  have ha1024 : a ≤ 1024 := by omega
  have hb1024 : b ≤ 1024 := by omega
  have hb0 : 0 < b := by omega
  have hn1 : n ≤ 1024 := by omega
  have HT := Lib.hid ht
  have HE := Lib.hid he
  have HV := Lib.hid hv
  have HS0 := Lib.hid hs0
  have HM := Lib.hid hm
  have HN := Lib.hid hn
  have HZ := Lib.hid hz8
  have HK := Lib.hid hk
  have HD := Lib.hid hd
  have HK2 := Lib.hid hk2
  have HWD := Lib.hid hwd
  have HN1 := Lib.hid hN1
  have HNN := Lib.hid hN
  have HFF := Lib.hid hF
  have HR := Lib.hid hr
  have HM1 := Lib.hid hm1
  have HM2 := Lib.hid hm2
  have HM3 := Lib.hid hm3
  clear ht he hv hs0 hm hn hz8 hk hd hk2 hwd hN1 hN hF hr ha hb har1 har2 hsr q1 q2 q3 q4 q5 q6 q7 g7 hm1 hm2 hm3 hn0
  obtain ⟨i0, hi0, hi1, hi2, hi3⟩ := info_parts16 info_i16
  go_enter Try.func26, Try.ntmps26
  go_wp2_with fail
  have HB : Hid (Below w.heap.size w (((w.alloc (.cells #[.int .i64 H, .int .i64 W, .int .i64 C, .slice (some ⟨bz, oz, none⟩) n c] 26)).alloc (.cells #[x0, x1, x2, .int .i64 K, .int .i64 S, .int .i64 P, .int .i64 O, .int .i8 Z, x8, .slice WA nW cW, .slice BA nB cB, x11, x12, x13, x14, x15, x16, x17, x18] 32)).alloc (.cells #[.int .i64 0, .int .i64 0, .slice none 0 0] 64))) := Lib.hid ((((Below.refl _ _).alloc (Nat.le_refl _) _).alloc (by simp) _).alloc (by simp; omega) _)
  have hf := FreshR.new (.int .i64 0) (.int .i64 0) (.slice none 0 0) 64 ((w.alloc (.cells #[.int .i64 H, .int .i64 W, .int .i64 C, .slice (some ⟨bz, oz, none⟩) n c] 26)).alloc (.cells #[x0, x1, x2, .int .i64 K, .int .i64 S, .int .i64 P, .int .i64 O, .int .i8 Z, x8, .slice WA nW cW, .slice BA nB cB, x11, x12, x13, x14, x15, x16, x17, x18] 32))
  rw [World.size_alloc, World.size_alloc] at hf
  have HF := Lib.hid hf
  have TB : Hid (BoxAt w.heap.size H W C (some ⟨bz, oz, none⟩) n c (((w.alloc (.cells #[.int .i64 H, .int .i64 W, .int .i64 C, .slice (some ⟨bz, oz, none⟩) n c] 26)).alloc (.cells #[x0, x1, x2, .int .i64 K, .int .i64 S, .int .i64 P, .int .i64 O, .int .i8 Z, x8, .slice WA nW cW, .slice BA nB cB, x11, x12, x13, x14, x15, x16, x17, x18] 32)).alloc (.cells #[.int .i64 0, .int .i64 0, .slice none 0 0] 64))) := Lib.hid ((boxNew H W C (some ⟨bz, oz, none⟩) n c 26 w).below (B' := w.heap.size + 1) (by omega) (((Below.refl _ _).alloc (by simp) _).alloc (by simp) _))
  have hn9 := NodeAt.new x0 x1 x2 x8 x11 x12 x13 x14 x15 x16 x17 x18 K S P O Z WA BA nW cW nB cB 32 (w.alloc (.cells #[.int .i64 H, .int .i64 W, .int .i64 C, .slice (some ⟨bz, oz, none⟩) n c] 26))
  rw [World.size_alloc] at hn9
  have TN : Hid (NodeAt (w.heap.size + 1) x0 x1 x2 x8 x11 x12 x13 x14 x15 x16 x17 x18 K S P O Z WA BA nW cW nB cB (((w.alloc (.cells #[.int .i64 H, .int .i64 W, .int .i64 C, .slice (some ⟨bz, oz, none⟩) n c] 26)).alloc (.cells #[x0, x1, x2, .int .i64 K, .int .i64 S, .int .i64 P, .int .i64 O, .int .i8 Z, x8, .slice WA nW cW, .slice BA nB cB, x11, x12, x13, x14, x15, x16, x17, x18] 32)).alloc (.cells #[.int .i64 0, .int .i64 0, .slice none 0 0] 64))) := Lib.hid (hn9.below (B' := w.heap.size + 2) (by omega) ((Below.refl _ _).alloc (by simp) _))
  have hz : w.heap.size + 3 ≤ (((w.alloc (.cells #[.int .i64 H, .int .i64 W, .int .i64 C, .slice (some ⟨bz, oz, none⟩) n c] 26)).alloc (.cells #[x0, x1, x2, .int .i64 K, .int .i64 S, .int .i64 P, .int .i64 O, .int .i8 Z, x8, .slice WA nW cW, .slice BA nB cB, x11, x12, x13, x14, x15, x16, x17, x18] 32)).alloc (.cells #[.int .i64 0, .int .i64 0, .slice none 0 0] 64)).heap.size := by simp
  clear hf hn9
  generalize ((w.alloc (.cells #[.int .i64 H, .int .i64 W, .int .i64 C, .slice (some ⟨bz, oz, none⟩) n c] 26)).alloc (.cells #[x0, x1, x2, .int .i64 K, .int .i64 S, .int .i64 P, .int .i64 O, .int .i8 Z, x8, .slice WA nW cW, .slice BA nB cB, x11, x12, x13, x14, x15, x16, x17, x18] 32)).alloc (.cells #[.int .i64 0, .int .i64 0, .slice none 0 0] 64) = W0 at HB HF TB TN hz ⊢
  go_at_call 16
  refine (right_to H W C (some ⟨bz, oz, none⟩) n c true HT.out _).mono ?_
  rintro e W1 ⟨rfl, hb⟩
  replace HF := Lib.hid (HF.out.below hb)
  replace TB := Lib.hid (TB.out.below (B' := W0.heap.size) (by omega) hb)
  replace TN := Lib.hid (TN.out.below (B' := W0.heap.size) (by omega) hb)
  replace HB := Lib.hid (HB.out.trans (hb.mono HB.out.size))
  replace hz := Nat.le_trans hz hb.size
  clear hb
  obtain ⟨tb0, tb1, tb2, tb3⟩ := TB.out
  have n3 := TN.out.at 3 _ rfl
  have n4 := TN.out.at 4 _ rfl
  have n5 := TN.out.at 5 _ rfl
  go_wp2_with fail
  clear tb0 tb1 tb2 tb3 n3 n4 n5
  go_at_call 32
  refine (slide_to H W C K S P 1 0 _ HE.out HV.out _).mono ?_
  rintro e W2 ⟨rfl, hb⟩
  replace HF := Lib.hid (HF.out.below hb)
  replace TB := Lib.hid (TB.out.below (B' := W1.heap.size) (by omega) hb)
  replace TN := Lib.hid (TN.out.below (B' := W1.heap.size) (by omega) hb)
  replace HB := Lib.hid (HB.out.trans (hb.mono HB.out.size))
  replace hz := Nat.le_trans hz hb.size
  clear hb
  have TS : Hid (ShapeAt W2.heap.size (a : Int) (b : Int) 1 (W2.alloc (.cells #[.int .i64 (a : Int), .int .i64 (b : Int), .int .i64 1] 23))) := Lib.hid (shapeNew _ _ _ _ _)
  obtain ⟨tb0, tb1, tb2, tb3⟩ := TB.out
  have hlt1 : w.heap.size < W2.heap.size := by omega
  have hlt2 : w.heap.size + 1 < W2.heap.size := by omega
  have TNa := Lib.hid (TN.out.below (B' := W2.heap.size) (by omega) ((Below.refl _ _).alloc (Nat.le_refl _) (.cells #[.int .i64 (a : Int), .int .i64 (b : Int), .int .i64 1] 23)))
  go_wp2_with (refine wpList_load_mid rfl 32 (.tmp 3) rfl (w.heap.size + 1) 0 rfl [x0, x1, x2, .int .i64 K, .int .i64 S, .int .i64 P, .int .i64 O, .int .i8 Z, x8, .slice WA nW cW, .slice BA nB cB, x11, x12, x13, x14, x15, x16, x17, x18] _ TNa.out Try.underlying32 rfl (by kernel_rfl) ?_)
  have hal : Below W2.heap.size W2 (W2.alloc (.cells #[.int .i64 (a : Int), .int .i64 (b : Int), .int .i64 1] 23)) := (Below.refl _ _).alloc (Nat.le_refl _) _
  clear tb0 tb1 tb2 tb3 hlt1 hlt2 TN
  replace HF := Lib.hid (HF.out.below hal)
  replace TB := Lib.hid (TB.out.below (B' := W2.heap.size) (by omega) hal)
  replace HB := Lib.hid (HB.out.trans (hal.mono HB.out.size))
  have hz6 : W2.heap.size < (W2.alloc (.cells #[.int .i64 (a : Int), .int .i64 (b : Int), .int .i64 1] 23)).heap.size := by simp
  clear hal
  generalize W2.alloc (.cells #[.int .i64 (a : Int), .int .i64 (b : Int), .int .i64 1] 23) = W3 at HF TB HB TS TNa hz6 ⊢
  obtain ⟨g6, hg6⟩ : ∃ g, W2.heap.size = g := ⟨_, rfl⟩
  rw [hg6] at hz hz6 TS ⊢
  clear hg6
  refine (empty_to H W C (a : Int) (b : Int) 1 x0 x1 x2 x8 x11 x12 x13 x14 x15 x16 x17 x18 K S P O Z WA BA nW cW nB cB (N1 : Int) (k2 : Int) (wd : Int) HM1.out HM2.out HM3.out _).mono ?_
  rintro e W4 ⟨rfl, hb⟩
  replace HF := Lib.hid (HF.out.below hb)
  replace TB := Lib.hid (TB.out.below (B' := W3.heap.size) (by omega) hb)
  replace TN := Lib.hid (TNa.out.below (B' := W3.heap.size) (by omega) hb)
  replace TS := Lib.hid (TS.out.below (B' := W3.heap.size) (by omega) hb)
  replace HB := Lib.hid (HB.out.trans (hb.mono HB.out.size))
  replace hz6 := Nat.lt_of_lt_of_le hz6 hb.size
  clear hb TNa
  have hwz : w.heap.size ≤ W4.heap.size := HB.out.size
  go_upto_region 8 with (at_make; refine wpList_make_full _ rfl (.tmp 38) (.tmp 38) _ rfl w.heap.size 89 i0 (.int .i16 0) 1 Try.underlying62 hi0 hi1 hi2 .i64 .i64 _ _ N rfl rfl rfl rfl (by rw [hi3]; omega) (by unfold maxLen; omega) (by simp; omega) ?_; intro W5 hown hg2; obtain ⟨⟨y0, y1, y2⟩, y3, y4, y5⟩ := (FreshR.new (.int .i64 (N1 : Int)) (.int .i64 (wd : Int)) (.slice none 0 0) 64 W4).grown hg2 (by simp); have hlt8 : W4.heap.size < W5.heap.size := Kit.block_lt y0)
  have hgd : (W4.alloc (.cells #[.int .i64 (N1 : Int), .int .i64 (wd : Int), .slice none 0 0] 64)).heap.size = W4.heap.size + 1 := by simp
  rw [hgd] at hown
  rw [show (madeCells (Value.int IntKind.i16 0).cells (N * 1)).toList = I16v (listF (upto F (0 * d)) N) by
    rw [Nat.mul_one]; show (madeCells #[Value.int .i16 0] N).toList = _; rw [toList_madeCells_one]
    apply List.ext_getElem <;> simp [I16v, listF, upto]] at hown
  have hgr : W4.grownBy W5 none := (Kit.grown_of_below ((Below.refl W4.heap.size W4).alloc (Nat.le_refl _) _) none).trans hg2
  have hgd5 : W4.heap.size + 1 < W5.heap.size := by
    have h9 := Kit.block_lt_of_own hown
    exact h9
  obtain ⟨V, hV⟩ : ∃ V, W5.setCell ⟨W4.heap.size, 2, none⟩ (.slice (some ⟨W4.heap.size + 1, 0, none⟩) N N) = V := ⟨_, rfl⟩
  have hgV : W5.grownBy V (some W4.heap.size) := by rw [← hV]; exact grown_set _ _ _ _
  have hgVV : W4.grownBy V (some W4.heap.size) := (grown_but hgr _).trans hgV
  replace HF := Lib.hid (HF.out.grown hgVV (by simp; omega))
  replace TB := Lib.hid (BoxAt_grown TB.out hgVV (by omega))
  replace TN := Lib.hid (NodeAt_grown TN.out hgVV (by omega) (by omega))
  replace TS := Lib.hid (ShapeAt_grown TS.out hgVV (by omega) (by omega))
  have HO : Hid (V.ownsRow w.heap.size 89 1 (.slice (some ⟨W4.heap.size + 1, 0, none⟩) N N) N (I16v (listF (upto F (0 * d)) N))) := Lib.hid (hown.kept hgV (.inr (by simp [Value.ownBlock])))
  have HRW : Hid (RowsAt W4.heap.size (N1 : Int) (wd : Int) (W4.heap.size + 1) N V) := Lib.hid (by
    rw [← hV]
    refine ⟨?_, ?_, ?_⟩
    · rw [World.cell?_setCell_other _ _ _ _ (by simp)]; exact y0
    · rw [World.cell?_setCell_other _ _ _ _ (by simp)]; exact y1
    · exact World.cell?_setCell_same' _ _ _ (by rw [y2]; rfl))
  have HBV : Hid (Below w.heap.size w V) := Lib.hid (by rw [← hV]; exact (HB.out.grown hgr hwz (fun k hk => by cases hk)).setCell (by simp; omega) _)
  have hzV : W4.heap.size + 1 < V.heap.size := by rw [← hV]; simpa using hgd5
  rw [hV]
  clear hown hg2 hgr hgV hgVV y0 y1 y2 y3 y4 y5 hlt8 hgd5 hV HB hgd hi0 hi1 hi2 hi3
  obtain ⟨tb0, tb1, tb2, tb3⟩ := TB.out
  obtain ⟨ts0, ts1, ts2⟩ := TS.out
  obtain ⟨tr0, tr1, tr2⟩ := HRW.out
  go_wp2_with (refine wpList_load_mid rfl 32 (.tmp 3) rfl (w.heap.size + 1) 0 rfl [x0, x1, x2, .int .i64 K, .int .i64 S, .int .i64 P, .int .i64 O, .int .i8 Z, x8, .slice WA nW cW, .slice BA nB cB, x11, x12, x13, x14, x15, x16, x17, x18] _ TN.out Try.underlying32 rfl (by kernel_rfl) ?_)
  clear tb0 tb1 tb2 tb3 ts0 ts1 ts2 tr0 tr1 tr2
  go_at_call 42
  have hOF : OfAt w.heap.size (w.heap.size + 1) W4.heap.size (W4.heap.size + 1) w.heap.size H W C (some ⟨bz, oz, none⟩) n c x0 x1 x2 x8 x11 x12 x13 x14 x15 x16 x17 x18 K S P O Z WA BA nW cW nB cB (N1 : Int) (wd : Int) N zs F d 0 V := ⟨TB.out, TN.out, HRW.out, HO.out, HR.out.below HBV.out, HBV.out.size⟩
  have hin : ∀ (i q : Nat) (y x pos : Int), i < N1 → q < k2 → y = ((i / b : Nat) : Int) * S - P + ((q / kk : Nat) : Int) → x = ((i % b : Nat) : Int) * S - P + ((q % kk : Nat) : Int) → 0 ≤ y → y < H → 0 ≤ x → x < W → (y * W + x) * C = pos →
      ∀ v : World, OfAt w.heap.size (w.heap.size + 1) W4.heap.size (W4.heap.size + 1) w.heap.size H W C (some ⟨bz, oz, none⟩) n c x0 x1 x2 x8 x11 x12 x13 x14 x15 x16 x17 x18 K S P O Z WA BA nW cW nB cB (N1 : Int) (wd : Int) N zs F d (i * k2 + q) v →
      Calls Try.prog 44 #[.int .i64 ((i * wd + q * d : Nat) : Int), .int .i64 pos, .pointer (some ⟨w.heap.size, 0, none⟩), .pointer (some ⟨w.heap.size + 1, 0, none⟩), .pointer (some ⟨W4.heap.size, 0, none⟩)] v fun e v' => (∃ u, e = .returned u) ∧
        OfAt w.heap.size (w.heap.size + 1) W4.heap.size (W4.heap.size + 1) w.heap.size H W C (some ⟨bz, oz, none⟩) n c x0 x1 x2 x8 x11 x12 x13 x14 x15 x16 x17 x18 K S P O Z WA BA nW cW nB cB (N1 : Int) (wd : Int) N zs F d (i * k2 + (q + 1)) v' ∧ v.grownBy v' (some (W4.heap.size + 1)) := by
    intro i q y x pos hi hq hy hx i1 i2 i3 i4 hp v hI
    obtain ⟨-, -, p1, p2, -⟩ := at_bd HS0.out i1 i2 i3 i4 (c := C - 1) (by omega) (by omega)
    obtain ⟨pn, rfl⟩ := Int.eq_ofNat_of_zero_le (show 0 ≤ pos by omega)
    have hat : (i * k2 + q) * d = i * wd + q * d := by rw [Nat.add_mul, Nat.mul_assoc, HWD.out]
    have hNle : (i * k2 + q) * d + d ≤ N := by
      have h1 := Nat.mul_le_mul_right k2 (show i + 1 ≤ N1 by omega)
      rw [Nat.add_mul, Nat.one_mul] at h1
      have h2 := Nat.mul_le_mul_right d (show i * k2 + q + 1 ≤ N1 * k2 by omega)
      rw [Nat.add_mul, Nat.one_mul, Nat.mul_assoc, HWD.out, HNN.out] at h2
      exact h2
    have hDD := HD.out
    have hMM := HM.out
    refine visit_of w.heap.size (w.heap.size + 1) W4.heap.size (W4.heap.size + 1) w.heap.size (by omega) (by omega) (by omega) (by omega) H W C bz oz n c x0 x1 x2 x8 x11 x12 x13 x14 x15 x16 x17 x18 K S P O Z WA BA nW cW nB cB (N1 : Int) (wd : Int) N zs F d (i * k2 + q) (i * wd + q * d) pn hDD HN.out HZ.out z1 z2 hat (by rw [← hat]; exact hNle) (by omega) (by omega) hn1 (fun t ht => ?_) v hI
    rw [HFF.out, ← hat, numF_in zs HWD.out hq hy hx i1 i2 i3 i4 hp t ht]
    congr 2
  have hskip : ∀ (i q : Nat) (y x : Int), i < N1 → q < k2 → y = ((i / b : Nat) : Int) * S - P + ((q / kk : Nat) : Int) → x = ((i % b : Nat) : Int) * S - P + ((q % kk : Nat) : Int) → ¬ (0 ≤ y ∧ y < H ∧ 0 ≤ x ∧ x < W) →
      ∀ v : World, OfAt w.heap.size (w.heap.size + 1) W4.heap.size (W4.heap.size + 1) w.heap.size H W C (some ⟨bz, oz, none⟩) n c x0 x1 x2 x8 x11 x12 x13 x14 x15 x16 x17 x18 K S P O Z WA BA nW cW nB cB (N1 : Int) (wd : Int) N zs F d (i * k2 + q) v → OfAt w.heap.size (w.heap.size + 1) W4.heap.size (W4.heap.size + 1) w.heap.size H W C (some ⟨bz, oz, none⟩) n c x0 x1 x2 x8 x11 x12 x13 x14 x15 x16 x17 x18 K S P O Z WA BA nW cW nB cB (N1 : Int) (wd : Int) N zs F d (i * k2 + (q + 1)) v := by
    intro i q y x hi hq hy hx ho v hI
    obtain ⟨j1, j2, j3, j4, j5, j6⟩ := hI
    rw [upto_skip (k := i * k2 + q) (fun t ht => by rw [HFF.out]; exact numF_out zs HWD.out hq hy hx ho t ht)] at j4
    exact ⟨j1, j2, j3, j4, j5, j6⟩
  refine (each_of H W C HS0.out x0 x1 x2 x8 x11 x12 x13 x14 x15 x16 x17 x18 K S P O Z WA BA nW cW nB cB a b kk k2 d HK.out hkk1 hkk5 HK2.out hb0 ha1024 hb1024 HD.out st1 st4 pd0 pd4 (N1 : Int) (wd : Int) (.slice (some ⟨W4.heap.size + 1, 0, none⟩) N N) wd rfl HWD.out N1 HN1.out hN1b w.heap.size (w.heap.size + 1) W4.heap.size (W4.heap.size + 1) (fun k v => OfAt w.heap.size (w.heap.size + 1) W4.heap.size (W4.heap.size + 1) w.heap.size H W C (some ⟨bz, oz, none⟩) n c x0 x1 x2 x8 x11 x12 x13 x14 x15 x16 x17 x18 K S P O Z WA BA nW cW nB cB (N1 : Int) (wd : Int) N zs F d k v) V hzV (fun k v v' h hb => h.stay hb) hin hskip hOF).mono ?_
  rintro e W6 ⟨⟨u, rfl⟩, hI, hgW⟩
  have hf6 := HF.out.grown hgW (by simp; omega)
  have hB6 : Below w.heap.size w W6 := HBV.out.grown hgW HBV.out.size (fun k hk => by cases hk; omega)
  obtain ⟨-, -, ⟨tr0, tr1, tr2⟩, ho6, -, -⟩ := hI
  rw [Nat.mul_assoc, HWD.out, HNN.out, show listF (upto F N) N = listF F N from listF_congr fun t ht => by simp [upto, ht]] at ho6
  obtain ⟨⟨zz0, zz1, zz2⟩, zz3, zz4, zz5⟩ := hf6
  have HO6 := Lib.hid ho6
  have HB6 := Lib.hid hB6
  clear HO HRW HBV HF TB TN TS hin hskip hOF hgW ho6 hB6 hzV
  have hlz : w.heap.size + 1 + 1 < W6.heap.size := Kit.block_lt zz0
  go_wp2_with fail
  refine bodyPost_ret (Kit.results_ct rfl _ _ (w.heap.size + 1 + 1) 0 [.int .i64 (N1 : Int), .int .i64 (wd : Int), .slice (some ⟨W4.heap.size + 1, 0, none⟩) N N] _ rfl (Kit.range_3 (by go_cell) (by go_cell) (by go_cell)) Try.underlying64 rfl (by kernel_rfl)) rfl ?_
  exact ⟨_, rfl, ((HO6.out.kept (grown_set _ _ _ _) (.inr (by simp [Value.ownBlock]; omega))).kept (grown_set _ _ _ _) (.inr (by simp [Value.ownBlock]; omega))).kept (grown_set _ _ _ _) (.inr (by simp [Value.ownBlock]; omega)), ((HB6.out.setCell (by simp; omega) _).setCell (by simp; omega) _).setCell (by simp; omega) _⟩
end Go.Proofs.Ytceejjliboiciaa.CPatch

