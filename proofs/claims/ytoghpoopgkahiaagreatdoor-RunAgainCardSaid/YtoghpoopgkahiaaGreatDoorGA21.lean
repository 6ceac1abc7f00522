/- Texts of this seat, one behind the other: KindCheck, KindNames, FixKnown, PoolRef, PadCode, KindLaid. -/
import Derived.Deep.CutRange
import Derived.BigQuiet
import Derived.Laws.AppendOwn
import Derived.IntWalk
import Derived.ProofKit
import Derived.LaidMore
import Derived.OpenShut
import Derived.Stop.Joined
import Derived.Test.YtoghpoopgkahiaaGreatDoorGA1
import Derived.Test.YtoghpoopgkahiaaGreatDoorGA3
import Derived.Test.YtoghpoopgkahiaaGreatDoorGA4
import Derived.Test.YtoghpoopgkahiaaGreatDoorGA8
import Derived.Test.YtoghpoopgkahiaaGreatDoorGA9
import Derived.Test.YtoghpoopgkahiaaGreatDoorGA14
import Derived.Test.YtoghpoopgkahiaaGreatDoorGA15
import Derived.Test.YtoghpoopgkahiaaGreatDoorGA19
import Derived.Test.YtoghpoopgkahiaaGreatDoorGA20
section
namespace Go.Proofs.YtoghpoopgkahiaaGreatDoor.CKind
open Go Go.ChangeShapes Go.WideShapes Go.ChangeAt Go.RowKit Go.Deep
open Plain CSat CFix CShape CTensor CConv
set_option linter.unusedVariables false
set_option linter.unusedSimpArgs false
/-- what is wrong with a node. -/
def Nd.checkZ (x : Nd) : Int :=
  if x.kd < 1 ∨ 9 < x.kd then 6 else if x.moreB = true then 2 else if ((scaledB x.kd && !rightB x.m1 x.s1) || (x.kd == 6 && !rightB x.m2 x.s2)) = true then 7 else if (scaledB x.kd && decide (x.hi < x.lo)) = true then 2 else 0
end Go.Proofs.YtoghpoopgkahiaaGreatDoor.CKind
end
section
namespace Go.Proofs.YtoghpoopgkahiaaGreatDoor.CKind
set_option maxRecDepth 100000
open Go Go.ChangeShapes Go.WideShapes Go.ChangeAt Go.RowKit Go.Deep
open Plain CSat CFix CShape CTensor CConv
set_option linter.unusedVariables false
set_option linter.unusedSimpArgs false
/-- the kinds' names, as the program's text lays them. -/
def NamesIn (w : World) : Prop := ∀ n : Nat, n < 10 → w.cell? ⟨0, n, none⟩ = some (.string (kname n))
theorem NamesIn.size {w : World} (h : NamesIn w) : 0 < w.heap.size := by
  have h0 := h 0 (by decide)
  unfold World.cell? at h0
  rcases Nat.lt_or_ge 0 w.heap.size with hlt | hge
  · exact hlt
  · rw [show w.heap[(⟨0, 0, none⟩ : Addr).block]? = none from Array.getElem?_eq_none hge] at h0
    cases h0
theorem NamesIn.below {w w' : World} {n : Nat} (h : NamesIn w) (hb : Below n w w') (hn : 0 < n) : NamesIn w' := fun j hj => (hb.cell (p := ⟨0, j, none⟩) hn).trans (h j hj)
theorem NamesIn.grown {w w' : World} (h : NamesIn w) (hb : Below w.heap.size w w') : NamesIn w' := h.below hb h.size
set_option maxRecDepth 100000 in
set_option maxHeartbeats 4000000 in
theorem name_to (k : Int) (w : World) (hT : NamesIn w) : Calls Tryz.prog 96 #[.int .i64 k] w fun e w' => e = .returned (.string (kname k)) ∧ w = w' := by
  by_cases h : k < 0 ∨ 9 < k
  · have HK := Lib.hid (kname_no (k := k) (by omega))
    rcases h with h | h
    · go_enter Tryz.func96, Tryz.ntmps96
      go_wp2_with fail
      go_ret
      exact ⟨by rw [HK.out]; rfl, rfl⟩
    · have h2 : ¬ k < 0 := by omega
      have h3 : (10 : Int) ≤ k := by omega
      go_enter Tryz.func96, Tryz.ntmps96
      go_wp2_with fail
      go_ret
      exact ⟨by rw [HK.out]; rfl, rfl⟩
  · obtain ⟨n, rfl⟩ : ∃ n : Nat, k = (n : Int) := ⟨k.toNat, by omega⟩
    have h9 : n < 10 := by omega
    have hc := hT n h9
    obtain ⟨s, hs⟩ : ∃ s, kname (n : Int) = s := ⟨_, rfl⟩
    rw [hs] at hc ⊢
    have h0 : ¬ (n : Int) < 0 := by omega
    have h10 : ¬ (10 : Int) ≤ (n : Int) := by omega
    have h11 : (n : Int) < 10 := by omega
    clear hs hT h
    go_enter Tryz.func96, Tryz.ntmps96
    go_wp2_with fail
    go_ret
    exact ⟨rfl, rfl⟩
/-- is there such a kind? -/
def knownB (k : Int) : Bool := decide (1 ≤ k ∧ k ≤ 9)
theorem kname_ne (k : Int) : (kname k).toList.isEmpty = !knownB k := by
  rw [ByteArray.toList_eq]
  by_cases h : k < 1 ∨ 9 < k
  · rw [kname_no h, show knownB k = false from decide_eq_false (by omega)]; decide
  · have : k = 1 ∨ k = 2 ∨ k = 3 ∨ k = 4 ∨ k = 5 ∨ k = 6 ∨ k = 7 ∨ k = 8 ∨ k = 9 := by omega
    rcases this with rfl | rfl | rfl | rfl | rfl | rfl | rfl | rfl | rfl <;> decide
set_option maxRecDepth 100000 in
set_option maxHeartbeats 4000000 in
theorem known_to (k : Int) (w : World) (hT : NamesIn w) : Calls Tryz.prog 46 #[.int .i64 k] w fun e w' => e = .returned (.bool (knownB k)) ∧ w = w' := by
  have HN := Lib.hid (name_to k w hT)
  have hne := kname_ne k
  clear hT
  obtain ⟨s, hs⟩ : ∃ s, kname k = s := ⟨_, rfl⟩
  rw [hs] at HN hne
  clear hs
  cases hb : knownB k
  all_goals
    rw [hb] at hne
    simp only [Bool.not_false, Bool.not_true] at hne
    clear hb
    go_enter Tryz.func46, Tryz.ntmps46
    go_wp2_with (go_at_call 96; (with_reducible refine HN.out.mono ?_); rintro e w1 ⟨rfl, rfl⟩)
    go_ret
    exact ⟨rfl, rfl⟩
theorem sums_to (k : Int) (w : World) : Calls Tryz.prog 98 #[.int .i64 k] w fun e w' => e = .returned (.bool (sumsB k)) ∧ w = w' := by
  go_enter Tryz.func98, Tryz.ntmps98
  go_wp2_with fail
  all_goals go_ret
  all_goals exact ⟨by simp_all [sumsB], rfl⟩
theorem scaled_to (k : Int) (w : World) : Calls Tryz.prog 49 #[.int .i64 k] w fun e w' => e = .returned (.bool (scaledB k)) ∧ w = w' := by
  have HS := Lib.hid (sums_to k)
  obtain ⟨b, hb⟩ : ∃ b, sumsB k = b := ⟨_, rfl⟩
  have HZ : Hid (scaledB k = (b || k == 6 || k == 7)) := Lib.hid (by rw [← hb]; rfl)
  rw [hb] at HS
  clear hb
  cases b
  all_goals
    go_enter Tryz.func49, Tryz.ntmps49
    go_wp2_with (go_at_call 98; (with_reducible refine (HS.out _).mono ?_); rintro e w1 ⟨rfl, rfl⟩)
    all_goals go_ret
    all_goals exact ⟨by rw [HZ.out]; simp_all, rfl⟩
end Go.Proofs.YtoghpoopgkahiaaGreatDoor.CKind
end
section
namespace Go.Proofs.YtoghpoopgkahiaaGreatDoor.CFix
open Go Go.ChangeShapes Go.WideShapes Go.ChangeAt Go.RowKit
open Plain CSat
set_option linter.unusedVariables false
theorem scale_int (a m s t : Int) (h1 : 0 ≤ s) (h2 : s ≤ 62) (ha1 : -2147483648 ≤ a) (ha2 : a ≤ 2147483647) (hm1 : -2147483648 ≤ m) (hm2 : m ≤ 2147483647) (ht : roundZ (a * m) s.toNat = t) (w : World) :
    Calls Tryz.prog 139 #[.int .i32 a, .int .i32 m, .int .i64 s] w fun e w' => e = .returned (.int .i64 t) ∧ w = w' := by
  obtain ⟨n, rfl⟩ := Int.eq_ofNat_of_zero_le h1
  exact ht ▸ scale_yes a m n (by omega) ha1 ha2 hm1 hm2 w
end Go.Proofs.YtoghpoopgkahiaaGreatDoor.CFix
end
section
namespace Go.Proofs.YtoghpoopgkahiaaGreatDoor.CPool
open Go Go.ChangeShapes Go.WideShapes Go.ChangeAt Go.RowKit
open Plain CSat CShape CTensor CConv
set_option linter.unusedVariables false
/-- the mean of some numbers, of 8 bits. -/
def meanZ (zs : List Int) : Int := IntKind.i8.wrap (nearZ (psum (fun i => zs.getD i 0) zs.length) zs.length)
end Go.Proofs.YtoghpoopgkahiaaGreatDoor.CPool
end
section
namespace Go.Proofs.YtoghpoopgkahiaaGreatDoor.CPad
open Go Go.ChangeShapes Go.WideShapes Go.ChangeAt Go.RowKit
open Plain CSat CShape CTensor
set_option linter.unusedVariables false
theorem check_to (H W C : Int) (A : Option Addr) (n c : Nat) (p : Int) (r : Int) (hr : (if tensB H W C n = true then (if p < 0 ∨ 4 < p then 2 else 0) else 5) = r) (w : World) :
    Calls Tryz.prog 63 #[.agg #[.int .i64 H, .int .i64 W, .int .i64 C, .slice A n c], .int .i64 p] w fun e w' => e = .returned (.int .i64 r) ∧ Below w.heap.size w w' := by
  cases ht : tensB H W C n
  · rw [ht] at hr
    simp at hr
    subst hr
    have HT := Lib.hid ht
    clear ht
    go_enter Tryz.func63, Tryz.ntmps63
    go_wp2_with (go_at_call 17; (refine (right_to H W C A n c false HT.out _).mono ?_); rintro e w1 ⟨rfl, hb⟩; (have HB := Lib.hid (((Below.refl w.heap.size w).alloc (Nat.le_refl _) _).trans (hb.mono (by simp)))); clear hb)
    go_ret
    exact ⟨rfl, HB.out⟩
  · rw [ht, if_pos rfl] at hr
    have HT := Lib.hid ht
    clear ht
    rcases (show p < 0 ∨ (0 ≤ p ∧ 4 < p) ∨ (0 ≤ p ∧ p ≤ 4) by omega) with h | ⟨h, h2⟩ | ⟨h, h2⟩
    · rw [if_pos (Or.inl h)] at hr
      subst hr
      go_enter Tryz.func63, Tryz.ntmps63
      go_wp2_with (go_at_call 17; (refine (right_to H W C A n c true HT.out _).mono ?_); rintro e w1 ⟨rfl, hb⟩; (have HB := Lib.hid (((Below.refl w.heap.size w).alloc (Nat.le_refl _) _).trans (hb.mono (by simp)))); clear hb)
      go_ret
      exact ⟨rfl, HB.out⟩
    · rw [if_pos (Or.inr h2)] at hr
      subst hr
      go_enter Tryz.func63, Tryz.ntmps63
      go_wp2_with (go_at_call 17; (refine (right_to H W C A n c true HT.out _).mono ?_); rintro e w1 ⟨rfl, hb⟩; (have HB := Lib.hid (((Below.refl w.heap.size w).alloc (Nat.le_refl _) _).trans (hb.mono (by simp)))); clear hb)
      go_ret
      exact ⟨rfl, HB.out⟩
    · rw [if_neg (by omega)] at hr
      subst hr
      go_enter Tryz.func63, Tryz.ntmps63
      go_wp2_with (go_at_call 17; (refine (right_to H W C A n c true HT.out _).mono ?_); rintro e w1 ⟨rfl, hb⟩; (have HB := Lib.hid (((Below.refl w.heap.size w).alloc (Nat.le_refl _) _).trans (hb.mono (by simp)))); clear hb)
      go_ret
      exact ⟨rfl, HB.out⟩
theorem widened_to (H W C p : Int) (h1 : 1 ≤ H) (h2 : H ≤ 16) (h3 : 1 ≤ W) (h4 : W ≤ 16) (p1 : -4 ≤ p) (p2 : p ≤ 4) (w : World) :
    Calls Tryz.prog 65 #[.agg #[.int .i64 H, .int .i64 W, .int .i64 C], .int .i64 p] w fun e w' => e = .returned (.agg #[.int .i64 (H + 2 * p), .int .i64 (W + 2 * p), .int .i64 C]) ∧ Below w.heap.size w w' := by
  go_enter Tryz.func65, Tryz.ntmps65
  go_wp2_with fail
  refine bodyPost_ret (Kit.results_c rfl _ _ (w.heap.size + 1) 0 [.int .i64 (H + 2 * p), .int .i64 (W + 2 * p), .int .i64 C] _ rfl (Kit.range_3 (by go_cell) (by go_cell) (by go_cell)) Tryz.underlying30 rfl (by kernel_rfl)) rfl ?_
  exact ⟨rfl, by go_grown⟩
/-- the captured cells of what is moved. -/
def MovedAt (B : Nat) (H W C : Int) (A : Option Addr) (n c : Nat) (p q z : Int) (wd : World) : Prop :=
  BoxAt B H W C A n c wd ∧ wd.cell? ⟨B + 1, 0, none⟩ = some (.int .i64 p) ∧ wd.cell? ⟨B + 2, 0, none⟩ = some (.int .i64 q) ∧ wd.cell? ⟨B + 3, 0, none⟩ = some (.int .i8 z)
theorem MovedAt.below {B B' : Nat} {H W C : Int} {A : Option Addr} {n c : Nat} {p q z : Int} {w w' : World} (h : MovedAt B H W C A n c p q z w) (hB : B + 4 ≤ B') (hb : Below B' w w') : MovedAt B H W C A n c p q z w' := by
  obtain ⟨h0, h1, h2, h3⟩ := h
  exact ⟨h0.below (by omega) hb, (hb.cell (p := ⟨B + 1, 0, none⟩) (by show B + 1 < B'; omega)).trans h1, (hb.cell (p := ⟨B + 2, 0, none⟩) (by show B + 2 < B'; omega)).trans h2, (hb.cell (p := ⟨B + 3, 0, none⟩) (by show B + 3 < B'; omega)).trans h3⟩
def movedF (B : Nat) : Value := .func (.func 109) #[] #[.pointer (some ⟨B, 0, none⟩), .pointer (some ⟨B + 1, 0, none⟩), .pointer (some ⟨B + 2, 0, none⟩), .pointer (some ⟨B + 3, 0, none⟩)]
theorem moved_to (H W C : Int) (A : Option Addr) (n c : Nat) (p q z : Int) (w : World) :
    Calls Tryz.prog 66 #[.agg #[.int .i64 H, .int .i64 W, .int .i64 C, .slice A n c], .int .i64 p, .int .i64 q, .int .i8 z] w fun e w' => e = .returned (movedF w.heap.size) ∧ MovedAt w.heap.size H W C A n c p q z w' ∧ w.heap.size + 4 ≤ w'.heap.size ∧ Below w.heap.size w w' := by
  go_enter Tryz.func66, Tryz.ntmps66
  go_wp2_with fail
  go_ret
  refine ⟨rfl, ⟨⟨?_, ?_, ?_, ?_⟩, ?_, ?_, ?_⟩, by simp, by go_grown⟩
  all_goals go_cell
set_option maxHeartbeats 1000000 in
theorem moved1_in (H W C : Int) (A : Option Addr) (zs : List Int) (n c : Nat) (hn : zs.length = n) (hc : n ≤ c) (ht : tensB H W C n = true) (r s k p q z h v : Int) (hh : IntKind.i64.wrap (r - p) = h) (hv : IntKind.i64.wrap (s - q) = v) (k0 : 0 ≤ k) (k1 : k < C) (h0 : 0 ≤ h) (h1 : h < H) (v0 : 0 ≤ v) (v1 : v < W) (x : Int) (hx : zs.getD ((h * W + v) * C + k).toNat 0 = x)
    {B Bz : Nat} (W0 : World) (hM : MovedAt B H W C A n c p q z W0) (hB : B + 4 ≤ W0.heap.size) (hBz : Bz ≤ W0.heap.size) (hr : Kit.Rd W0 Bz A (I8s zs)) :
    Calls Tryz.prog 109 #[.int .i64 r, .int .i64 s, .int .i64 k, .pointer (some ⟨B, 0, none⟩), .pointer (some ⟨B + 1, 0, none⟩), .pointer (some ⟨B + 2, 0, none⟩), .pointer (some ⟨B + 3, 0, none⟩)] W0 fun e w' => e = .returned (.int .i8 x) ∧ Below W0.heap.size W0 w' := by
  have hs : shapeB H W C = true := by simp only [tensB, Bool.and_eq_true] at ht; exact ht.1
  have hm : (n : Int) = H * W * C := by simp only [tensB, Bool.and_eq_true, decide_eq_true_eq] at ht; exact ht.2
  obtain ⟨g1, g2, g3, g4, g5, g6, g7, g8⟩ := place_bd hs hm h0 h1 v0 v1 k0 k1
  obtain ⟨pp, hpp⟩ : ∃ pp : Nat, (h * W + v) * C + k = (pp : Int) := ⟨((h * W + v) * C + k).toNat, by omega⟩
  have hpn : pp < n := by omega
  have hn9 : n ≤ 1000000 := by
    have := (shapeB_yes hs).2.2.2.2.2.2; omega
  have hx2 : zs[pp]? = some x := by
    rw [hpp] at hx
    rw [List.getElem?_eq_getElem (by omega), ← hx]
    simp [List.getD_eq_getElem?_getD, List.getElem?_eq_getElem (show pp < zs.length by omega)]
  have hpl : placeB H W C n h v k = true := by
    simp only [placeB, inB, Bool.and_eq_true, decide_eq_true_eq]
    exact ⟨ht, hs, h0, h1, v0, v1, k0, k1⟩
  have HPL := Lib.hid hpl
  have HPP := Lib.hid hpp
  have HX := Lib.hid hx2
  have HN := Lib.hid hn
  have HR := Lib.hid hr
  obtain ⟨⟨c0, c1, c2, c3⟩, c4, c5, c6⟩ := hM
  clear hpl hpp hx2 hx hn hr ht hs hm g1 g2 g3 g4 g5 g6 g7 g8
  go_enter Tryz.func109, Tryz.ntmps109
  go_wp2_with (go_at_call 110; (refine (at_yes H W C A zs n c HN.out hc hn9 h v k pp HPL.out HPP.out x HX.out (B := Bz) _ hBz HR.out).mono ?_); rintro e w1 ⟨rfl, hb⟩; (have HB := Lib.hid hb); clear hb)
  go_ret
  exact ⟨rfl, HB.out⟩
set_option maxHeartbeats 1000000 in
theorem moved1_out (H W C : Int) (A : Option Addr) (n c : Nat) (r s k p q z h v : Int) (hh : IntKind.i64.wrap (r - p) = h) (hv : IntKind.i64.wrap (s - q) = v) (ho : ¬ (0 ≤ h ∧ h < H ∧ 0 ≤ v ∧ v < W))
    {B : Nat} (W0 : World) (hM : MovedAt B H W C A n c p q z W0) (hB : B + 4 ≤ W0.heap.size) :
    Calls Tryz.prog 109 #[.int .i64 r, .int .i64 s, .int .i64 k, .pointer (some ⟨B, 0, none⟩), .pointer (some ⟨B + 1, 0, none⟩), .pointer (some ⟨B + 2, 0, none⟩), .pointer (some ⟨B + 3, 0, none⟩)] W0 fun e w' => e = .returned (.int .i8 z) ∧ Below W0.heap.size W0 w' := by
  have hpl : placeB H W C n h v k = false := by
    cases hb : placeB H W C n h v k
    · rfl
    · simp only [placeB, inB, Bool.and_eq_true, decide_eq_true_eq] at hb
      obtain ⟨-, -, a1, a2, a3, a4, -⟩ := hb
      exact absurd ⟨a1, a2, a3, a4⟩ ho
  have HPL := Lib.hid hpl
  obtain ⟨⟨c0, c1, c2, c3⟩, c4, c5, c6⟩ := hM
  clear hpl ho
  go_enter Tryz.func109, Tryz.ntmps109
  go_wp2_with (go_at_call 110; (refine (at_no H W C A n c h v k HPL.out _).mono ?_); rintro e w1 ⟨rfl, hb⟩; (have c6 := (hb.cell (p := ⟨B + 3, 0, none⟩) (by show B + 3 < _; omega)).trans c6); (have HB := Lib.hid hb); clear hb)
  go_ret
  exact ⟨rfl, HB.out⟩
theorem moved1_to (H W C : Int) (A : Option Addr) (zs : List Int) (n c : Nat) (hn : zs.length = n) (hc : n ≤ c) (ht : tensB H W C n = true) (r s k p q z h v : Int) (hh : IntKind.i64.wrap (r - p) = h) (hv : IntKind.i64.wrap (s - q) = v) (k0 : 0 ≤ k) (k1 : k < C) (x : Int) (hx : pixZ zs H W C h v k z = x)
    {B Bz : Nat} (W0 : World) (hM : MovedAt B H W C A n c p q z W0) (hB : B + 4 ≤ W0.heap.size) (hBz : Bz ≤ W0.heap.size) (hr : Kit.Rd W0 Bz A (I8s zs)) :
    Calls Tryz.prog 109 #[.int .i64 r, .int .i64 s, .int .i64 k, .pointer (some ⟨B, 0, none⟩), .pointer (some ⟨B + 1, 0, none⟩), .pointer (some ⟨B + 2, 0, none⟩), .pointer (some ⟨B + 3, 0, none⟩)] W0 fun e w' => e = .returned (.int .i8 x) ∧ Below W0.heap.size W0 w' := by
  unfold pixZ at hx
  by_cases hi : 0 ≤ h ∧ h < H ∧ 0 ≤ v ∧ v < W
  · rw [if_pos hi] at hx
    exact moved1_in H W C A zs n c hn hc ht r s k p q z h v hh hv k0 k1 hi.1 hi.2.1 hi.2.2.1 hi.2.2.2 x hx W0 hM hB hBz hr
  · rw [if_neg hi] at hx
    subst hx
    exact moved1_out H W C A n c r s k p q z h v hh hv hi W0 hM hB
end Go.Proofs.YtoghpoopgkahiaaGreatDoor.CPad
end
section
namespace Go.Proofs.YtoghpoopgkahiaaGreatDoor.CKind
open Go Go.ChangeShapes Go.WideShapes Go.ChangeAt Go.RowKit Go.Deep Go.WideElems
open Plain CSat CFix CShape CTensor CConv
set_option linter.unusedVariables false
set_option linter.unusedSimpArgs false
theorem gVar : Tryz.prog.globalNamed "stepwell/kinds.names" = some 0 := by kernel_rfl
theorem tVar : (Tryz.prog.globals[0]?).map (·.type) = some 168 := by kernel_rfl
def namesZ : List (List UInt8) := [[], [99, 111, 110, 118], [100, 101, 112, 116, 104], [100, 101, 110, 115, 101], [109, 97, 120, 112, 111, 111, 108], [97, 118, 103, 112, 111, 111, 108], [106, 111, 105, 110], [97, 99, 116], [112, 97, 100], [102, 108, 97, 116]]
theorem namesZ_at : ∀ n : Nat, n < 10 → namesZ[n]? = some (kname n).data.toList := by decide +kernel
theorem of_laid {W : World} (h : laidMetH Tryz.prog [("stepwell/kinds.names", Rows.laid_stepwell_kinds_names)] W) : NamesIn W := by
  rw [MakeChecks.laidMetH_plain _ _ _ (by kernel_rfl)] at h
  obtain ⟨ps, ⟨g0, t0, cs0, f0, p0, q0, hg0, ht0, hv0, hd0, _⟩, _, _⟩ := h
  obtain rfl := Option.some.inj (gVar.symm.trans hg0)
  obtain rfl := Option.some.inj (tVar.symm.trans ht0)
  obtain ⟨xs, m1, rfl, hx1, hlen, hn3, hel⟩ := DataW.trod_array Tryz.underlying168 hd0
  have c1 : Tryz.prog.cellsOf 9 = 1 := by kernel_rfl
  intro n hn
  rw [World.var?_cell hg0 hv0 n]
  have hi := hel n hn
  rw [c1] at hi
  have hxs : xs.map (·.1) = namesZ.map fun z => .lit (.string z) := by
    have := congrArg Prod.fst hx1
    simp only [Rows.laid_stepwell_kinds_names, DataW.agg.injEq] at this
    exact this.symm
  have hxn : (xs.map (·.1))[n]? = some (.lit (.string (kname n).data.toList)) := by
    rw [hxs, List.getElem?_map, namesZ_at n hn]; rfl
  rw [List.getElem?_map] at hxn
  obtain ⟨x, hx, hx2⟩ := Option.map_eq_some_iff.1 hxn
  rw [hx] at hi
  obtain ⟨k, e1, e2, _⟩ := DataW.trod_string Tryz.underlying9 hi
  have hk : k = kname n := by
    rw [e2] at hx2
    simp only [DataW.lit.injEq, Lit.string.injEq] at hx2
    exact ByteArray.ext (Array.toList_inj.1 hx2)
  subst hk
  have h0 := congrArg (fun l : List Value => l[0]?) e1
  simpa using h0
end Go.Proofs.YtoghpoopgkahiaaGreatDoor.CKind
end
