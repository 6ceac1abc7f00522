/- SpanRows: between which numbers any row of weights lies, all rows of any node, and what comes of any range, is what the document says; the call returns true and leaves its arguments as they were. No condition. -/
import Derived.Test.YtaoadgolplnedaaSpanAllC
import Derived.Test.YtaoadgolplnedaaSpanAfterC
import Derived.Test.YtaoadgolplnedaaConvBoth
import Derived.Test.YtaoadgolplnedaaRows
import Derived.ProofKit
import Derived.OpenShut
import Derived.Outline
import Derived.Deep.CutRange
import Derived.Test.YtaoadgolplnedaaOpenNode
namespace Go.Proofs.Ytaoadgolplnedaa.lawSpanRows
open Go Go.ChangeShapes Go.WideShapes Go.ChangeAt Go.RowKit Go.Deep
open Plain CSat CFix CShape CTensor CConv CSpan CJoin
set_option linter.unusedVariables false

set_option maxRecDepth 100000 in
set_option maxHeartbeats 4000000 in
theorem walk_no {w : World} (x0 x1 x2 : Value) (K S P O Z Y : Int) (WA BA : Option Addr) (nW cW nB cB : Nat) (m1 s1 z1 m2 s2 z2 lo hi : Int) (l h p q : Int) (hfew : 2000 < nW ∨ 200 < nB) :
    Calls Try.prog 3 #[.agg #[x0, x1, x2, .int .i64 K, .int .i64 S, .int .i64 P, .int .i64 O, .int .i8 Z, .int .i8 Y, .slice WA nW cW, .slice BA nB cB, .int .i32 m1, .int .i64 s1, .int .i8 z1, .int .i32 m2, .int .i64 s2, .int .i8 z2, .int .i8 lo, .int .i8 hi], .int .i8 l, .int .i8 h, .int .i64 p, .int .i64 q] w fun e w' => e = .returned (.bool true) ∧ Below w.heap.size w w' := by
  have hal : Below w.heap.size w (w.alloc (.cells #[x0, x1, x2, .int .i64 K, .int .i64 S, .int .i64 P, .int .i64 O, .int .i8 Z, .int .i8 Y, .slice WA nW cW, .slice BA nB cB, .int .i32 m1, .int .i64 s1, .int .i8 z1, .int .i32 m2, .int .i64 s2, .int .i8 z2, .int .i8 lo, .int .i8 hi] 28)) := (Below.refl _ _).alloc (Nat.le_refl _) _
  go_enter Try.func3, Try.ntmps3
  by_cases h1 : 2000 < nW
  · have h2 : (nW : Int) > 2000 := by omega
    go_wp2_with (go_at_call 7; (refine (known24 _).mono ?_); rintro e w4 ⟨rfl, hb4⟩)
    go_ret
    exact ⟨rfl, hal.trans (hb4.mono hal.size)⟩
  · have h2 : ¬ (nW : Int) > 2000 := by omega
    have h3 : (nB : Int) > 200 := by omega
    clear hfew h1
    go_wp2_with (go_at_call 7; (refine (known24 _).mono ?_); rintro e w4 ⟨rfl, hb4⟩)
    go_ret
    exact ⟨rfl, hal.trans (hb4.mono hal.size)⟩
theorem rd_nil (w : World) (B : Nat) (A : Option Addr) : Kit.Rd w B A (I8s []) := fun j u h => by simp [I8s] at h
theorem rd_quiet {w : World} {A : Option Addr} {vs : List Value} (h : Kit.Rd w w.heap.size A vs) (n : Nat) : Kit.Rd (w.drewN n) (w.drewN n).heap.size A vs := h
theorem quiet_at {P : Program} {f : FuncId} {args : Array Value} {w : World} {m n : Nat} {v : Value} (h : Calls P f args (w.drewN (m + n)) fun e w' => e = .returned v ∧ ∃ k, w' = (w.drewN (m + n)).drewN k) : Calls P f args (w.drewN (m + n)) fun e w' => e = .returned v ∧ ∃ k, w' = w.drewN (m + k) :=
  h.mono fun _ _ ⟨he, k, hk⟩ => ⟨he, n + k, by rw [hk, World.drewN_drewN, Nat.add_assoc]⟩
theorem i8s_dropS (zs : List Int) (k : Nat) : (I8s zs).drop k = I8s (zs.drop k) := by simp [I8s, List.map_drop]
theorem i8s_takeS (zs : List Int) (k : Nat) : (I8s zs).take k = I8s (zs.take k) := by simp [I8s, List.map_take]
set_option maxRecDepth 100000 in
set_option maxHeartbeats 8000000 in
theorem walk_few {w : World} (x0 x1 x2 : Value) (K S P O Z Y : Int) (WA BA : Option Addr) (nW cW nB cB : Nat) (m1 s1 z1 m2 s2 z2 lo hi : Int) (ws bs : List Int) (hws : ws.length = nW) (hbs : bs.length = nB) (hwb : I8b ws) (hbb : ∀ q, -2147483648 ≤ bs.getD q 0 ∧ bs.getD q 0 ≤ 2147483647) (hcw : nW ≤ cW) (hcb : nB ≤ cB) (hnb : NBd Z Y m1 z1 m2 z2 lo hi) (l h p q : Int) (l1 : -128 ≤ l) (l2 : l ≤ 127) (h1 : -128 ≤ h) (h2 : h ≤ 127) (p1 : -9223372036854775808 ≤ p) (p2 : p ≤ 9223372036854775807) (q1 : -9223372036854775808 ≤ q) (q2 : q ≤ 9223372036854775807) (hno : nB = 0 ∨ nW % nB ≠ 0) (hW : nW ≤ 2000) (hB : nB ≤ 200) (hrw : Kit.Rd w w.heap.size WA (I8s ws)) (hrb : Kit.Rd w w.heap.size BA (I32v bs)) :
    Calls Try.prog 3 #[.agg #[x0, x1, x2, .int .i64 K, .int .i64 S, .int .i64 P, .int .i64 O, .int .i8 Z, .int .i8 Y, .slice WA nW cW, .slice BA nB cB, .int .i32 m1, .int .i64 s1, .int .i8 z1, .int .i32 m2, .int .i64 s2, .int .i8 z2, .int .i8 lo, .int .i8 hi], .int .i8 l, .int .i8 h, .int .i64 p, .int .i64 q] w fun e w' => e = .returned (.bool true) ∧ Below w.heap.size w w' := by
  obtain ⟨⟨hZ1, hZ2⟩, -, ⟨hm3, hm1⟩, ⟨hz1, hz2⟩, -, -, ⟨hl1, hl2⟩, ⟨hh1, hh2⟩⟩ := hnb
  obtain ⟨mn, hmn⟩ : ∃ x, min (heldZ (c32 p) m1 s1 z1 lo hi) (heldZ (c32 q) m1 s1 z1 lo hi) = x := ⟨_, rfl⟩
  obtain ⟨mx, hmx⟩ : ∃ x, max (heldZ (c32 p) m1 s1 z1 lo hi) (heldZ (c32 q) m1 s1 z1 lo hi) = x := ⟨_, rfl⟩
  have hA1 := fun (w : World) => cafter_to p q m1 s1 z1 lo hi p1 p2 q1 q2 hm3 hm1 hz1 hz2 hl1 hl2 hh1 hh2 w
  have hA2 := fun (w : World) => rafter_to p q m1 s1 z1 lo hi hm3 hm1 hz1 hz2 hl1 hl2 hh1 hh2 w
  rw [hmn, hmx] at hA1 hA2
  have HA1 := Lib.hid hA1
  have HA2 := Lib.hid hA2
  clear hA1 hA2 hmn hmx
  have TN : Hid (NodeAt w.heap.size x0 x1 x2 (.int .i8 Y) (.int .i32 m1) (.int .i64 s1) (.int .i8 z1) (.int .i32 m2) (.int .i64 s2) (.int .i8 z2) (.int .i8 lo) (.int .i8 hi) K S P O Z WA BA nW cW nB cB (w.alloc (.cells #[x0, x1, x2, .int .i64 K, .int .i64 S, .int .i64 P, .int .i64 O, .int .i8 Z, .int .i8 Y, .slice WA nW cW, .slice BA nB cB, .int .i32 m1, .int .i64 s1, .int .i8 z1, .int .i32 m2, .int .i64 s2, .int .i8 z2, .int .i8 lo, .int .i8 hi] 28))) := Lib.hid (NodeAt.new x0 x1 x2 (.int .i8 Y) (.int .i32 m1) (.int .i64 s1) (.int .i8 z1) (.int .i32 m2) (.int .i64 s2) (.int .i8 z2) (.int .i8 lo) (.int .i8 hi) K S P O Z WA BA nW cW nB cB 28 w)
  have hal : Below w.heap.size w (w.alloc (.cells #[x0, x1, x2, .int .i64 K, .int .i64 S, .int .i64 P, .int .i64 O, .int .i8 Z, .int .i8 Y, .slice WA nW cW, .slice BA nB cB, .int .i32 m1, .int .i64 s1, .int .i8 z1, .int .i32 m2, .int .i64 s2, .int .i8 z2, .int .i8 lo, .int .i8 hi] 28)) := (Below.refl _ _).alloc (Nat.le_refl _) _
  have HB := Lib.hid hal
  have HRW := Lib.hid ((hrw.below hal).more hal.size)
  have HRB := Lib.hid ((hrb.below hal).more hal.size)
  have yTN : w.heap.size < (w.alloc (.cells #[x0, x1, x2, .int .i64 K, .int .i64 S, .int .i64 P, .int .i64 O, .int .i8 Z, .int .i8 Y, .slice WA nW cW, .slice BA nB cB, .int .i32 m1, .int .i64 s1, .int .i8 z1, .int .i32 m2, .int .i64 s2, .int .i8 z2, .int .i8 lo, .int .i8 hi] 28)).heap.size := by simp
  have j1 : ¬ (nW : Int) > 2000 := by omega
  have j2 : ¬ (nB : Int) > 200 := by omega
  clear hal hrw hrb hwb hbb hws hbs
  go_enter Try.func3, Try.ntmps3
  go_upto_region 3 with fail
  generalize (w.alloc (.cells #[x0, x1, x2, .int .i64 K, .int .i64 S, .int .i64 P, .int .i64 O, .int .i8 Z, .int .i8 Y, .slice WA nW cW, .slice BA nB cB, .int .i32 m1, .int .i64 s1, .int .i8 z1, .int .i32 m2, .int .i64 s2, .int .i8 z2, .int .i8 lo, .int .i8 hi] 28)) = W0 at TN HB HRW HRB yTN ⊢
  (have n5 := TN.out.at 5 _ rfl)
  (have n7 := TN.out.at 7 _ rfl)
  (have n9 := TN.out.at 9 _ rfl)
  (have n10 := TN.out.at 10 _ rfl)
  (have n11 := TN.out.at 11 _ rfl)
  (have n12 := TN.out.at 12 _ rfl)
  (have n13 := TN.out.at 13 _ rfl)
  (have n17 := TN.out.at 17 _ rfl)
  (have n18 := TN.out.at 18 _ rfl)
  go_upto_region 8 with (first
    | (refine wpList_load_mid rfl 28 (.tmp 5) rfl (w.heap.size) 0 rfl [x0, x1, x2, .int .i64 K, .int .i64 S, .int .i64 P, .int .i64 O, .int .i8 Z, .int .i8 Y, .slice WA nW cW, .slice BA nB cB, .int .i32 m1, .int .i64 s1, .int .i8 z1, .int .i32 m2, .int .i64 s2, .int .i8 z2, .int .i8 lo, .int .i8 hi] _ (TN.out) Try.underlying28 rfl (by kernel_rfl) ?_)
    | (go_at_call 8; (refine (call_no x0 x1 x2 K S P O Z Y WA BA nW cW nB cB m1 s1 z1 m2 s2 z2 lo hi l h hno (by omega) (by omega) _).mono ?_); rintro e w1 ⟨A1, c1, rfl, hb⟩; (replace TN := Lib.hid (TN.out.below yTN hb)); (replace HRW := Lib.hid ((HRW.out.below hb).more hb.size)); (replace HRB := Lib.hid ((HRB.out.below hb).more hb.size)); (replace HB := Lib.hid (HB.out.trans (hb.mono HB.out.size))); (replace yTN := Nat.lt_of_lt_of_le yTN hb.size); clear n5 n7 n9 n10 n11 n12 n13 n17 n18; (have n5 := TN.out.at 5 _ rfl); (have n7 := TN.out.at 7 _ rfl); (have n9 := TN.out.at 9 _ rfl); (have n10 := TN.out.at 10 _ rfl); (have n11 := TN.out.at 11 _ rfl); (have n12 := TN.out.at 12 _ rfl); (have n13 := TN.out.at 13 _ rfl); (have n17 := TN.out.at 17 _ rfl); (have n18 := TN.out.at 18 _ rfl); clear hb)
    | (go_at_call 9; (refine (HA1.out _).mono ?_); rintro e w2 ⟨rfl, hb⟩; (replace TN := Lib.hid (TN.out.below yTN hb)); (replace HRW := Lib.hid ((HRW.out.below hb).more hb.size)); (replace HRB := Lib.hid ((HRB.out.below hb).more hb.size)); (replace HB := Lib.hid (HB.out.trans (hb.mono HB.out.size))); (replace yTN := Nat.lt_of_lt_of_le yTN hb.size); clear n5 n7 n9 n10 n11 n12 n13 n17 n18; (have n5 := TN.out.at 5 _ rfl); (have n7 := TN.out.at 7 _ rfl); (have n9 := TN.out.at 9 _ rfl); (have n10 := TN.out.at 10 _ rfl); (have n11 := TN.out.at 11 _ rfl); (have n12 := TN.out.at 12 _ rfl); (have n13 := TN.out.at 13 _ rfl); (have n17 := TN.out.at 17 _ rfl); (have n18 := TN.out.at 18 _ rfl); clear hb)
    | (go_at_call 10; (refine (HA2.out _).mono ?_); rintro e w3 ⟨rfl, hb⟩; (replace TN := Lib.hid (TN.out.below yTN hb)); (replace HRW := Lib.hid ((HRW.out.below hb).more hb.size)); (replace HRB := Lib.hid ((HRB.out.below hb).more hb.size)); (replace HB := Lib.hid (HB.out.trans (hb.mono HB.out.size))); (replace yTN := Nat.lt_of_lt_of_le yTN hb.size); clear n5 n7 n9 n10 n11 n12 n13 n17 n18; (have n5 := TN.out.at 5 _ rfl); (have n7 := TN.out.at 7 _ rfl); (have n9 := TN.out.at 9 _ rfl); (have n10 := TN.out.at 10 _ rfl); (have n11 := TN.out.at 11 _ rfl); (have n12 := TN.out.at 12 _ rfl); (have n13 := TN.out.at 13 _ rfl); (have n17 := TN.out.at 17 _ rfl); (have n18 := TN.out.at 18 _ rfl); clear hb))
  by_cases h0 : nB = 0
  · have z0 : ((nB : Int) == 0) = true := by simp [h0]
    go_wp2_with (go_at_call 7; (refine (known24 _).mono ?_); rintro e w4 ⟨rfl, hb⟩; (replace HB := Lib.hid (HB.out.trans (hb.mono HB.out.size))); clear hb)
    go_ret
    exact ⟨rfl, HB.out⟩
  · have z0 : ((nB : Int) == 0) = false := by simp; omega
    have z1 : ¬ (nB : Int) = 0 := by omega
    obtain ⟨r, hr⟩ : ∃ r, nW % nB = r := ⟨_, rfl⟩
    have z2 : (nW : Int).tmod (nB : Int) = (r : Int) := by rw [Int.tmod_eq_emod_of_nonneg (by omega), ← hr]; simp
    have z3 : IntKind.i64.wrap (r : Int) = (r : Int) := IntWalk.i64_in _ (by have := Nat.mod_lt nW (show 0 < nB by omega); omega)
    have z4 : ((r : Int) != 0) = true := by simp; omega
    have z5 : ((r : Int) == 0) = false := by simp; omega
    clear hno h0 hr
    go_wp2_with (go_at_call 7; (refine (known24 _).mono ?_); rintro e w4 ⟨rfl, hb⟩; (replace HB := Lib.hid (HB.out.trans (hb.mono HB.out.size))); clear hb)
    go_ret
    exact ⟨rfl, HB.out⟩
set_option maxRecDepth 100000 in
set_option maxHeartbeats 16000000 in
theorem walk_rows {w : World} (x0 x1 x2 : Value) (K S P O Z Y : Int) (WA BA : Option Addr) (nW cW nB cB : Nat) (m1 s1 z1 m2 s2 z2 lo hi : Int) (ws bs : List Int) (hws : ws.length = nW) (hbs : bs.length = nB) (hwb : I8b ws) (hbb : ∀ q, -2147483648 ≤ bs.getD q 0 ∧ bs.getD q 0 ≤ 2147483647) (hcw : nW ≤ cW) (hcb : nB ≤ cB) (hnb : NBd Z Y m1 z1 m2 z2 lo hi) (l h p q : Int) (l1 : -128 ≤ l) (l2 : l ≤ 127) (h1 : -128 ≤ h) (h2 : h ≤ 127) (p1 : -9223372036854775808 ≤ p) (p2 : p ≤ 9223372036854775807) (q1 : -9223372036854775808 ≤ q) (q2 : q ≤ 9223372036854775807) (each : Nat) (hB1 : 1 ≤ nB) (he1 : 1 ≤ each) (he : each * nB = nW) (hW : nW ≤ 2000) (hB : nB ≤ 200) (hrw : Kit.Rd w w.heap.size WA (I8s ws)) (hrb : Kit.Rd w w.heap.size BA (I32v bs)) :
    Calls Try.prog 3 #[.agg #[x0, x1, x2, .int .i64 K, .int .i64 S, .int .i64 P, .int .i64 O, .int .i8 Z, .int .i8 Y, .slice WA nW cW, .slice BA nB cB, .int .i32 m1, .int .i64 s1, .int .i8 z1, .int .i32 m2, .int .i64 s2, .int .i8 z2, .int .i8 lo, .int .i8 hi], .int .i8 l, .int .i8 h, .int .i64 p, .int .i64 q] w fun e w' => e = .returned (.bool true) ∧ Below w.heap.size w w' := by
  obtain ⟨g, hg⟩ : ∃ g, decide (P > 0) = g := ⟨_, rfl⟩
  have hPQ := fun o => rowPQ_bd hwb hbb l1 l2 h1 h2 hnb.1.1 hnb.1.2 g (each := each) (by have := Nat.le_mul_of_pos_right each hB1; omega) o
  have hAL := fun (w : World) (a : Kit.Rd w w.heap.size WA (I8s ws)) (b : Kit.Rd w w.heap.size BA (I32v bs)) => call_yes x0 x1 x2 K S P O Z Y WA BA nW cW nB cB m1 s1 z1 m2 s2 z2 lo hi ws bs hws hbs hwb hbb hcw hcb l h l1 l2 h1 h2 hnb.1.1 hnb.1.2 each hB1 he (by omega) (by omega) g hg w a b
  have HAL := Lib.hid hAL
  have HWS := Lib.hid hws
  have HBS := Lib.hid hbs
  have HWB := Lib.hid hwb
  have HBB := Lib.hid hbb
  have HG := Lib.hid hg
  have HE := Lib.hid he
  have HNZ := Lib.hid hnb.1
  obtain ⟨⟨hZ1, hZ2⟩, -, ⟨hm3, hm1⟩, ⟨hz1, hz2⟩, -, -, ⟨hl1, hl2⟩, ⟨hh1, hh2⟩⟩ := hnb
  obtain ⟨mn, hmn⟩ : ∃ x, min (heldZ (c32 p) m1 s1 z1 lo hi) (heldZ (c32 q) m1 s1 z1 lo hi) = x := ⟨_, rfl⟩
  obtain ⟨mx, hmx⟩ : ∃ x, max (heldZ (c32 p) m1 s1 z1 lo hi) (heldZ (c32 q) m1 s1 z1 lo hi) = x := ⟨_, rfl⟩
  have hA1 := fun (w : World) => cafter_to p q m1 s1 z1 lo hi p1 p2 q1 q2 hm3 hm1 hz1 hz2 hl1 hl2 hh1 hh2 w
  have hA2 := fun (w : World) => rafter_to p q m1 s1 z1 lo hi hm3 hm1 hz1 hz2 hl1 hl2 hh1 hh2 w
  rw [hmn, hmx] at hA1 hA2
  have HA1 := Lib.hid hA1
  have HA2 := Lib.hid hA2
  clear hA1 hA2 hmn hmx
  have TN : Hid (NodeAt w.heap.size x0 x1 x2 (.int .i8 Y) (.int .i32 m1) (.int .i64 s1) (.int .i8 z1) (.int .i32 m2) (.int .i64 s2) (.int .i8 z2) (.int .i8 lo) (.int .i8 hi) K S P O Z WA BA nW cW nB cB (w.alloc (.cells #[x0, x1, x2, .int .i64 K, .int .i64 S, .int .i64 P, .int .i64 O, .int .i8 Z, .int .i8 Y, .slice WA nW cW, .slice BA nB cB, .int .i32 m1, .int .i64 s1, .int .i8 z1, .int .i32 m2, .int .i64 s2, .int .i8 z2, .int .i8 lo, .int .i8 hi] 28))) := Lib.hid (NodeAt.new x0 x1 x2 (.int .i8 Y) (.int .i32 m1) (.int .i64 s1) (.int .i8 z1) (.int .i32 m2) (.int .i64 s2) (.int .i8 z2) (.int .i8 lo) (.int .i8 hi) K S P O Z WA BA nW cW nB cB 28 w)
  have hal : Below w.heap.size w (w.alloc (.cells #[x0, x1, x2, .int .i64 K, .int .i64 S, .int .i64 P, .int .i64 O, .int .i8 Z, .int .i8 Y, .slice WA nW cW, .slice BA nB cB, .int .i32 m1, .int .i64 s1, .int .i8 z1, .int .i32 m2, .int .i64 s2, .int .i8 z2, .int .i8 lo, .int .i8 hi] 28)) := (Below.refl _ _).alloc (Nat.le_refl _) _
  have HB := Lib.hid hal
  have HRW := Lib.hid ((hrw.below hal).more hal.size)
  have HRB := Lib.hid ((hrb.below hal).more hal.size)
  have yTN : w.heap.size < (w.alloc (.cells #[x0, x1, x2, .int .i64 K, .int .i64 S, .int .i64 P, .int .i64 O, .int .i8 Z, .int .i8 Y, .slice WA nW cW, .slice BA nB cB, .int .i32 m1, .int .i64 s1, .int .i8 z1, .int .i32 m2, .int .i64 s2, .int .i8 z2, .int .i8 lo, .int .i8 hi] 28)).heap.size := by simp
  have j1 : ¬ (nW : Int) > 2000 := by omega
  have j2 : ¬ (nB : Int) > 200 := by omega
  clear hal hrw hrb hwb hbb hws hbs hAL hPQ hg he hZ1 hZ2
  go_enter Try.func3, Try.ntmps3
  go_upto_region 3 with fail
  generalize (w.alloc (.cells #[x0, x1, x2, .int .i64 K, .int .i64 S, .int .i64 P, .int .i64 O, .int .i8 Z, .int .i8 Y, .slice WA nW cW, .slice BA nB cB, .int .i32 m1, .int .i64 s1, .int .i8 z1, .int .i32 m2, .int .i64 s2, .int .i8 z2, .int .i8 lo, .int .i8 hi] 28)) = W0 at TN HB HRW HRB yTN ⊢
  (have n5 := TN.out.at 5 _ rfl)
  (have n7 := TN.out.at 7 _ rfl)
  (have n9 := TN.out.at 9 _ rfl)
  (have n10 := TN.out.at 10 _ rfl)
  (have n11 := TN.out.at 11 _ rfl)
  (have n12 := TN.out.at 12 _ rfl)
  (have n13 := TN.out.at 13 _ rfl)
  (have n17 := TN.out.at 17 _ rfl)
  (have n18 := TN.out.at 18 _ rfl)
  go_upto_region 8 with (first
    | (refine wpList_load_mid rfl 28 (.tmp 5) rfl (w.heap.size) 0 rfl [x0, x1, x2, .int .i64 K, .int .i64 S, .int .i64 P, .int .i64 O, .int .i8 Z, .int .i8 Y, .slice WA nW cW, .slice BA nB cB, .int .i32 m1, .int .i64 s1, .int .i8 z1, .int .i32 m2, .int .i64 s2, .int .i8 z2, .int .i8 lo, .int .i8 hi] _ (TN.out) Try.underlying28 rfl (by kernel_rfl) ?_)
    | (go_at_call 8; (refine (HAL.out _ HRW.out HRB.out).mono ?_); rintro e w1 ⟨v1, rfl, ho1, hb⟩; (obtain ⟨A1, c1, rfl, -, -, hrd1⟩ := Kit.own_rd ho1); (have RA1 := Lib.hid hrd1); (replace TN := Lib.hid (TN.out.below yTN hb)); (replace HRW := Lib.hid ((HRW.out.below hb).more hb.size)); (replace HRB := Lib.hid ((HRB.out.below hb).more hb.size)); (replace HB := Lib.hid (HB.out.trans (hb.mono HB.out.size))); (replace yTN := Nat.lt_of_lt_of_le yTN hb.size); clear n5 n7 n9 n10 n11 n12 n13 n17 n18; (have n5 := TN.out.at 5 _ rfl); (have n7 := TN.out.at 7 _ rfl); (have n9 := TN.out.at 9 _ rfl); (have n10 := TN.out.at 10 _ rfl); (have n11 := TN.out.at 11 _ rfl); (have n12 := TN.out.at 12 _ rfl); (have n13 := TN.out.at 13 _ rfl); (have n17 := TN.out.at 17 _ rfl); (have n18 := TN.out.at 18 _ rfl); clear hb ho1 hrd1)
    | (go_at_call 9; (refine (HA1.out _).mono ?_); rintro e w2 ⟨rfl, hb⟩; (replace TN := Lib.hid (TN.out.below yTN hb)); (replace HRW := Lib.hid ((HRW.out.below hb).more hb.size)); (replace HRB := Lib.hid ((HRB.out.below hb).more hb.size)); (replace HB := Lib.hid (HB.out.trans (hb.mono HB.out.size))); (replace yTN := Nat.lt_of_lt_of_le yTN hb.size); (replace RA1 := Lib.hid ((RA1.out.below hb).more hb.size)); clear n5 n7 n9 n10 n11 n12 n13 n17 n18; (have n5 := TN.out.at 5 _ rfl); (have n7 := TN.out.at 7 _ rfl); (have n9 := TN.out.at 9 _ rfl); (have n10 := TN.out.at 10 _ rfl); (have n11 := TN.out.at 11 _ rfl); (have n12 := TN.out.at 12 _ rfl); (have n13 := TN.out.at 13 _ rfl); (have n17 := TN.out.at 17 _ rfl); (have n18 := TN.out.at 18 _ rfl); clear hb)
    | (go_at_call 10; (refine (HA2.out _).mono ?_); rintro e w3 ⟨rfl, hb⟩; (replace TN := Lib.hid (TN.out.below yTN hb)); (replace HRW := Lib.hid ((HRW.out.below hb).more hb.size)); (replace HRB := Lib.hid ((HRB.out.below hb).more hb.size)); (replace HB := Lib.hid (HB.out.trans (hb.mono HB.out.size))); (replace yTN := Nat.lt_of_lt_of_le yTN hb.size); (replace RA1 := Lib.hid ((RA1.out.below hb).more hb.size)); clear n5 n7 n9 n10 n11 n12 n13 n17 n18; (have n5 := TN.out.at 5 _ rfl); (have n7 := TN.out.at 7 _ rfl); (have n9 := TN.out.at 9 _ rfl); (have n10 := TN.out.at 10 _ rfl); (have n11 := TN.out.at 11 _ rfl); (have n12 := TN.out.at 12 _ rfl); (have n13 := TN.out.at 13 _ rfl); (have n17 := TN.out.at 17 _ rfl); (have n18 := TN.out.at 18 _ rfl); clear hb))
  have z0 : ((nB : Int) == 0) = false := by simp; omega
  have z1 : ¬ (nB : Int) = 0 := by omega
  have z2 : (nW : Int).tmod (nB : Int) = 0 := by rw [Int.tmod_eq_emod_of_nonneg (by omega), ← HE.out]; simp
  have z3 : (nW : Int).tdiv (nB : Int) = (each : Int) := by rw [Int.tdiv_eq_ediv_of_nonneg (by omega), ← HE.out]; simp; rw [Int.mul_ediv_cancel _ z1]
  have heW : each ≤ nW := by rw [← HE.out]; exact Nat.le_mul_of_pos_right each hB1
  have z4 : IntKind.i64.wrap (each : Int) = (each : Int) := IntWalk.i64_in _ (by omega)
  go_wp2_with fail
  clear z0 z1 z2 z3 z4 n5 n7 n9 n10 n11 n12 n13 n17 n18
  have HBZ := HB
  go_loopw [17] (fun u wr => ∃ o nq : Nat, o ≤ nB ∧ u = .int .i64 o ∧ Hid (wr = w3.drewN nq)) (fun u _ => nB - (intOf u).toNat)
  case atStart => exact ⟨0, 0, Nat.zero_le _, rfl, Lib.hid rfl⟩
  case round =>
    obtain ⟨o, nq, ho, rfl, hw⟩ := hrel
    obtain rfl := hw.out
    clear hw
    have n5 := TN.out.at 5 _ rfl
    have n7 := TN.out.at 7 _ rfl
    have n9 := TN.out.at 9 _ rfl
    have n10 := TN.out.at 10 _ rfl
    by_cases hlt : o < nB
    · obtain ⟨bw, ow, rfl, -, -⟩ := ints_getD HRW.out (j := 0) (by have := HWS.out; omega)
      obtain ⟨bb, ob, rfl, -, hcb0⟩ := ints_getD HRB.out (j := 0) (by have := HBS.out; omega)
      obtain ⟨br, orr, rfl, -, hcr⟩ := rd_pair RA1.out (by omega)
      have hcx := hcb0 o (by have := HBS.out; omega)
      obtain ⟨hc1, hc2⟩ := hcr o hlt
      have hlen := wsOf_len HWS.out HE.out hlt
      have hq3 : o * each + each ≤ nW := by
        rw [← HE.out, Nat.mul_comm each nB]
        have := Nat.mul_le_mul_right each (show o + 1 ≤ nB by omega)
        rwa [Nat.add_mul, Nat.one_mul] at this
      have hrow := (((HRW.out).drop (o * each)).take each)
      rw [i8s_dropS, i8s_takeS, show (Option.map (fun a : Addr => a.add (o * each)) (some ⟨bw, ow, none⟩)) = some (⟨bw, ow + o * each, none⟩ : Addr) by rw [Option.map_some, Go.WideShapes.add_plain], show (ws.drop (o * each)).take each = wsOf ws each o from rfl] at hrow
      have hbd := HBB.out o
      obtain ⟨qs, hqs⟩ : ∃ qs, o * each = qs := ⟨_, rfl⟩
      obtain ⟨qe, hqe⟩ : ∃ qe, qs + each = qe := ⟨_, rfl⟩
      have hm1' : IntKind.i64.wrap ((o : Int) * (each : Int)) = (qs : Int) := by rw [← Int.natCast_mul, hqs]; exact IntWalk.i64_in _ (by omega)
      have hm2' : IntKind.i64.wrap (((o : Int) + 1) * (each : Int)) = (qe : Int) := by
        have : ((o : Int) + 1) * (each : Int) = (qe : Int) := by rw [Int.add_mul, Int.one_mul, ← Int.natCast_mul, hqs, ← hqe]; simp
        rw [this]; exact IntWalk.i64_in _ (by omega)
      have hqd : qe - qs = each := by omega
      have p5 : ¬ cW = qs := by omega
      have p6 : ¬ qs = cW := by omega
      have p7 : (qs : Int) ≤ (qe : Int) := by omega
      have p8 : (qe : Int) ≤ (cW : Int) := by omega
      have p9 : (0 : Int) ≤ (qs : Int) := by omega
      have p10 : qs ≤ qe := by omega
      have p11 : qe ≤ cW := by omega
      have p12 : ¬ cW - qs = 0 := by omega
      have o0 : (0 : Int) ≤ (o : Int) := by omega
      have o1 : (o : Int) < (nB : Int) := by omega
      have o2 : ¬ (o : Int) ≥ (nB : Int) := by omega
      have hP' : bs.getD o 0 + psum (dnF (wsOf ws each o) l h Z g) each = rowP ws bs l h Z g each o := rfl
      have hQ' : bs.getD o 0 + psum (upF (wsOf ws each o) l h Z g) each = rowQ ws bs l h Z g each o := rfl
      have hrc := fun (w : World) (a : Kit.Rd w w.heap.size (some ⟨bw, ow + o * each, none⟩) (I8s (wsOf ws each o))) => rrow_to (some ⟨bw, ow + o * each, none⟩) (wsOf ws each o) each (cW - o * each) hlen (by omega) (wsOf_I8b HWB.out each o) (bs.getD o 0) l h Z hbd.1 hbd.2 l1 l2 h1 h2 HNZ.out.1 HNZ.out.2 g _ _ hP' hQ' w a
      have hgd : decide (P > 0) = g := HG.out
      rw [hqs] at hrc hrow
      generalize rowP ws bs l h Z g each o = X at *
      generalize rowQ ws bs l h Z g each o = Y at *
      generalize bs.getD o 0 = bo at *
      have HRC := Lib.hid hrc
      have HRO := Lib.hid hrow
      clear hrc hrow hcb0 hcr hlen hbd hP' hQ' hqs hqe
      cases g with
      | true =>
        have hgp : P > 0 := by simpa using hgd
        clear hgd
        go_wp2_with fail
        go_quiet ((go_at_call 11; exact quiet_at (HRC.out _ (rd_quiet HRO.out _))))
        go_wp2_with fail
        refine ⟨⟨o + 1, _, by omega, by rw [Int.natCast_add]; rfl, Lib.hid rfl⟩, ?_⟩
        simp [intOf]; omega
      | false =>
        have hgp : P ≤ 0 := by simpa using hgd
        have hgq : decide (0 < P) = false := hgd
        have hgr : ¬ 0 < P := by omega
        have hgs : (0 < P) = False := by simp; omega
        go_wp2_with fail
        go_quiet ((go_at_call 11; exact quiet_at (HRC.out _ (rd_quiet HRO.out _))))
        go_wp2_with fail
        refine ⟨⟨o + 1, _, by omega, by rw [Int.natCast_add]; rfl, Lib.hid rfl⟩, ?_⟩
        simp [intOf]; omega
    · obtain rfl : o = nB := by omega
      have HB9 := Lib.hid (Kit.below_drewN HBZ.out nq)
      have n10' : (w3.drewN nq).cell? ⟨w.heap.size, 0 + 10, none⟩ = some (.slice BA o cB) := n10
      generalize w3.drewN nq = W9 at HB9 n10' ⊢
      rw [Nat.zero_add] at n10'
      go_wp2_with (go_at_call 7; (refine (known24 _).mono ?_); rintro e w4 ⟨rfl, hb⟩; (have HBY := Lib.hid (HB9.out.trans (hb.mono HB9.out.size))); clear hb)
      go_ret
      exact ⟨rfl, HBY.out⟩
set_option maxRecDepth 100000 in
set_option maxHeartbeats 16000000 in
theorem walk_rows0 {w : World} (x0 x1 x2 : Value) (K S P O Z Y : Int) (WA BA : Option Addr) (nW cW nB cB : Nat) (m1 s1 z1 m2 s2 z2 lo hi : Int) (ws bs : List Int) (hws : ws.length = nW) (hbs : bs.length = nB) (hwb : I8b ws) (hbb : ∀ q, -2147483648 ≤ bs.getD q 0 ∧ bs.getD q 0 ≤ 2147483647) (hcw : nW ≤ cW) (hcb : nB ≤ cB) (hnb : NBd Z Y m1 z1 m2 z2 lo hi) (l h p q : Int) (l1 : -128 ≤ l) (l2 : l ≤ 127) (h1 : -128 ≤ h) (h2 : h ≤ 127) (p1 : -9223372036854775808 ≤ p) (p2 : p ≤ 9223372036854775807) (q1 : -9223372036854775808 ≤ q) (q2 : q ≤ 9223372036854775807) (each : Nat) (hB1 : 1 ≤ nB) (he1 : each = 0) (he : each * nB = nW) (hW : nW ≤ 2000) (hB : nB ≤ 200) (hrw : Kit.Rd w w.heap.size WA (I8s ws)) (hrb : Kit.Rd w w.heap.size BA (I32v bs)) :
    Calls Try.prog 3 #[.agg #[x0, x1, x2, .int .i64 K, .int .i64 S, .int .i64 P, .int .i64 O, .int .i8 Z, .int .i8 Y, .slice WA nW cW, .slice BA nB cB, .int .i32 m1, .int .i64 s1, .int .i8 z1, .int .i32 m2, .int .i64 s2, .int .i8 z2, .int .i8 lo, .int .i8 hi], .int .i8 l, .int .i8 h, .int .i64 p, .int .i64 q] w fun e w' => e = .returned (.bool true) ∧ Below w.heap.size w w' := by
  obtain ⟨g, hg⟩ : ∃ g, decide (P > 0) = g := ⟨_, rfl⟩
  have hPQ := fun o => rowPQ_bd hwb hbb l1 l2 h1 h2 hnb.1.1 hnb.1.2 g (each := each) (by have := Nat.le_mul_of_pos_right each hB1; omega) o
  have hAL := fun (w : World) (a : Kit.Rd w w.heap.size WA (I8s ws)) (b : Kit.Rd w w.heap.size BA (I32v bs)) => call_yes x0 x1 x2 K S P O Z Y WA BA nW cW nB cB m1 s1 z1 m2 s2 z2 lo hi ws bs hws hbs hwb hbb hcw hcb l h l1 l2 h1 h2 hnb.1.1 hnb.1.2 each hB1 he (by omega) (by omega) g hg w a b
  have HAL := Lib.hid hAL
  have HWS := Lib.hid hws
  have HBS := Lib.hid hbs
  have HWB := Lib.hid hwb
  have HBB := Lib.hid hbb
  have HG := Lib.hid hg
  have HE := Lib.hid he
  have HE1 := Lib.hid he1
  clear he1
  have HNZ := Lib.hid hnb.1
  obtain ⟨⟨hZ1, hZ2⟩, -, ⟨hm3, hm1⟩, ⟨hz1, hz2⟩, -, -, ⟨hl1, hl2⟩, ⟨hh1, hh2⟩⟩ := hnb
  obtain ⟨mn, hmn⟩ : ∃ x, min (heldZ (c32 p) m1 s1 z1 lo hi) (heldZ (c32 q) m1 s1 z1 lo hi) = x := ⟨_, rfl⟩
  obtain ⟨mx, hmx⟩ : ∃ x, max (heldZ (c32 p) m1 s1 z1 lo hi) (heldZ (c32 q) m1 s1 z1 lo hi) = x := ⟨_, rfl⟩
  have hA1 := fun (w : World) => cafter_to p q m1 s1 z1 lo hi p1 p2 q1 q2 hm3 hm1 hz1 hz2 hl1 hl2 hh1 hh2 w
  have hA2 := fun (w : World) => rafter_to p q m1 s1 z1 lo hi hm3 hm1 hz1 hz2 hl1 hl2 hh1 hh2 w
  rw [hmn, hmx] at hA1 hA2
  have HA1 := Lib.hid hA1
  have HA2 := Lib.hid hA2
  clear hA1 hA2 hmn hmx
  have TN : Hid (NodeAt w.heap.size x0 x1 x2 (.int .i8 Y) (.int .i32 m1) (.int .i64 s1) (.int .i8 z1) (.int .i32 m2) (.int .i64 s2) (.int .i8 z2) (.int .i8 lo) (.int .i8 hi) K S P O Z WA BA nW cW nB cB (w.alloc (.cells #[x0, x1, x2, .int .i64 K, .int .i64 S, .int .i64 P, .int .i64 O, .int .i8 Z, .int .i8 Y, .slice WA nW cW, .slice BA nB cB, .int .i32 m1, .int .i64 s1, .int .i8 z1, .int .i32 m2, .int .i64 s2, .int .i8 z2, .int .i8 lo, .int .i8 hi] 28))) := Lib.hid (NodeAt.new x0 x1 x2 (.int .i8 Y) (.int .i32 m1) (.int .i64 s1) (.int .i8 z1) (.int .i32 m2) (.int .i64 s2) (.int .i8 z2) (.int .i8 lo) (.int .i8 hi) K S P O Z WA BA nW cW nB cB 28 w)
  have hal : Below w.heap.size w (w.alloc (.cells #[x0, x1, x2, .int .i64 K, .int .i64 S, .int .i64 P, .int .i64 O, .int .i8 Z, .int .i8 Y, .slice WA nW cW, .slice BA nB cB, .int .i32 m1, .int .i64 s1, .int .i8 z1, .int .i32 m2, .int .i64 s2, .int .i8 z2, .int .i8 lo, .int .i8 hi] 28)) := (Below.refl _ _).alloc (Nat.le_refl _) _
  have HB := Lib.hid hal
  have HRW := Lib.hid ((hrw.below hal).more hal.size)
  have HRB := Lib.hid ((hrb.below hal).more hal.size)
  have yTN : w.heap.size < (w.alloc (.cells #[x0, x1, x2, .int .i64 K, .int .i64 S, .int .i64 P, .int .i64 O, .int .i8 Z, .int .i8 Y, .slice WA nW cW, .slice BA nB cB, .int .i32 m1, .int .i64 s1, .int .i8 z1, .int .i32 m2, .int .i64 s2, .int .i8 z2, .int .i8 lo, .int .i8 hi] 28)).heap.size := by simp
  have j1 : ¬ (nW : Int) > 2000 := by omega
  have j2 : ¬ (nB : Int) > 200 := by omega
  clear hal hrw hrb hwb hbb hws hbs hAL hPQ hg he hZ1 hZ2
  go_enter Try.func3, Try.ntmps3
  go_upto_region 3 with fail
  generalize (w.alloc (.cells #[x0, x1, x2, .int .i64 K, .int .i64 S, .int .i64 P, .int .i64 O, .int .i8 Z, .int .i8 Y, .slice WA nW cW, .slice BA nB cB, .int .i32 m1, .int .i64 s1, .int .i8 z1, .int .i32 m2, .int .i64 s2, .int .i8 z2, .int .i8 lo, .int .i8 hi] 28)) = W0 at TN HB HRW HRB yTN ⊢
  (have n5 := TN.out.at 5 _ rfl)
  (have n7 := TN.out.at 7 _ rfl)
  (have n9 := TN.out.at 9 _ rfl)
  (have n10 := TN.out.at 10 _ rfl)
  (have n11 := TN.out.at 11 _ rfl)
  (have n12 := TN.out.at 12 _ rfl)
  (have n13 := TN.out.at 13 _ rfl)
  (have n17 := TN.out.at 17 _ rfl)
  (have n18 := TN.out.at 18 _ rfl)
  go_upto_region 8 with (first
    | (refine wpList_load_mid rfl 28 (.tmp 5) rfl (w.heap.size) 0 rfl [x0, x1, x2, .int .i64 K, .int .i64 S, .int .i64 P, .int .i64 O, .int .i8 Z, .int .i8 Y, .slice WA nW cW, .slice BA nB cB, .int .i32 m1, .int .i64 s1, .int .i8 z1, .int .i32 m2, .int .i64 s2, .int .i8 z2, .int .i8 lo, .int .i8 hi] _ (TN.out) Try.underlying28 rfl (by kernel_rfl) ?_)
    | (go_at_call 8; (refine (HAL.out _ HRW.out HRB.out).mono ?_); rintro e w1 ⟨v1, rfl, ho1, hb⟩; (obtain ⟨A1, c1, rfl, -, -, hrd1⟩ := Kit.own_rd ho1); (have RA1 := Lib.hid hrd1); (replace TN := Lib.hid (TN.out.below yTN hb)); (replace HRW := Lib.hid ((HRW.out.below hb).more hb.size)); (replace HRB := Lib.hid ((HRB.out.below hb).more hb.size)); (replace HB := Lib.hid (HB.out.trans (hb.mono HB.out.size))); (replace yTN := Nat.lt_of_lt_of_le yTN hb.size); clear n5 n7 n9 n10 n11 n12 n13 n17 n18; (have n5 := TN.out.at 5 _ rfl); (have n7 := TN.out.at 7 _ rfl); (have n9 := TN.out.at 9 _ rfl); (have n10 := TN.out.at 10 _ rfl); (have n11 := TN.out.at 11 _ rfl); (have n12 := TN.out.at 12 _ rfl); (have n13 := TN.out.at 13 _ rfl); (have n17 := TN.out.at 17 _ rfl); (have n18 := TN.out.at 18 _ rfl); clear hb ho1 hrd1)
    | (go_at_call 9; (refine (HA1.out _).mono ?_); rintro e w2 ⟨rfl, hb⟩; (replace TN := Lib.hid (TN.out.below yTN hb)); (replace HRW := Lib.hid ((HRW.out.below hb).more hb.size)); (replace HRB := Lib.hid ((HRB.out.below hb).more hb.size)); (replace HB := Lib.hid (HB.out.trans (hb.mono HB.out.size))); (replace yTN := Nat.lt_of_lt_of_le yTN hb.size); (replace RA1 := Lib.hid ((RA1.out.below hb).more hb.size)); clear n5 n7 n9 n10 n11 n12 n13 n17 n18; (have n5 := TN.out.at 5 _ rfl); (have n7 := TN.out.at 7 _ rfl); (have n9 := TN.out.at 9 _ rfl); (have n10 := TN.out.at 10 _ rfl); (have n11 := TN.out.at 11 _ rfl); (have n12 := TN.out.at 12 _ rfl); (have n13 := TN.out.at 13 _ rfl); (have n17 := TN.out.at 17 _ rfl); (have n18 := TN.out.at 18 _ rfl); clear hb)
    | (go_at_call 10; (refine (HA2.out _).mono ?_); rintro e w3 ⟨rfl, hb⟩; (replace TN := Lib.hid (TN.out.below yTN hb)); (replace HRW := Lib.hid ((HRW.out.below hb).more hb.size)); (replace HRB := Lib.hid ((HRB.out.below hb).more hb.size)); (replace HB := Lib.hid (HB.out.trans (hb.mono HB.out.size))); (replace yTN := Nat.lt_of_lt_of_le yTN hb.size); (replace RA1 := Lib.hid ((RA1.out.below hb).more hb.size)); clear n5 n7 n9 n10 n11 n12 n13 n17 n18; (have n5 := TN.out.at 5 _ rfl); (have n7 := TN.out.at 7 _ rfl); (have n9 := TN.out.at 9 _ rfl); (have n10 := TN.out.at 10 _ rfl); (have n11 := TN.out.at 11 _ rfl); (have n12 := TN.out.at 12 _ rfl); (have n13 := TN.out.at 13 _ rfl); (have n17 := TN.out.at 17 _ rfl); (have n18 := TN.out.at 18 _ rfl); clear hb))
  have z0 : ((nB : Int) == 0) = false := by simp; omega
  have z1 : ¬ (nB : Int) = 0 := by omega
  have z2 : (nW : Int).tmod (nB : Int) = 0 := by rw [Int.tmod_eq_emod_of_nonneg (by omega), ← HE.out]; simp
  have z3 : (nW : Int).tdiv (nB : Int) = (each : Int) := by rw [Int.tdiv_eq_ediv_of_nonneg (by omega), ← HE.out]; simp; rw [Int.mul_ediv_cancel _ z1]
  have heW : each ≤ nW := by rw [← HE.out]; exact Nat.le_mul_of_pos_right each hB1
  have z4 : IntKind.i64.wrap (each : Int) = (each : Int) := IntWalk.i64_in _ (by omega)
  go_wp2_with fail
  clear z0 z1 z2 z3 z4 n5 n7 n9 n10 n11 n12 n13 n17 n18
  have HBZ := HB
  go_loopw [17] (fun u wr => ∃ o nq : Nat, o ≤ nB ∧ u = .int .i64 o ∧ Hid (wr = w3.drewN nq)) (fun u _ => nB - (intOf u).toNat)
  case atStart => exact ⟨0, 0, Nat.zero_le _, rfl, Lib.hid rfl⟩
  case round =>
    obtain ⟨o, nq, ho, rfl, hw⟩ := hrel
    obtain rfl := hw.out
    clear hw
    have n5 := TN.out.at 5 _ rfl
    have n7 := TN.out.at 7 _ rfl
    have n9 := TN.out.at 9 _ rfl
    have n10 := TN.out.at 10 _ rfl
    by_cases hlt : o < nB
    · obtain ⟨bb, ob, rfl, -, hcb0⟩ := ints_getD HRB.out (j := 0) (by have := HBS.out; omega)
      obtain ⟨br, orr, rfl, -, hcr⟩ := rd_pair RA1.out (by omega)
      have hcx := hcb0 o (by have := HBS.out; omega)
      obtain ⟨hc1, hc2⟩ := hcr o hlt
      have hlen := wsOf_len HWS.out HE.out hlt
      have hq3 : o * each + each ≤ nW := by
        rw [← HE.out, Nat.mul_comm each nB]
        have := Nat.mul_le_mul_right each (show o + 1 ≤ nB by omega)
        rwa [Nat.add_mul, Nat.one_mul] at this
      have hnil : wsOf ws each o = [] := List.eq_nil_of_length_eq_zero (by have := HE1.out; omega)
      have hbd := HBB.out o
      obtain ⟨qs, hqs⟩ : ∃ qs, o * each = qs := ⟨_, rfl⟩
      obtain ⟨qe, hqe⟩ : ∃ qe, qs + each = qe := ⟨_, rfl⟩
      have hm1' : IntKind.i64.wrap ((o : Int) * (each : Int)) = (qs : Int) := by rw [← Int.natCast_mul, hqs]; exact IntWalk.i64_in _ (by omega)
      have hm2' : IntKind.i64.wrap (((o : Int) + 1) * (each : Int)) = (qe : Int) := by
        have : ((o : Int) + 1) * (each : Int) = (qe : Int) := by rw [Int.add_mul, Int.one_mul, ← Int.natCast_mul, hqs, ← hqe]; simp
        rw [this]; exact IntWalk.i64_in _ (by omega)
      have hqd : qe - qs = each := by omega
      have p7 : (qs : Int) ≤ (qe : Int) := by omega
      have p8 : (qe : Int) ≤ (cW : Int) := by omega
      have p9 : (0 : Int) ≤ (qs : Int) := by omega
      have p10 : qs ≤ qe := by omega
      have p11 : qe ≤ cW := by omega
      have o0 : (0 : Int) ≤ (o : Int) := by omega
      have o1 : (o : Int) < (nB : Int) := by omega
      have o2 : ¬ (o : Int) ≥ (nB : Int) := by omega
      have hP' : bs.getD o 0 + psum (dnF (wsOf ws each o) l h Z g) each = rowP ws bs l h Z g each o := rfl
      have hQ' : bs.getD o 0 + psum (upF (wsOf ws each o) l h Z g) each = rowQ ws bs l h Z g each o := rfl
      have hrc := fun (A9 : Option Addr) (c9 : Nat) (w : World) => rrow_to A9 (wsOf ws each o) each c9 hlen (by omega) (wsOf_I8b HWB.out each o) (bs.getD o 0) l h Z hbd.1 hbd.2 l1 l2 h1 h2 HNZ.out.1 HNZ.out.2 g _ _ hP' hQ' w (B := w.heap.size) (by rw [hnil]; exact rd_nil _ _ _)
      have hgd : decide (P > 0) = g := HG.out
      generalize rowP ws bs l h Z g each o = X at *
      generalize rowQ ws bs l h Z g each o = Y at *
      generalize bs.getD o 0 = bo at *
      have HRC := Lib.hid hrc
      clear hrc hnil hcb0 hcr hlen hbd hP' hQ' hqs hqe
      cases g with
      | true =>
        have hgp : P > 0 := by simpa using hgd
        clear hgd
        go_wp2_with fail
        go_quiet ((go_at_call 11; exact quiet_at (HRC.out _ _ _)))
        go_wp2_with fail
        refine ⟨⟨o + 1, _, by omega, by rw [Int.natCast_add]; rfl, Lib.hid rfl⟩, ?_⟩
        simp [intOf]; omega
      | false =>
        have hgp : P ≤ 0 := by simpa using hgd
        have hgq : decide (0 < P) = false := hgd
        have hgr : ¬ 0 < P := by omega
        have hgs : (0 < P) = False := by simp; omega
        go_wp2_with fail
        go_quiet ((go_at_call 11; exact quiet_at (HRC.out _ _ _)))
        go_wp2_with fail
        refine ⟨⟨o + 1, _, by omega, by rw [Int.natCast_add]; rfl, Lib.hid rfl⟩, ?_⟩
        simp [intOf]; omega
    · obtain rfl : o = nB := by omega
      have HB9 := Lib.hid (Kit.below_drewN HBZ.out nq)
      have n10' : (w3.drewN nq).cell? ⟨w.heap.size, 0 + 10, none⟩ = some (.slice BA o cB) := n10
      generalize w3.drewN nq = W9 at HB9 n10' ⊢
      rw [Nat.zero_add] at n10'
      go_wp2_with (go_at_call 7; (refine (known24 _).mono ?_); rintro e w4 ⟨rfl, hb⟩; (have HBY := Lib.hid (HB9.out.trans (hb.mono HB9.out.size))); clear hb)
      go_ret
      exact ⟨rfl, HBY.out⟩
theorem walk {w : World} (x0 x1 x2 x8 x11 x12 x13 x14 x15 x16 x17 x18 : Value) (K S P O Z : Int) (WA : Option Addr) (ws : List Int) (cW : Nat) (BA : Option Addr) (bs : List Int) (cB : Nat) (wZ : (Lit.int .i8 Z).wf = true)
    (hcw : ws.length ≤ cW) (hmw : cW ≤ maxLen) (hww : ∀ n ∈ ws, (Lit.int .i8 n).wf = true) (hrw : Kit.Rd w w.heap.size WA (ws.map (.int .i8))) (hcb : bs.length ≤ cB) (hmb : cB ≤ maxLen) (hwb : ∀ n ∈ bs, (Lit.int .i32 n).wf = true) (hrb : Kit.Rd w w.heap.size BA (bs.map (.int .i32)))
    (hJ : ∃ Y m1 s1 z1 m2 s2 z2 lo hi : Int, (x8 = .int .i8 Y ∧ x11 = .int .i32 m1 ∧ x12 = .int .i64 s1 ∧ x13 = .int .i8 z1 ∧ x14 = .int .i32 m2 ∧ x15 = .int .i64 s2 ∧ x16 = .int .i8 z2 ∧ x17 = .int .i8 lo ∧ x18 = .int .i8 hi) ∧ NBd 0 Y m1 z1 m2 z2 lo hi)
    (l : Int) (wl : (Lit.int .i8 l).wf = true) (h : Int) (wh : (Lit.int .i8 h).wf = true) (p : Int) (wp : (Lit.int .i64 p).wf = true) (q : Int) (wq : (Lit.int .i64 q).wf = true) :
    Calls Try.prog 3 #[.agg #[x0, x1, x2, .int .i64 K, .int .i64 S, .int .i64 P, .int .i64 O, .int .i8 Z, x8, .slice WA ws.length cW, .slice BA bs.length cB, x11, x12, x13, x14, x15, x16, x17, x18], .int .i8 l, .int .i8 h, .int .i64 p, .int .i64 q] w fun e w' => e = .returned (.bool true) ∧ Below w.heap.size w w' := by
  obtain ⟨Y, m1, s1, z1, m2, s2, z2, lo, hi, ⟨rfl, rfl, rfl, rfl, rfl, rfl, rfl, rfl, rfl⟩, hnb0⟩ := hJ
  have ⟨l1, l2⟩ : -128 ≤ l ∧ l ≤ 127 := by simpa [Lit.wf, IntKind.min, IntKind.max, IntKind.signed, IntKind.bits] using wl
  have ⟨h1, h2⟩ : -128 ≤ h ∧ h ≤ 127 := by simpa [Lit.wf, IntKind.min, IntKind.max, IntKind.signed, IntKind.bits] using wh
  have ⟨p1, p2⟩ : -9223372036854775808 ≤ p ∧ p ≤ 9223372036854775807 := by simpa [Lit.wf, IntKind.min, IntKind.max, IntKind.signed, IntKind.bits] using wp
  have ⟨q1, q2⟩ : -9223372036854775808 ≤ q ∧ q ≤ 9223372036854775807 := by simpa [Lit.wf, IntKind.min, IntKind.max, IntKind.signed, IntKind.bits] using wq
  by_cases hf : 2000 < ws.length ∨ 200 < bs.length
  · exact walk_no x0 x1 x2 K S P O Z Y WA BA  ws.length cW  bs.length cB m1 s1 z1 m2 s2 z2 lo hi l h p q hf
  · have f1 : ws.length ≤ 2000 := by omega
    have f2 : bs.length ≤ 200 := by omega
    by_cases hno : bs.length = 0 ∨ ws.length % bs.length ≠ 0
    · exact walk_few x0 x1 x2 K S P O Z Y WA BA  ws.length cW  bs.length cB m1 s1 z1 m2 s2 z2 lo hi ws bs rfl rfl (I8b_of hww) (I32b_of hwb) hcw hcb (hnb0.of wZ) l h p q l1 l2 h1 h2 p1 p2 q1 q2 hno f1 f2 hrw hrb
    · have g1 : 1 ≤ bs.length := by omega
      have g2 : ws.length % bs.length = 0 := Classical.byContradiction fun g => hno (Or.inr g)
      have g3 : ws.length / bs.length * bs.length = ws.length := Nat.div_mul_cancel (Nat.dvd_of_mod_eq_zero g2)
      by_cases he1 : ws.length / bs.length = 0
      · exact walk_rows0 x0 x1 x2 K S P O Z Y WA BA  ws.length cW  bs.length cB m1 s1 z1 m2 s2 z2 lo hi ws bs rfl rfl (I8b_of hww) (I32b_of hwb) hcw hcb (hnb0.of wZ) l h p q l1 l2 h1 h2 p1 p2 q1 q2 (ws.length / bs.length) g1 he1 g3 f1 f2 hrw hrb
      · exact walk_rows x0 x1 x2 K S P O Z Y WA BA  ws.length cW  bs.length cB m1 s1 z1 m2 s2 z2 lo hi ws bs rfl rfl (I8b_of hww) (I32b_of hwb) hcw hcb (hnb0.of wZ) l h p q l1 l2 h1 h2 p1 p2 q1 q2 (ws.length / bs.length) g1 (Nat.pos_of_ne_zero he1) g3 f1 f2 hrw hrb
/-! ### the frame: written by program -/
theorem own : ownKnob Try.prog.godebug = none := by kernel_rfl
theorem laid : laidOutB Try.prog = true := by kernel_rfl
theorem contract {H : Type} {enc : TypeId × Value → H} {W : World} {base : Nat} {args : Array Value} {ds gs : List (DataW H)} {before : List MemPlace}
    (hval0 : ∀ (j : Nat) t v, Try.f3.params[j]? = some t → args[j]? = some v → Value.okWide Try.prog W .any base t v)
    (hW : DataW.Whole enc Try.prog Try.f3.params.toList Rows.spanRowsSpec.vars false W args.toList ds gs before) :
    Calls Try.prog 3 args W fun e W' => e = .returned (.bool true) ∧ Below W.heap.size W W' := by
  have hval : ∀ (j : Nat) t v, Try.f3.params[j]? = some t → args[j]? = some v → Value.okWide Try.prog W .any base t v := hval0
  obtain ⟨p, q, hA0, hV, rfl, hfz, hnd⟩ := hW
  have hA : DataW.TrodAll enc Try.prog W 0 (fun _ => true) true Try.f3.params.toList args.toList ds p := hA0
  rw [Try.params3] at hA hval
  obtain ⟨v0, vs0, d0, ds0, p0, q0, hargs, rfl, rfl, h0, r0⟩ := trodAll_cons hA
  obtain ⟨v1, vs1, d1, ds1, p1, q1, rfl, rfl, rfl, h1, r1⟩ := trodAll_cons r0
  obtain ⟨v2, vs2, d2, ds2, p2, q2, rfl, rfl, rfl, h2, r2⟩ := trodAll_cons r1
  obtain ⟨v3, vs3, d3, ds3, p3, q3, rfl, rfl, rfl, h3, r3⟩ := trodAll_cons r2
  obtain ⟨v4, vs4, d4, ds4, p4, q4, rfl, rfl, rfl, h4, r4⟩ := trodAll_cons r3
  obtain ⟨rfl, rfl, rfl⟩ := trodAll_nil r4
  obtain rfl : args = #[v0, v1, v2, v3, v4] := by cases args; simp_all
  clear hA0 hval0
  obtain ⟨n0_0, n0_1, n0_2, n0_8, n0_11, n0_12, n0_13, n0_14, n0_15, n0_16, n0_17, n0_18, K0, S0, Q0, O0, Z0, WA0, ws0, cW0, BA0, bs0, cB0, rfl, wz0, hcw0, hmw0, hww0, hrw0, hcb0, hmb0, hwb0, hrb0⟩ := Kit.open_node (i := 3) (b8 := 22) (d := 23) (e := 22) (d2 := 24) (e2 := 21) Try.underlying28 (by kernel_rfl) Try.underlying3 (by kernel_rfl) Try.underlying22 (by kernel_rfl) Try.underlying23 Try.underlying22 (by kernel_rfl) (by kernel_rfl) Try.underlying24 Try.underlying21 (by kernel_rfl) (by kernel_rfl) rfl rfl rfl rfl rfl rfl rfl ⟨rfl, rfl⟩ ⟨rfl, rfl⟩ ⟨rfl, rfl⟩ ⟨rfl, rfl⟩ ⟨rfl, rfl⟩ ⟨rfl, rfl⟩ ⟨rfl, rfl⟩ (hval 0 28 v0 rfl rfl) h0
  obtain ⟨a1, rfl, rfl, rfl, w1⟩ := open_int Try.underlying22 (hval 1 22 v1 rfl rfl) h1
  obtain ⟨a2, rfl, rfl, rfl, w2⟩ := open_int Try.underlying22 (hval 2 22 v2 rfl rfl) h2
  obtain ⟨a3, rfl, rfl, rfl, w3⟩ := open_int Try.underlying3 (hval 3 3 v3 rfl rfl) h3
  obtain ⟨a4, rfl, rfl, rfl, w4⟩ := open_int Try.underlying3 (hval 4 3 v4 rfl rfl) h4
  exact walk (w := W) n0_0 n0_1 n0_2 n0_8 n0_11 n0_12 n0_13 n0_14 n0_15 n0_16 n0_17 n0_18 K0 S0 Q0 O0 Z0 WA0 ws0 cW0 BA0 bs0 cB0 wz0 hcw0 hmw0 hww0 hrw0 hcb0 hmb0 hwb0 hrb0 (CJoin.join_cells (hval 0 28 _ rfl rfl)) a1 w1 a2 w2 a3 w3 a4 w4
theorem fnIs {H : Type} : ∀ ds : List (DataW H), ds.length = Try.f3.params.toList.length → Rows.spanRowsSpec.fn H ds = { results := [.lit (.bool true)], args := ds } := by
  intro ds h
  rw [Try.params3] at h
  match ds, h with
  | [d1, d2, d3, d4, d5], _ => rfl
set_option maxRecDepth 100000 in
theorem lifted (os : Os) (started : os.Started) (H : Type) (enc : TypeId × Value → H) :
    ReturnsInHanded {} Try.checked os 3 .any (Rows.spanRowsSpec.pre6 enc Try.prog Try.f3 Rows.spanRowsRow.domain false) (Rows.spanRowsSpec.post enc Try.prog Try.f3 false true false false) := by
  refine returnsInHanded_of_change (C := Try.checked) own started (by kernel_rfl) Try.func3
    (ChangeSpec.witness6 (enc := enc) (C := Try.checked) false ⟨#[], #[.agg #[.int .i64 0, .int .i64 0, .int .i64 0, .int .i64 0, .int .i64 0, .int .i64 0, .int .i64 0, .int .i8 0, .int .i8 0, .slice none 0 0, .slice none 0 0, .int .i32 0, .int .i64 0, .int .i8 0, .int .i32 0, .int .i64 0, .int .i8 0, .int .i8 0, .int .i8 0], .int .i8 0, .int .i8 0, .int .i64 0, .int .i64 0], []⟩ 8 (by kernel_rfl) (by kernel_rfl) (by kernel_rfl) (by kernel_rfl)) ?_
  intro W base args ds gs before hval hW _ _
  refine (contract hval hW).mono fun e W' ⟨he, hg⟩ => ?_
  subst he
  exact ⟨_, rfl, Kit.law_post (tb := 4) laid (by kernel_rfl) rfl (by kernel_rfl) Try.underlying4 fnIs hW hg⟩
theorem over : Rows.spanRowsRow.holds Try.pinned (OpenSpec.ofChange Rows.spanRowsSpec) :=
  OpenClaim.holds_of_wide 3 Try.f3 rfl rfl rfl rfl rfl rfl rfl ⟨rfl, rfl, rfl, rfl, rfl⟩ rfl rfl rfl rfl rfl (by kernel_rfl) Try.func3 (by kernel_rfl)
    (of_decide_eq_true (by kernel_rfl)) (by unfold Func.isWrapper; first | (rw [if_pos (by decide +kernel)]; kernel_rfl) | (rw [if_neg (by decide +kernel)]; exact ⟨rfl, rfl⟩))
    (fun os started H enc _ => lifted os started H enc)
/-- the statement. -/
theorem proved : Rows.SpanRowsSaid :=
  over
end Go.Proofs.Ytaoadgolplnedaa.lawSpanRows
