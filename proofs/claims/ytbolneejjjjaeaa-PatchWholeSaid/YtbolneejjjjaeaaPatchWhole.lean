/- PatchWhole: where windows do not overlap, and cover all, what is taken apart is put together again; the call returns true and leaves its arguments as they were. No condition. -/
import Derived.Test.YtbolneejjjjaeaaPatchWholeBoth
import Derived.Test.YtbolneejjjjaeaaNodeCopy
import Derived.Deep.CutRange
import Derived.Deep.MidRow
namespace Go.Proofs.Ytbolneejjjjaeaa.lawPatchWhole
open Go Go.ChangeShapes Go.WideShapes Go.ChangeAt Go.RowKit
open Plain CSat CShape CTensor CConv CPatch
set_option linter.unusedVariables false

set_option maxHeartbeats 4000000 in
theorem walk_no1 {w : World} (H W C : Int) (A : Option Addr) (zs : List Int) (n c : Nat) (k0 r s : Nat) (z : Int) (hk : k0 ≤ 255) (hkr : k0 % 4 = r) (hrs : r + 1 = s) (hn1 : n ≤ 1024) (ht : tensB H W C n = false) : Calls Try.prog 4 #[.agg #[.int .i64 H, .int .i64 W, .int .i64 C, .slice A n c], .int .u8 (k0 : Int), .int .i8 z] w fun e w' => e = .returned (.bool true) ∧ Below w.heap.size w w' := by
  have hr4 : r < 4 := by omega
  have m1 : (k0 : Int) % 4 = (r : Int) := by omega
  have m2 : (k0 : Int).tmod 4 = (r : Int) := by rw [Int.tmod_eq_emod_of_nonneg (by omega)]; omega
  have m3 : IntKind.u8.wrap (r : Int) = (r : Int) := IntWalk.u8_in _ (by omega)
  have m4 : IntKind.i64.wrap (r : Int) = (r : Int) := IntWalk.i64_in _ (by omega)
  have m5 : IntKind.i64.wrap ((r : Int) + 1) = (s : Int) := by rw [IntWalk.i64_in _ (by omega)]; omega
  have m6 : ¬ (s : Int) = 0 := by omega
  clear hkr hrs
  have HT := Lib.hid ht
  clear ht
  go_enter Try.func4, Try.ntmps4
  go_upto_region 2 with fail
  have hTB := boxNew H W C A n c 45 w
  have hBw : Below w.heap.size w (w.alloc (.cells #[.int .i64 H, .int .i64 W, .int .i64 C, .slice A n c] 45)) := (Below.refl _ _).alloc (Nat.le_refl _) _
  have yTB : w.heap.size < (w.alloc (.cells #[.int .i64 H, .int .i64 W, .int .i64 C, .slice A n c] 45)).heap.size := by simp
  generalize (w.alloc (.cells #[.int .i64 H, .int .i64 W, .int .i64 C, .slice A n c] 45)) = w0 at hTB hBw yTB ⊢
  have TB := Lib.hid hTB
  have HBW := Lib.hid hBw
  obtain ⟨t0, t1, t2, t3⟩ := hTB
  have k1 : ¬ (n : Int) > 1024 := by omega
  clear hBw m1 m2 m3 m4 m5
  go_wp2_with fail
  go_at_call 11
  refine (refRight_to H W C A n c false HT.out _).mono ?_
  rintro e w1 ⟨rfl, hb⟩
  replace TB := Lib.hid (TB.out.below yTB hb)
  replace yTB := Nat.lt_of_lt_of_le yTB hb.size
  replace HBW := Lib.hid (HBW.out.trans (hb.mono HBW.out.size))
  clear hb t0 t1 t2 t3 k1
  obtain ⟨t0, t1, t2, t3⟩ := TB.out
  go_wp2_with (go_at_call 5; refine (known11 _).mono ?_; rintro e w2 ⟨rfl, hb⟩; replace HBW := Lib.hid (HBW.out.trans (hb.mono HBW.out.size)); clear hb)
  go_ret
  exact ⟨rfl, HBW.out⟩

set_option maxHeartbeats 4000000 in
theorem walk_no2 {w : World} (H W C : Int) (A : Option Addr) (zs : List Int) (n c : Nat) (k0 r s : Nat) (z : Int) (hk : k0 ≤ 255) (hkr : k0 % 4 = r) (hrs : r + 1 = s) (hn1 : n ≤ 1024) (ht : tensB H W C n = true) (x : Int) (hx : H.tmod (s : Int) = x) (hxw : IntKind.i64.wrap x = x) (hx0 : ¬ x = 0) : Calls Try.prog 4 #[.agg #[.int .i64 H, .int .i64 W, .int .i64 C, .slice A n c], .int .u8 (k0 : Int), .int .i8 z] w fun e w' => e = .returned (.bool true) ∧ Below w.heap.size w w' := by
  have hr4 : r < 4 := by omega
  have m1 : (k0 : Int) % 4 = (r : Int) := by omega
  have m2 : (k0 : Int).tmod 4 = (r : Int) := by rw [Int.tmod_eq_emod_of_nonneg (by omega)]; omega
  have m3 : IntKind.u8.wrap (r : Int) = (r : Int) := IntWalk.u8_in _ (by omega)
  have m4 : IntKind.i64.wrap (r : Int) = (r : Int) := IntWalk.i64_in _ (by omega)
  have m5 : IntKind.i64.wrap ((r : Int) + 1) = (s : Int) := by rw [IntWalk.i64_in _ (by omega)]; omega
  have m6 : ¬ (s : Int) = 0 := by omega
  clear hkr hrs
  have HT := Lib.hid ht
  clear ht
  have b1 : (x != 0) = true := by simpa using hx0
  go_enter Try.func4, Try.ntmps4
  go_upto_region 2 with fail
  have hTB := boxNew H W C A n c 45 w
  have hBw : Below w.heap.size w (w.alloc (.cells #[.int .i64 H, .int .i64 W, .int .i64 C, .slice A n c] 45)) := (Below.refl _ _).alloc (Nat.le_refl _) _
  have yTB : w.heap.size < (w.alloc (.cells #[.int .i64 H, .int .i64 W, .int .i64 C, .slice A n c] 45)).heap.size := by simp
  generalize (w.alloc (.cells #[.int .i64 H, .int .i64 W, .int .i64 C, .slice A n c] 45)) = w0 at hTB hBw yTB ⊢
  have TB := Lib.hid hTB
  have HBW := Lib.hid hBw
  obtain ⟨t0, t1, t2, t3⟩ := hTB
  have k1 : ¬ (n : Int) > 1024 := by omega
  clear hBw m1 m2 m3 m4 m5
  go_wp2_with fail
  go_at_call 11
  refine (refRight_to H W C A n c true HT.out _).mono ?_
  rintro e w1 ⟨rfl, hb⟩
  replace TB := Lib.hid (TB.out.below yTB hb)
  replace yTB := Nat.lt_of_lt_of_le yTB hb.size
  replace HBW := Lib.hid (HBW.out.trans (hb.mono HBW.out.size))
  clear hb t0 t1 t2 t3 k1
  obtain ⟨t0, t1, t2, t3⟩ := TB.out
  go_wp2_with (go_at_call 5; refine (known11 _).mono ?_; rintro e w2 ⟨rfl, hb⟩; replace HBW := Lib.hid (HBW.out.trans (hb.mono HBW.out.size)); clear hb)
  go_ret
  exact ⟨rfl, HBW.out⟩

set_option maxHeartbeats 4000000 in
theorem walk_no3 {w : World} (H W C : Int) (A : Option Addr) (zs : List Int) (n c : Nat) (k0 r s : Nat) (z : Int) (hk : k0 ≤ 255) (hkr : k0 % 4 = r) (hrs : r + 1 = s) (hn1 : n ≤ 1024) (ht : tensB H W C n = true) (y : Int) (hx : H.tmod (s : Int) = 0) (hy : W.tmod (s : Int) = y) (hyw : IntKind.i64.wrap y = y) (hy0 : ¬ y = 0) : Calls Try.prog 4 #[.agg #[.int .i64 H, .int .i64 W, .int .i64 C, .slice A n c], .int .u8 (k0 : Int), .int .i8 z] w fun e w' => e = .returned (.bool true) ∧ Below w.heap.size w w' := by
  have hr4 : r < 4 := by omega
  have m1 : (k0 : Int) % 4 = (r : Int) := by omega
  have m2 : (k0 : Int).tmod 4 = (r : Int) := by rw [Int.tmod_eq_emod_of_nonneg (by omega)]; omega
  have m3 : IntKind.u8.wrap (r : Int) = (r : Int) := IntWalk.u8_in _ (by omega)
  have m4 : IntKind.i64.wrap (r : Int) = (r : Int) := IntWalk.i64_in _ (by omega)
  have m5 : IntKind.i64.wrap ((r : Int) + 1) = (s : Int) := by rw [IntWalk.i64_in _ (by omega)]; omega
  have m6 : ¬ (s : Int) = 0 := by omega
  clear hkr hrs
  have HT := Lib.hid ht
  clear ht
  have b1 : (y != 0) = true := by simpa using hy0
  go_enter Try.func4, Try.ntmps4
  go_upto_region 2 with fail
  have hTB := boxNew H W C A n c 45 w
  have hBw : Below w.heap.size w (w.alloc (.cells #[.int .i64 H, .int .i64 W, .int .i64 C, .slice A n c] 45)) := (Below.refl _ _).alloc (Nat.le_refl _) _
  have yTB : w.heap.size < (w.alloc (.cells #[.int .i64 H, .int .i64 W, .int .i64 C, .slice A n c] 45)).heap.size := by simp
  generalize (w.alloc (.cells #[.int .i64 H, .int .i64 W, .int .i64 C, .slice A n c] 45)) = w0 at hTB hBw yTB ⊢
  have TB := Lib.hid hTB
  have HBW := Lib.hid hBw
  obtain ⟨t0, t1, t2, t3⟩ := hTB
  have k1 : ¬ (n : Int) > 1024 := by omega
  clear hBw m1 m2 m3 m4 m5
  go_wp2_with fail
  go_at_call 11
  refine (refRight_to H W C A n c true HT.out _).mono ?_
  rintro e w1 ⟨rfl, hb⟩
  replace TB := Lib.hid (TB.out.below yTB hb)
  replace yTB := Nat.lt_of_lt_of_le yTB hb.size
  replace HBW := Lib.hid (HBW.out.trans (hb.mono HBW.out.size))
  clear hb t0 t1 t2 t3 k1
  obtain ⟨t0, t1, t2, t3⟩ := TB.out
  go_wp2_with (go_at_call 5; refine (known11 _).mono ?_; rintro e w2 ⟨rfl, hb⟩; replace HBW := Lib.hid (HBW.out.trans (hb.mono HBW.out.size)); clear hb)
  go_ret
  exact ⟨rfl, HBW.out⟩

set_option maxRecDepth 100000 in
set_option maxHeartbeats 8000000 in
theorem walk_yes {w : World} (H W C : Int) (A : Option Addr) (zs : List Int) (n c : Nat) (k0 r s : Nat) (z : Int) (hk : k0 ≤ 255) (hkr : k0 % 4 = r) (hrs : r + 1 = s) (hn : zs.length = n) (hz8 : I8b zs) (z1 : -128 ≤ z) (z2 : z ≤ 127) (hn1 : n ≤ 1024) (ht : tensB H W C n = true) (hH : H.tmod (s : Int) = 0) (hW : W.tmod (s : Int) = 0) (hr : Kit.Rd w w.heap.size A (I8s zs)) : Calls Try.prog 4 #[.agg #[.int .i64 H, .int .i64 W, .int .i64 C, .slice A n c], .int .u8 (k0 : Int), .int .i8 z] w fun e w' => e = .returned (.bool true) ∧ Below w.heap.size w w' := by
  have hr4 : r < 4 := by omega
  have m1 : (k0 : Int) % 4 = (r : Int) := by omega
  have m2 : (k0 : Int).tmod 4 = (r : Int) := by rw [Int.tmod_eq_emod_of_nonneg (by omega)]; omega
  have m3 : IntKind.u8.wrap (r : Int) = (r : Int) := IntWalk.u8_in _ (by omega)
  have m4 : IntKind.i64.wrap (r : Int) = (r : Int) := IntWalk.i64_in _ (by omega)
  have m5 : IntKind.i64.wrap ((r : Int) + 1) = (s : Int) := by rw [IntWalk.i64_in _ (by omega)]; omega
  have m6 : ¬ (s : Int) = 0 := by omega
  obtain ⟨N1, wd, N, F, hA1, hB1⟩ := whole_both H W C A zs n c s z (by omega) (by omega) hn hz8 z1 z2 hn1 ht hH hW
  have HA1 := Lib.hid hA1
  have HB1 := Lib.hid hB1
  have HT := Lib.hid ht
  have HR := Lib.hid hr
  have HN := Lib.hid hn
  have HZ := Lib.hid hz8
  clear ht hr hn hz8 hA1 hB1 hkr hrs
  go_enter Try.func4, Try.ntmps4
  go_upto_region 2 with fail
  have hTB := boxNew H W C A n c 45 w
  have hBw : Below w.heap.size w (w.alloc (.cells #[.int .i64 H, .int .i64 W, .int .i64 C, .slice A n c] 45)) := (Below.refl _ _).alloc (Nat.le_refl _) _
  have yTB : w.heap.size < (w.alloc (.cells #[.int .i64 H, .int .i64 W, .int .i64 C, .slice A n c] 45)).heap.size := by simp
  generalize (w.alloc (.cells #[.int .i64 H, .int .i64 W, .int .i64 C, .slice A n c] 45)) = w0 at hTB hBw yTB ⊢
  have TB := Lib.hid hTB
  have HBW := Lib.hid hBw
  obtain ⟨t0, t1, t2, t3⟩ := hTB
  have k1 : ¬ (n : Int) > 1024 := by omega
  clear hBw m1 m2 m3 m4 m5
  go_wp2_with fail
  go_at_call 11
  refine (refRight_to H W C A n c true HT.out _).mono ?_
  rintro e w1 ⟨rfl, hb⟩
  replace TB := Lib.hid (TB.out.below yTB hb)
  replace yTB := Nat.lt_of_lt_of_le yTB hb.size
  replace HBW := Lib.hid (HBW.out.trans (hb.mono HBW.out.size))
  clear hb t0 t1 t2 t3 k1
  obtain ⟨t0, t1, t2, t3⟩ := TB.out
  go_upto_region 4 with fail
  have HTH := Lib.hid (Kit.there_new w1 (cs := #[.int .i64 0, .int .i64 0, .int .i64 0, .int .i64 0, .int .i64 0, .int .i64 0, .int .i64 0, .int .i8 0, .int .i8 0, .slice none 0 0, .slice none 0 0, .int .i32 0, .int .i64 0, .int .i8 0, .int .i32 0, .int .i64 0, .int .i8 0, .int .i8 0, .int .i8 0]) 30 (n := 19) rfl)
  go_upto_region 5 with (refine wpList_store_mid rfl 30 (.tmp 8) (.tmp 47) rfl (w1.heap.size) 0 #[.int .i64 0, .int .i64 0, .int .i64 0, .int .i64 (s : Int), .int .i64 (s : Int), .int .i64 0, .int .i64 0, .int .i8 z, .int .i8 0, .slice none 0 0, .slice none 0 0, .int .i32 0, .int .i64 0, .int .i8 0, .int .i32 0, .int .i64 0, .int .i8 0, .int .i8 0, .int .i8 0] rfl rfl HTH.out (by kernel_rfl) (all_oneCell_toArray (cs := [.int .i64 0, .int .i64 0, .int .i64 0, .int .i64 (s : Int), .int .i64 (s : Int), .int .i64 0, .int .i64 0, .int .i8 z, .int .i8 0, .slice none 0 0, .slice none 0 0, .int .i32 0, .int .i64 0, .int .i8 0, .int .i32 0, .int .i64 0, .int .i8 0, .int .i8 0, .int .i8 0]) (by simp [Value.oneCell'])) ?_)
  have hal : Below w1.heap.size w1 ((w1.alloc (.cells #[.int .i64 0, .int .i64 0, .int .i64 0, .int .i64 0, .int .i64 0, .int .i64 0, .int .i64 0, .int .i8 0, .int .i8 0, .slice none 0 0, .slice none 0 0, .int .i32 0, .int .i64 0, .int .i8 0, .int .i32 0, .int .i64 0, .int .i8 0, .int .i8 0, .int .i8 0] 30)).setCells w1.heap.size 0 [.int .i64 0, .int .i64 0, .int .i64 0, .int .i64 (s : Int), .int .i64 (s : Int), .int .i64 0, .int .i64 0, .int .i8 z, .int .i8 0, .slice none 0 0, .slice none 0 0, .int .i32 0, .int .i64 0, .int .i8 0, .int .i32 0, .int .i64 0, .int .i8 0, .int .i8 0, .int .i8 0]) := Kit.below_cells (Nat.le_refl _) _ _ _ ((Below.refl _ _).alloc (Nat.le_refl _) _)
  have TN := Lib.hid (NodeAt.stored HTH.out (.int .i64 0) (.int .i64 0) (.int .i64 0) (.int .i8 0) (.int .i32 0) (.int .i64 0) (.int .i8 0) (.int .i32 0) (.int .i64 0) (.int .i8 0) (.int .i8 0) (.int .i8 0) (s : Int) (s : Int) 0 0 z none none 0 0 0 0)
  have yTN : w1.heap.size < ((w1.alloc (.cells #[.int .i64 0, .int .i64 0, .int .i64 0, .int .i64 0, .int .i64 0, .int .i64 0, .int .i64 0, .int .i8 0, .int .i8 0, .slice none 0 0, .slice none 0 0, .int .i32 0, .int .i64 0, .int .i8 0, .int .i32 0, .int .i64 0, .int .i8 0, .int .i8 0, .int .i8 0] 30)).setCells w1.heap.size 0 [.int .i64 0, .int .i64 0, .int .i64 0, .int .i64 (s : Int), .int .i64 (s : Int), .int .i64 0, .int .i64 0, .int .i8 z, .int .i8 0, .slice none 0 0, .slice none 0 0, .int .i32 0, .int .i64 0, .int .i8 0, .int .i32 0, .int .i64 0, .int .i8 0, .int .i8 0, .int .i8 0]).heap.size := by rw [Kit.size_cells]; simp
  replace TB := Lib.hid (TB.out.below yTB hal)
  replace yTB := Nat.lt_of_lt_of_le yTB hal.size
  replace HBW := Lib.hid (HBW.out.trans (hal.mono HBW.out.size))
  clear HTH hal t0 t1 t2 t3
  generalize hwn : ((w1.alloc (.cells #[.int .i64 0, .int .i64 0, .int .i64 0, .int .i64 0, .int .i64 0, .int .i64 0, .int .i64 0, .int .i8 0, .int .i8 0, .slice none 0 0, .slice none 0 0, .int .i32 0, .int .i64 0, .int .i8 0, .int .i32 0, .int .i64 0, .int .i8 0, .int .i8 0, .int .i8 0] 30)).setCells w1.heap.size 0 [.int .i64 0, .int .i64 0, .int .i64 0, .int .i64 (s : Int), .int .i64 (s : Int), .int .i64 0, .int .i64 0, .int .i8 z, .int .i8 0, .slice none 0 0, .slice none 0 0, .int .i32 0, .int .i64 0, .int .i8 0, .int .i32 0, .int .i64 0, .int .i8 0, .int .i8 0, .int .i8 0]) = w2 at TN yTN TB yTB HBW ⊢
  clear hwn
  generalize w1.heap.size = gN at TN yTN ⊢
  have HR2 := Lib.hid ((HR.out.below HBW.out).more HBW.out.size)
  obtain ⟨t0, t1, t2, t3⟩ := TB.out
  go_upto_region 6 with (first
    | (refine wpList_load_mid rfl 30 (.tmp 8) rfl gN 0 rfl [.int .i64 0, .int .i64 0, .int .i64 0, .int .i64 (s : Int), .int .i64 (s : Int), .int .i64 0, .int .i64 0, .int .i8 z, .int .i8 0, .slice none 0 0, .slice none 0 0, .int .i32 0, .int .i64 0, .int .i8 0, .int .i32 0, .int .i64 0, .int .i8 0, .int .i8 0, .int .i8 0] _ TN.out Try.underlying30 rfl (by kernel_rfl) ?_)
    | (go_at_call 12; refine (HA1.out _ HR2.out).mono ?_; rintro e w3' ⟨v2, rfl, ho2, hb⟩; obtain ⟨A2, c2, rfl, hc2, hm2, hrd2⟩ := Kit.own_rd ho2; have RA2 := Lib.hid hrd2; replace TB := Lib.hid (TB.out.below yTB hb); replace yTB := Nat.lt_of_lt_of_le yTB hb.size; replace TN := Lib.hid (TN.out.below yTN hb); replace yTN := Nat.lt_of_lt_of_le yTN hb.size; replace HBW := Lib.hid (HBW.out.trans (hb.mono HBW.out.size)); clear hb ho2 hrd2 hc2 hm2 t0 t1 t2 t3)
    | (refine wpList_store_mid rfl 37 (.tmp 9) (.tmp 52) rfl (w3'.heap.size) 0 #[.int .i64 (N1 : Int), .int .i64 (wd : Int), .slice A2 N c2] rfl rfl (Kit.there_new w3' (cs := #[.int .i64 0, .int .i64 0, .slice none 0 0]) 37 (n := 3) rfl) (by kernel_rfl) (all_oneCell_toArray (cs := [.int .i64 (N1 : Int), .int .i64 (wd : Int), .slice A2 N c2]) (by simp [Value.oneCell'])) ?_))
  have hth3 := Kit.there_new w3' (cs := #[.int .i64 0, .int .i64 0, .slice none 0 0]) 37 (n := 3) rfl
  have hal : Below w3'.heap.size w3' ((w3'.alloc (.cells #[.int .i64 0, .int .i64 0, .slice none 0 0] 37)).setCells w3'.heap.size 0 [.int .i64 (N1 : Int), .int .i64 (wd : Int), .slice A2 N c2]) := Kit.below_cells (Nat.le_refl _) _ _ _ ((Below.refl _ _).alloc (Nat.le_refl _) _)
  have hra : ((w3'.alloc (.cells #[.int .i64 0, .int .i64 0, .slice none 0 0] 37)).setCells w3'.heap.size 0 [.int .i64 (N1 : Int), .int .i64 (wd : Int), .slice A2 N c2]).rangeAt w3'.heap.size 0 [.int .i64 (N1 : Int), .int .i64 (wd : Int), .slice A2 N c2] := World.rangeAt_setCells_same _ _ 0 _ hth3
  have yTR : w3'.heap.size < ((w3'.alloc (.cells #[.int .i64 0, .int .i64 0, .slice none 0 0] 37)).setCells w3'.heap.size 0 [.int .i64 (N1 : Int), .int .i64 (wd : Int), .slice A2 N c2]).heap.size := by rw [Kit.size_cells]; simp
  replace TB := Lib.hid (TB.out.below yTB hal)
  replace yTB := Nat.lt_of_lt_of_le yTB hal.size
  replace TN := Lib.hid (TN.out.below yTN hal)
  replace yTN := Nat.lt_of_lt_of_le yTN hal.size
  replace HBW := Lib.hid (HBW.out.trans (hal.mono HBW.out.size))
  replace RA2 := Lib.hid ((RA2.out.below hal).more hal.size)
  have TRR := Lib.hid hra
  clear hth3 hal hra HR2
  generalize hwn : ((w3'.alloc (.cells #[.int .i64 0, .int .i64 0, .slice none 0 0] 37)).setCells w3'.heap.size 0 [.int .i64 (N1 : Int), .int .i64 (wd : Int), .slice A2 N c2]) = w4 at TN yTN TB yTB HBW RA2 TRR yTR ⊢
  clear hwn
  generalize w3'.heap.size = gR at TRR yTR ⊢
  obtain ⟨t0, t1, t2, t3⟩ := TB.out
  go_upto_region 7 with (first
    | (refine wpList_load_mid rfl 30 (.tmp 8) rfl gN 0 rfl [.int .i64 0, .int .i64 0, .int .i64 0, .int .i64 (s : Int), .int .i64 (s : Int), .int .i64 0, .int .i64 0, .int .i8 z, .int .i8 0, .slice none 0 0, .slice none 0 0, .int .i32 0, .int .i64 0, .int .i8 0, .int .i32 0, .int .i64 0, .int .i8 0, .int .i8 0, .int .i8 0] _ TN.out Try.underlying30 rfl (by kernel_rfl) ?_)
    | (refine wpList_load_mid rfl 37 (.tmp 9) rfl gR 0 rfl [.int .i64 (N1 : Int), .int .i64 (wd : Int), .slice A2 N c2] _ TRR.out Try.underlying37 rfl (by kernel_rfl) ?_)
    | (go_at_call 6; refine (HB1.out A2 c2 _ RA2.out).mono ?_; rintro e w5 ⟨v3, rfl, ho3, hb⟩; obtain ⟨A3, c3, rfl, hc3, hm3, hrd3⟩ := Kit.own_rd ho3; have RA3 := Lib.hid hrd3; replace TB := Lib.hid (TB.out.below yTB hb); replace yTB := Nat.lt_of_lt_of_le yTB hb.size; replace HBW := Lib.hid (HBW.out.trans (hb.mono HBW.out.size)); clear hb ho3 hrd3 hc3 hm3 t0 t1 t2 t3))
  clear RA2 TRR yTR TN yTN
  obtain ⟨t0, t1, t2, t3⟩ := TB.out
  go_wp2_with fail
  clear t0 t1 t2 t3
  have HR3 := Lib.hid ((HR.out.below HBW.out).more HBW.out.size)
  go_loopw [13] (fun u wr => ∃ i : Nat, i ≤ n ∧ u = .int .i64 i ∧ Hid (Below w5.heap.size w5 wr)) (fun u _ => n - (intOf u).toNat)
  case atStart => exact ⟨0, Nat.zero_le _, rfl, Lib.hid (Below.refl _ _)⟩
  case round =>
    obtain ⟨i, hi, rfl, hB0⟩ := hrel
    by_cases hlt : i < n
    · obtain ⟨t0, t1, t2, t3⟩ := TB.out.below yTB hB0.out
      have hi0 : (0 : Int) ≤ (i : Int) := by omega
      have hiI : (i : Int) < (n : Int) := by omega
      obtain ⟨b3, o3, rfl, -, hc3'⟩ := ints_getD (RA3.out.below hB0.out) (j := i) (by rw [listF_len]; omega)
      obtain ⟨b2, o2, rfl, -, hc2'⟩ := ints_getD (HR3.out.below hB0.out) (j := i) (by have := HN.out; omega)
      have e3 := hc3' i (by rw [listF_len]; omega)
      have e2 := hc2' i (by have := HN.out; omega)
      rw [List.getD_eq_getElem?_getD, listF_at _ hlt] at e3
      have e3' : wr.cell? ⟨b3, o3 + i, none⟩ = some (.int .i32 (zs.getD i 0 - z)) := e3
      obtain ⟨y1, y2⟩ := HZ.out i
      obtain ⟨y, hy⟩ : ∃ y, zs.getD i 0 = y := ⟨_, rfl⟩
      rw [hy] at e3' e2 y1 y2
      have f1 : IntKind.i32.wrap y = y := IntWalk.i32_in _ (by omega)
      have f2 : IntKind.i32.wrap z = z := IntWalk.i32_in _ (by omega)
      have f3 : IntKind.i32.wrap (y - z) = y - z := IntWalk.i32_in _ (by omega)
      clear e3 hc2' hc3' hy
      go_wp2_with fail
      refine wp_region_held_drew (S := fun w' => w'.cell? ⟨b3, o3 + i, none⟩ = some (.int .i32 (y - z)) ∧ w'.cell? ⟨w.heap.size, 3, none⟩ = some (.slice (some ⟨b2, o2, none⟩) n c) ∧ w'.cell? ⟨b2, o2 + i, none⟩ = some (.int .i8 y)) (by kernel_rfl) ⟨e3', t3, e2⟩ (fun hHeld => ?_)
      refine wpAnyH_take (i := 0) (oi := ({ dst := some 82, op := Op.move (Operand.tmp 11), type := 26, pos := "law.go:78", after := #[], guard := none } : Oper)) (v := ?_) rfl (by kernel_rfl) (by kernel_rfl) (by kernel_rfl) (fun _ _ _ h => h) (Or.inl ⟨by rfl, ?_⟩) (by assumption) ?_
      rotate_left
      · intro wS hSw
        first
          | (go_simp; done)
          | (go_simp; with_reducible rfl)
      try simp only [Act.put, List.setIfInBounds_toArray, List.set_cons_zero, List.set_cons_succ]
      refine wpAnyH_take (i := 1) (oi := ({ dst := some 83, op := Op.move (Operand.tmp 13), type := 3, pos := "law.go:78", after := #[], guard := none } : Oper)) (v := ?_) rfl (by kernel_rfl) (by kernel_rfl) (by kernel_rfl) (fun _ _ _ h => h) (Or.inl ⟨by rfl, ?_⟩) (by assumption) ?_
      rotate_left
      · intro wS hSw
        first
          | (go_simp; done)
          | (go_simp; with_reducible rfl)
      try simp only [Act.put, List.setIfInBounds_toArray, List.set_cons_zero, List.set_cons_succ]
      refine wpAnyH_take (i := 2) (oi := ({ dst := some 84, op := Op.indexAddr 26 (Operand.tmp 82) (Operand.tmp 83), type := 0, pos := "law.go:78", after := #[{ on := 0, ground := Ground.data }, { on := 1, ground := Ground.data }], guard := none } : Oper)) (v := ?_) rfl (by kernel_rfl) (by kernel_rfl) (by kernel_rfl) (fun _ _ _ h => h) (Or.inl ⟨by rfl, ?_⟩) (by assumption) ?_
      rotate_left
      · intro wS hSw
        first
          | (go_simp; done)
          | (go_simp; with_reducible rfl)
      try simp only [Act.put, List.setIfInBounds_toArray, List.set_cons_zero, List.set_cons_succ]
      refine wpAnyH_take (i := 3) (oi := ({ dst := some 85, op := Op.load 21 (Operand.tmp 84), type := 21, pos := "law.go:78", after := #[{ on := 2, ground := Ground.data }], guard := none } : Oper)) (v := ?_) rfl (by kernel_rfl) (by kernel_rfl) (by kernel_rfl) (fun _ _ _ h => h) (Or.inl ⟨by rfl, ?_⟩) (by assumption) ?_
      rotate_left
      · intro wS hSw
        obtain ⟨v1, v2, v3⟩ := hSw
        first
          | (go_simp; done)
          | (go_simp; with_reducible rfl)
      try simp only [Act.put, List.setIfInBounds_toArray, List.set_cons_zero, List.set_cons_succ]
      refine wpAnyH_take (i := 4) (oi := ({ dst := some 86, op := Op.fieldAddr 45 (Operand.tmp 3) 1, type := 0, pos := "law.go:78", after := #[], guard := none } : Oper)) (v := ?_) rfl (by kernel_rfl) (by kernel_rfl) (by kernel_rfl) (fun _ _ _ h => h) (Or.inl ⟨by rfl, ?_⟩) (by assumption) ?_
      rotate_left
      · intro wS hSw
        first
          | (go_simp; done)
          | (go_simp; with_reducible rfl)
      try simp only [Act.put, List.setIfInBounds_toArray, List.set_cons_zero, List.set_cons_succ]
      refine wpAnyH_take (i := 5) (oi := ({ dst := some 87, op := Op.load 25 (Operand.tmp 86), type := 25, pos := "law.go:78", after := #[{ on := 4, ground := Ground.data }], guard := none } : Oper)) (v := ?_) rfl (by kernel_rfl) (by kernel_rfl) (by kernel_rfl) (fun _ _ _ h => h) (Or.inl ⟨by rfl, ?_⟩) (by assumption) ?_
      rotate_left
      · intro wS hSw
        obtain ⟨v1, v2, v3⟩ := hSw
        first
          | (go_simp; done)
          | (go_simp; with_reducible rfl)
      try simp only [Act.put, List.setIfInBounds_toArray, List.set_cons_zero, List.set_cons_succ]
      refine wpAnyH_take (i := 6) (oi := ({ dst := some 88, op := Op.move (Operand.tmp 13), type := 3, pos := "law.go:78", after := #[], guard := none } : Oper)) (v := ?_) rfl (by kernel_rfl) (by kernel_rfl) (by kernel_rfl) (fun _ _ _ h => h) (Or.inl ⟨by rfl, ?_⟩) (by assumption) ?_
      rotate_left
      · intro wS hSw
        first
          | (go_simp; done)
          | (go_simp; with_reducible rfl)
      try simp only [Act.put, List.setIfInBounds_toArray, List.set_cons_zero, List.set_cons_succ]
      refine wpAnyH_take (i := 7) (oi := ({ dst := some 89, op := Op.indexAddr 25 (Operand.tmp 87) (Operand.tmp 88), type := 0, pos := "law.go:78", after := #[{ on := 5, ground := Ground.data }, { on := 6, ground := Ground.data }], guard := none } : Oper)) (v := ?_) rfl (by kernel_rfl) (by kernel_rfl) (by kernel_rfl) (fun _ _ _ h => h) (Or.inl ⟨by rfl, ?_⟩) (by assumption) ?_
      rotate_left
      · intro wS hSw
        first
          | (go_simp; done)
          | (go_simp; with_reducible rfl)
      try simp only [Act.put, List.setIfInBounds_toArray, List.set_cons_zero, List.set_cons_succ]
      refine wpAnyH_take (i := 8) (oi := ({ dst := some 90, op := Op.load 24 (Operand.tmp 89), type := 24, pos := "law.go:78", after := #[{ on := 7, ground := Ground.data }], guard := none } : Oper)) (v := ?_) rfl (by kernel_rfl) (by kernel_rfl) (by kernel_rfl) (fun _ _ _ h => h) (Or.inl ⟨by rfl, ?_⟩) (by assumption) ?_
      rotate_left
      · intro wS hSw
        obtain ⟨v1, v2, v3⟩ := hSw
        first
          | (go_simp; done)
          | (go_simp; with_reducible rfl)
      try simp only [Act.put, List.setIfInBounds_toArray, List.set_cons_zero, List.set_cons_succ]
      refine wpAnyH_take (i := 9) (oi := ({ dst := some 91, op := Op.convert 24 21 (Operand.tmp 90), type := 21, pos := "law.go:78", after := #[{ on := 8, ground := Ground.data }], guard := none } : Oper)) (v := ?_) rfl (by kernel_rfl) (by kernel_rfl) (by kernel_rfl) (fun _ _ _ h => h) (Or.inl ⟨by rfl, ?_⟩) (by assumption) ?_
      rotate_left
      · intro wS hSw
        first
          | (go_simp; done)
          | (go_simp; with_reducible rfl)
      try simp only [Act.put, List.setIfInBounds_toArray, List.set_cons_zero, List.set_cons_succ]
      refine wpAnyH_take (i := 10) (oi := ({ dst := some 92, op := Op.move (Operand.tmp 2), type := 24, pos := "law.go:78", after := #[], guard := none } : Oper)) (v := ?_) rfl (by kernel_rfl) (by kernel_rfl) (by kernel_rfl) (fun _ _ _ h => h) (Or.inl ⟨by rfl, ?_⟩) (by assumption) ?_
      rotate_left
      · intro wS hSw
        first
          | (go_simp; done)
          | (go_simp; with_reducible rfl)
      try simp only [Act.put, List.setIfInBounds_toArray, List.set_cons_zero, List.set_cons_succ]
      refine wpAnyH_take (i := 11) (oi := ({ dst := some 93, op := Op.convert 24 21 (Operand.tmp 92), type := 21, pos := "law.go:78", after := #[{ on := 10, ground := Ground.data }], guard := none } : Oper)) (v := ?_) rfl (by kernel_rfl) (by kernel_rfl) (by kernel_rfl) (fun _ _ _ h => h) (Or.inl ⟨by rfl, ?_⟩) (by assumption) ?_
      rotate_left
      · intro wS hSw
        first
          | (go_simp; done)
          | (go_simp; with_reducible rfl)
      try simp only [Act.put, List.setIfInBounds_toArray, List.set_cons_zero, List.set_cons_succ]
      refine wpAnyH_take (i := 12) (oi := ({ dst := some 94, op := Op.binOp BinOp.sub 21 (Operand.tmp 91) (Operand.tmp 93) 21, type := 21, pos := "law.go:78", after := #[{ on := 9, ground := Ground.data }, { on := 11, ground := Ground.data }], guard := none } : Oper)) (v := ?_) rfl (by kernel_rfl) (by kernel_rfl) (by kernel_rfl) (fun _ _ _ h => h) (Or.inl ⟨by rfl, ?_⟩) (by assumption) ?_
      rotate_left
      · intro wS hSw
        first
          | (go_simp; done)
          | (go_simp; with_reducible rfl)
      try simp only [Act.put, List.setIfInBounds_toArray, List.set_cons_zero, List.set_cons_succ]
      refine wpAnyH_take (i := 13) (oi := ({ dst := some 95, op := Op.binOp BinOp.neq 21 (Operand.tmp 85) (Operand.tmp 94) 21, type := 4, pos := "law.go:78", after := #[{ on := 3, ground := Ground.data }, { on := 12, ground := Ground.data }], guard := none } : Oper)) (v := ?_) rfl (by kernel_rfl) (by kernel_rfl) (by kernel_rfl) (fun _ _ _ h => h) (Or.inl ⟨by rfl, ?_⟩) (by assumption) ?_
      rotate_left
      · intro wS hSw
        first
          | (go_simp; done)
          | (go_simp; with_reducible rfl)
      try simp only [Act.put, List.setIfInBounds_toArray, List.set_cons_zero, List.set_cons_succ]
      refine wpAnyH_done (by kernel_rfl) ?_ _
      clear hHeld
      go_wp2_with fail
      go_roundw
      case rel => exact ⟨i + 1, by omega, by go_num, Lib.hid hB0.out.drew⟩
      case measure => simp [intOf]; omega
    · obtain rfl : i = n := by omega
      go_wp2_with (go_at_call 5; (refine (known11 _).mono ?_); rintro e w7 ⟨rfl, hb⟩; (have HB := Lib.hid ((HBW.out.trans (hB0.out.mono HBW.out.size)).trans (hb.mono (Nat.le_trans HBW.out.size hB0.out.size)))); clear hb)
      go_ret
      exact ⟨rfl, HB.out⟩
theorem walk {w : World} (H : Int) (wH : (Lit.int .i64 H).wf = true) (W : Int) (wW : (Lit.int .i64 W).wf = true) (C : Int) (wC : (Lit.int .i64 C).wf = true) (A : Option Addr) (zs : List Int) (c : Nat) (hc : zs.length ≤ c) (hm : c ≤ maxLen) (hw : ∀ n ∈ zs, (Lit.int .i8 n).wf = true) (hr : Kit.Rd w w.heap.size A (zs.map (.int .i8)))
    (k : Int) (wk : (Lit.int .u8 k).wf = true) (z : Int) (wz : (Lit.int .i8 z).wf = true) :
    Calls Try.prog 4 #[.agg #[.int .i64 H, .int .i64 W, .int .i64 C, .slice A zs.length c], .int .u8 k, .int .i8 z] w fun e w' => e = .returned (.bool true) ∧ Below w.heap.size w w' := by
  have ⟨z1, z2⟩ : -128 ≤ z ∧ z ≤ 127 := by simpa [Lit.wf, IntKind.min, IntKind.max, IntKind.signed, IntKind.bits] using wz
  have ⟨t1, t2⟩ : 0 ≤ k ∧ k ≤ 255 := by simpa [Lit.wf, IntKind.min, IntKind.max, IntKind.signed, IntKind.bits] using wk
  have ⟨h1, h2⟩ : -9223372036854775808 ≤ H ∧ H ≤ 9223372036854775807 := by simpa [Lit.wf, IntKind.min, IntKind.max, IntKind.signed, IntKind.bits] using wH
  have ⟨h3, h4⟩ : -9223372036854775808 ≤ W ∧ W ≤ 9223372036854775807 := by simpa [Lit.wf, IntKind.min, IntKind.max, IntKind.signed, IntKind.bits] using wW
  obtain ⟨k0, rfl⟩ := Int.eq_ofNat_of_zero_le t1
  have hk : k0 ≤ 255 := by omega
  by_cases hf : 1024 < zs.length
  · exact walk_big H W C A zs _ c k0 _ _ z hk rfl rfl hf
  · have s4 : k0 % 4 < 4 := Nat.mod_lt _ (by omega)
    have hxw : ∀ X : Int, IntKind.i64.wrap (X.tmod ((k0 % 4 + 1 : Nat) : Int)) = X.tmod ((k0 % 4 + 1 : Nat) : Int) := fun X => by
      have p0 : (0 : Int) < ((k0 % 4 + 1 : Nat) : Int) := by omega
      have p5 : ((k0 % 4 + 1 : Nat) : Int) < 5 := by omega
      generalize ((k0 % 4 + 1 : Nat) : Int) = m at p0 p5
      rcases (show X < 0 ∨ 0 ≤ X by omega) with h | h
      · obtain ⟨Y, rfl⟩ : ∃ Y, X = -Y := ⟨-X, by omega⟩
        have b1 := Int.emod_nonneg Y (show m ≠ 0 by omega)
        have b2 := Int.emod_lt_of_pos Y p0
        rw [Int.neg_tmod, Int.tmod_eq_emod_of_nonneg (show 0 ≤ Y by omega)]
        exact IntWalk.i64_in _ (by omega)
      · have b1 := Int.emod_nonneg X (show m ≠ 0 by omega)
        have b2 := Int.emod_lt_of_pos X p0
        rw [Int.tmod_eq_emod_of_nonneg h]
        exact IntWalk.i64_in _ (by omega)
    by_cases hg : tensB H W C zs.length = true ∧ H.tmod ((k0 % 4 + 1 : Nat) : Int) = 0 ∧ W.tmod ((k0 % 4 + 1 : Nat) : Int) = 0
    · exact walk_yes H W C A zs _ c k0 _ _ z hk rfl rfl rfl (bytes_of hw) z1 z2 (by omega) hg.1 hg.2.1 hg.2.2 hr
    · cases htb : tensB H W C zs.length
      · exact walk_no1 H W C A zs _ c k0 _ _ z hk rfl rfl (by omega) htb
      · rw [htb] at hg
        by_cases hx : H.tmod ((k0 % 4 + 1 : Nat) : Int) = 0
        · exact walk_no3 H W C A zs _ c k0 _ _ z hk rfl rfl (by omega) htb _ hx rfl (hxw W) (fun h => hg ⟨rfl, hx, h⟩)
        · exact walk_no2 H W C A zs _ c k0 _ _ z hk rfl rfl (by omega) htb _ rfl (hxw H) hx
/-! ### the frame: written by program -/
theorem own : ownKnob Try.prog.godebug = none := by kernel_rfl
theorem laid : laidOutB Try.prog = true := by kernel_rfl
theorem contract {H : Type} {enc : TypeId × Value → H} {W : World} {base : Nat} {args : Array Value} {ds gs : List (DataW H)} {before : List MemPlace}
    (hval0 : ∀ (j : Nat) t v, Try.f4.params[j]? = some t → args[j]? = some v → Value.okWide Try.prog W .any base t v)
    (hW : DataW.Whole enc Try.prog Try.f4.params.toList Rows.patchWholeSpec.vars false W args.toList ds gs before) :
    Calls Try.prog 4 args W fun e W' => e = .returned (.bool true) ∧ Below W.heap.size W W' := by
  have hval : ∀ (j : Nat) t v, Try.f4.params[j]? = some t → args[j]? = some v → Value.okWide Try.prog W .any base t v := hval0
  obtain ⟨p, q, hA0, hV, rfl, hfz, hnd⟩ := hW
  have hA : DataW.TrodAll enc Try.prog W 0 (fun _ => true) true Try.f4.params.toList args.toList ds p := hA0
  rw [Try.params4] at hA hval
  obtain ⟨v0, vs0, d0, ds0, p0, q0, hargs, rfl, rfl, h0, r0⟩ := trodAll_cons hA
  obtain ⟨v1, vs1, d1, ds1, p1, q1, rfl, rfl, rfl, h1, r1⟩ := trodAll_cons r0
  obtain ⟨v2, vs2, d2, ds2, p2, q2, rfl, rfl, rfl, h2, r2⟩ := trodAll_cons r1
  obtain ⟨rfl, rfl, rfl⟩ := trodAll_nil r2
  obtain rfl : args = #[v0, v1, v2] := by cases args; simp_all
  clear hA0 hval0
  obtain ⟨x0, y0, t0, A0, z0, c0, rfl, wx0, wy0, wt0, hc0, hm0, hw0, hr0⟩ := Kit.open_tensor (s := 23) (d := 25) (e := 24) (i := 3) Try.underlying45 Try.underlying23 Try.underlying25 Try.underlying24 Try.underlying3 (by kernel_rfl) (by kernel_rfl) (by kernel_rfl) (by kernel_rfl) (by kernel_rfl) ⟨rfl, rfl, rfl, rfl⟩ ⟨rfl, rfl, rfl, rfl, rfl, rfl⟩ (hval 0 45 v0 rfl rfl) h0
  obtain ⟨a1, rfl, rfl, rfl, w1⟩ := open_int Try.underlying5 (hval 1 5 v1 rfl rfl) h1
  obtain ⟨a2, rfl, rfl, rfl, w2⟩ := open_int Try.underlying24 (hval 2 24 v2 rfl rfl) h2
  exact walk (w := W) x0 wx0 y0 wy0 t0 wt0 A0 z0 c0 hc0 hm0 hw0 hr0 a1 w1 a2 w2
theorem fnIs {H : Type} : ∀ ds : List (DataW H), ds.length = Try.f4.params.toList.length → Rows.patchWholeSpec.fn H ds = { results := [.lit (.bool true)], args := ds } := by
  intro ds h
  rw [Try.params4] at h
  match ds, h with
  | [d1, d2, d3], _ => rfl
set_option maxRecDepth 100000 in
theorem lifted (os : Os) (started : os.Started) (H : Type) (enc : TypeId × Value → H) :
    ReturnsInHanded {} Try.checked os 4 .any (Rows.patchWholeSpec.pre6 enc Try.prog Try.f4 Rows.patchWholeRow.domain false) (Rows.patchWholeSpec.post enc Try.prog Try.f4 false true false false) := by
  refine returnsInHanded_of_change (C := Try.checked) own started (by kernel_rfl) Try.func4
    (ChangeSpec.witness6 (enc := enc) (C := Try.checked) false ⟨#[], #[.agg #[.int .i64 0, .int .i64 0, .int .i64 0, .slice none 0 0], .int .u8 0, .int .i8 0], []⟩ 8 (by kernel_rfl) (by kernel_rfl) (by kernel_rfl) (by kernel_rfl)) ?_
  intro W base args ds gs before hval hW _ _
  refine (contract hval hW).mono fun e W' ⟨he, hg⟩ => ?_
  subst he
  exact ⟨_, rfl, Kit.law_post (tb := 4) laid (by kernel_rfl) rfl (by kernel_rfl) Try.underlying4 fnIs hW hg⟩
theorem over : Rows.patchWholeRow.holds Try.pinned (OpenSpec.ofChange Rows.patchWholeSpec) :=
  OpenClaim.holds_of_wide 4 Try.f4 rfl rfl rfl rfl rfl rfl rfl ⟨rfl, rfl, rfl, rfl, rfl⟩ rfl rfl rfl rfl rfl (by kernel_rfl) Try.func4 (by kernel_rfl)
    (of_decide_eq_true (by kernel_rfl)) (by unfold Func.isWrapper; first | (rw [if_pos (by decide +kernel)]; kernel_rfl) | (rw [if_neg (by decide +kernel)]; exact ⟨rfl, rfl⟩))
    (fun os started H enc _ => lifted os started H enc)
/-- the statement. -/
theorem proved : Rows.PatchWholeSaid :=
  over
end Go.Proofs.Ytbolneejjjjaeaa.lawPatchWhole
