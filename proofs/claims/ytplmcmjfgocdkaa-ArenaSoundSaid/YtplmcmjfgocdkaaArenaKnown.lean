/- Layer 28 (arena): what the laws share; what must come of fixed calls. -/
import Derived.Test.YtplmcmjfgocdkaaArenaSnd
import Derived.Test.YtplmcmjfgocdkaaArenaPeak
import Derived.Test.YtplmcmjfgocdkaaArenaRPlc
import Derived.Test.YtplmcmjfgocdkaaRows
import Derived.ProofKit
import Derived.OpenShut
import Derived.Outline
namespace Go.Proofs.Ytplmcmjfgocdkaa.CArena
open Go Go.ChangeShapes Go.WideShapes Go.ChangeAt Go.RowKit
open Plain
set_option linter.unusedVariables false

theorem quiet_b {P : Program} {f : FuncId} {args : Array Value} {w : World} {v : Value} (h : Calls P f args w fun e w' => e = .returned v ∧ ∃ m, w' = w.drewN m) : Calls P f args w fun e w' => e = .returned v ∧ Below w.heap.size w w' :=
  h.mono fun e w' ⟨he, m, hw⟩ => ⟨he, by subst hw; exact Kit.below_drewN (Below.refl _ _) m⟩
theorem same_b {P : Program} {f : FuncId} {args : Array Value} {w : World} {v : Value} (h : Calls P f args w fun e w' => e = .returned v ∧ w = w') : Calls P f args w fun e w' => e = .returned v ∧ Below w.heap.size w w' :=
  h.mono fun e w' ⟨he, hw⟩ => ⟨he, by subst hw; exact Below.refl _ _⟩
theorem may_b (S : Nat → Int) (n c m c' : Nat) (R : Bool) (hn : n ≤ 1024) (hR : rightB S n m = R) (A A' : Option Addr) (w : World) {B : Nat} (hr : Kit.Rd w B A (rowV S n)) : Calls Try.prog 8 #[.slice A n c, .slice A' m c'] w fun e w' => e = .returned (.bool R) ∧ Below w.heap.size w w' := by
  have h := quiet_b (may_to S n c m c' hn A A' w hr)
  rw [hR] at h; exact h
theorem place_b (S U : Nat → Int) (n c c' : Nat) (hn : n ≤ 900) (hyes : ∀ k, k < n → 0 ≤ S k ∧ S k ≤ 1048576) (A A' : Option Addr) (rm : Int) (hrm : roomZ S (plc S U) n = rm) (w : World) (hr : Kit.Rd w w.heap.size A (rowV S n)) (hr' : Kit.Rd w w.heap.size A' (rowV U n)) :
    Calls Try.prog 7 #[.slice A n c, .slice A' n c'] w fun e w' => ∃ (A5 : Option Addr) (c5 : Nat), e = .returned (.tuple #[.slice A5 n c5, .int .i64 rm, .bool true]) ∧ Kit.Rd w' w'.heap.size A5 (rowV (plc S U) n) ∧ Below w.heap.size w w' := by
  refine (place_yes S U n c c' hn hyes A A' w hr hr').mono ?_
  rintro e w' ⟨v, rfl, ho, hb⟩
  obtain ⟨A5, c5, rfl, -, -, hrd⟩ := Kit.own_rd ho
  exact ⟨A5, c5, by rw [hrm], hrd, hb⟩
theorem rplace_b (S U : Nat → Int) (n c c' : Nat) (hn : n ≤ 900) (hyes : ∀ k, k < n → 0 ≤ S k ∧ S k ≤ 1048576) (A A' : Option Addr) (rm : Int) (hrm : roomZ S (plc S U) n = rm) (w : World) (hr : Kit.Rd w w.heap.size A (rowV S n)) (hr' : Kit.Rd w w.heap.size A' (rowV U n)) :
    Calls Try.prog 10 #[.slice A n c, .slice A' n c'] w fun e w' => ∃ (A6 : Option Addr) (c6 : Nat), e = .returned (.tuple #[.slice A6 n c6, .int .i64 rm]) ∧ Kit.Rd w' w'.heap.size A6 (rowV (plc S U) n) ∧ Below w.heap.size w w' := by
  refine (rplace_yes S U n c c' hn hyes A A' w hr hr').mono ?_
  rintro e w' ⟨v, rfl, ho, hb⟩
  obtain ⟨A5, c5, rfl, -, -, hrd⟩ := Kit.own_rd ho
  exact ⟨A5, c5, by rw [hrm], hrd, hb⟩
set_option maxRecDepth 100000 in
set_option maxHeartbeats 2000000 in
theorem psame_to (F : Nat → Int) (n : Nat) (hn : n ≤ 1000) (A A' : Option Addr) (c c' : Nat) (w : World) {B B' : Nat} (hr : Kit.Rd w B A (rowV F n)) (hr' : Kit.Rd w B' A' (rowV F n)) :
    Calls Try.prog 11 #[.slice A n c, .slice A' n c'] w fun e w' => e = .returned (.bool true) ∧ ∃ m, w' = w.drewN m := by
  have HA := Lib.hid hr
  have HB := Lib.hid hr'
  clear hr hr'
  go_enter Try.func11, Try.ntmps11
  go_wp2_with fail
  go_loopw [5] (fun u wr => ∃ k nq : Nat, k ≤ n ∧ u = .int .i64 k ∧ Hid (wr = w.drewN nq)) (fun u _ => n - (intOf u).toNat)
  case atStart => exact ⟨0, 0, Nat.zero_le _, rfl, Lib.hid rfl⟩
  case round =>
    obtain ⟨k, nq, hk, rfl, hw⟩ := hrel
    obtain rfl := hw.out
    clear hw
    by_cases hlt : k < n
    · obtain ⟨b1, o1, rfl, -, h1⟩ := rd_at HA.out (by omega)
      obtain ⟨b2, o2, rfl, -, h2⟩ := rd_at HB.out (by omega)
      have c1 := h1 k hlt
      have c2 := h2 k hlt
      have k0 : (0 : Int) ≤ (k : Int) := by omega
      have k1 : (k : Int) < (n : Int) := by omega
      clear h1 h2
      go_wp2_with fail
      go_quiet (fail)
      go_wp2
      go_roundw
      case rel => exact ⟨k + 1, _, by omega, by go_num, Lib.hid rfl⟩
      case measure => simp [intOf]; omega
    · obtain rfl : k = n := by omega
      go_wp2_with fail
      go_ret
      exact ⟨rfl, nq, rfl⟩
theorem row_self (zs : List Int) : rowV (fun i => zs.getD i 0) zs.length = zs.map (.int .i64) := by
  refine List.ext_getElem? fun k => ?_
  by_cases h : k < zs.length
  · rw [rowV_at _ h]; simp [h]
  · rw [List.getElem?_eq_none (by rw [rowV_len]; omega), List.getElem?_eq_none (by simp; omega)]
def SK (i : Nat) : Int := if i = 0 then 4 else if i = 1 then 2 else 3
def UK (i : Nat) : Int := if i = 0 then 1 else 2
def PK (i : Nat) : Int := if i = 1 then 4 else 0
theorem SK_row : rowV SK 3 = [.int .i64 4, .int .i64 2, .int .i64 3] := rfl
theorem UK_row : rowV UK 3 = [.int .i64 1, .int .i64 2, .int .i64 2] := rfl
theorem PK_row : rowV PK 3 = [.int .i64 0, .int .i64 4, .int .i64 0] := rfl
theorem SK_b : ∀ k, k < 3 → 0 ≤ SK k ∧ SK k ≤ 1048576 := fun k _ => by unfold SK; split <;> (try split) <;> omega
theorem PK_plc : rowV (plc SK UK) 3 = rowV PK 3 := by
  have h : ∀ k, k < 3 → plc SK UK k = PK k := by decide
  exact List.map_congr_left fun k hk => by rw [h k (by simpa using hk)]
theorem K_room : roomZ SK (plc SK UK) 3 = 6 := by decide
theorem K_sound : soundB SK UK PK 3 3 3 = true := by decide
theorem sound_b (S U P : Nat → Int) (n c m c' l c3 : Nat) (R : Bool) (hR : soundB S U P n m l = R) (hn : n ≤ 900) (hl : l ≤ 900) (A A' A3 : Option Addr) (w : World) (hr : Kit.Rd w w.heap.size A (rowV S n)) (hr' : Kit.Rd w w.heap.size A' (rowV U m)) (hr3 : Kit.Rd w w.heap.size A3 (rowV P l)) :
    Calls Try.prog 14 #[.slice A n c, .slice A' m c', .slice A3 l c3] w fun e w' => e = .returned (.bool R) ∧ Below w.heap.size w w' := by
  have h := sound_to S U P n c m c' l c3 hn hl A A' A3 w hr hr' hr3
  rw [hR] at h; exact h
theorem rd_two (w : World) (xs ys : List Value) (T : TypeId) : Kit.Rd ((w.alloc (.cells xs.toArray T)).alloc (.cells ys.toArray T)) ((w.alloc (.cells xs.toArray T)).alloc (.cells ys.toArray T)).heap.size (some ⟨w.heap.size, 0, none⟩) xs ∧ Kit.Rd ((w.alloc (.cells xs.toArray T)).alloc (.cells ys.toArray T)) ((w.alloc (.cells xs.toArray T)).alloc (.cells ys.toArray T)).heap.size (some ⟨w.heap.size + 1, 0, none⟩) ys := by
  have h1 : Kit.Rd (w.alloc (.cells xs.toArray T)) (w.heap.size + 1) (some ⟨w.heap.size, 0, none⟩) xs := Kit.Rd.new _ _ _ (Nat.lt_succ_self _)
  have h2 : Kit.Rd ((w.alloc (.cells xs.toArray T)).alloc (.cells ys.toArray T)) ((w.alloc (.cells xs.toArray T)).alloc (.cells ys.toArray T)).heap.size (some ⟨(w.alloc (.cells xs.toArray T)).heap.size, 0, none⟩) ys := Kit.Rd.new (w.alloc (.cells xs.toArray T)) ys T (by simp)
  have e9 : (w.alloc (.cells xs.toArray T)).heap.size = w.heap.size + 1 := by simp
  exact ⟨(h1.alloc (by simp) _).more (by simp), by rw [← e9]; exact h2⟩
theorem two_b (w : World) (o1 o2 : Obj) : Below w.heap.size w ((w.alloc o1).alloc o2) := ((Below.refl _ _).alloc (Nat.le_refl _) o1).alloc (by simp) o2
set_option maxRecDepth 100000 in
set_option maxHeartbeats 4000000 in
theorem known28 (w : World) : Calls Try.prog 6 #[] w fun e w' => e = .returned (.bool true) ∧ Below w.heap.size w w' := by
  obtain ⟨hx, hy⟩ := rd_two w (rowV SK 3) (rowV UK 3) 3
  rw [SK_row, UK_row] at hx hy
  have HX := Lib.hid hx
  have HY := Lib.hid hy
  have HB0 := Lib.hid (two_b w (.cells #[.int .i64 4, .int .i64 2, .int .i64 3] 3) (.cells #[.int .i64 1, .int .i64 2, .int .i64 2] 3))
  clear hx hy
  go_enter Try.func6, Try.ntmps6
  go_wp2_with (first
    | (go_at_call 7
       refine (place_b SK UK 3 3 3 (by omega) SK_b _ _ 6 K_room _ (by rw [SK_row]; exact HX.out) (by rw [UK_row]; exact HY.out)).mono ?_
       rintro e w1 ⟨A5, c5, rfl, hp, hb⟩
       rw [PK_plc] at hp
       have HP := Lib.hid hp
       have HB1 := Lib.hid (HB0.out.trans (hb.mono HB0.out.size))
       clear hp hb)
    | (go_at_call 11
       refine (quiet_b (psame_to PK 3 (by omega) A5 _ c5 3 _ (HP.out.below ((Below.refl _ _).alloc (Nat.le_refl _) _)) (by rw [PK_row]; exact Kit.Rd.new _ _ _ (Nat.lt_succ_self _)))).mono ?_
       rintro e w2 ⟨rfl, hb⟩
       have hh := ((Below.refl w1.heap.size w1).alloc (Nat.le_refl _) (.cells #[.int .i64 0, .int .i64 4, .int .i64 0] 3)).trans (hb.mono (by simp))
       have HB2 := Lib.hid (HB1.out.trans (hh.mono HB1.out.size))
       have HP2 := Lib.hid ((HP.out.below hh).more hh.size)
       clear hb hh)
    | (go_at_call 14
       have hz := rd_two w2 (rowV SK 3) (rowV UK 3) 3
       have hb0 := two_b w2 (.cells #[.int .i64 4, .int .i64 2, .int .i64 3] 3) (.cells #[.int .i64 1, .int .i64 2, .int .i64 2] 3)
       refine (sound_b SK UK PK 3 3 3 3 3 c5 true K_sound (by omega) (by omega) _ _ A5 _ hz.1 hz.2 ((HP2.out.below hb0).more hb0.size)).mono ?_
       rintro e w3 ⟨rfl, hb⟩
       have HB3 := Lib.hid (HB2.out.trans ((hb0.trans (hb.mono hb0.size)).mono HB2.out.size))
       clear hb hz hb0))
  go_ret
  exact ⟨rfl, HB3.out⟩
end Go.Proofs.Ytplmcmjfgocdkaa.CArena
