/- Layer 22 (rank), the document: are places alike; the order, place by place. -/
import Derived.Test.YtlpnaacagbgnkaaRankRef
import Derived.Test.YtlpnaacagbgnkaaRankOrd
namespace Go.Proofs.Ytlpnaacagbgnkaa.CRank
open Go Go.ChangeShapes Go.WideShapes Go.ChangeAt Go.RowKit
open Plain
set_option linter.unusedVariables false

theorem rd64 {w : World} {B : Nat} {A : Option Addr} {xs : List Int} (h : Kit.Rd w B A (I64v xs)) (hn : 0 < xs.length) :
    ∃ b o, A = some ⟨b, o, none⟩ ∧ b < B ∧ ∀ k, k < xs.length → ∃ z, w.cell? ⟨b, o + k, none⟩ = some (.int .i64 z) ∧ xs[k]? = some z := by
  obtain ⟨b, o, e, hb, hc⟩ := h.plain (by simp [I64v]; exact hn)
  exact ⟨b, o, e, hb, fun k hk => ⟨xs[k], hc k _ (by simp [I64v, hk]), by simp [hk]⟩⟩
set_option maxRecDepth 100000 in
set_option maxHeartbeats 2000000 in
theorem rsame_yes (xs : List Int) (n : Nat) (hx : xs.length = n) (hn : n ≤ 1000) (A A' : Option Addr) (c c' : Nat) (w : World) {B B' : Nat} (hr : Kit.Rd w B A (I64v xs)) (hr' : Kit.Rd w B' A' (I64v xs)) :
    Calls Try.prog 14 #[.slice A n c, .slice A' n c'] w fun e w' => e = .returned (.bool true) ∧ ∃ m, w' = w.drewN m := by
  have HX := Lib.hid hx
  have HA := Lib.hid hr
  have HB := Lib.hid hr'
  clear hx hr hr'
  go_enter Try.func14, Try.ntmps14
  go_wp2_with fail
  go_loopw [5] (fun u wr => ∃ k nq : Nat, k ≤ n ∧ u = .int .i64 k ∧ Hid (wr = w.drewN nq)) (fun u _ => n - (intOf u).toNat)
  case atStart => exact ⟨0, 0, Nat.zero_le _, rfl, Lib.hid rfl⟩
  case round =>
    obtain ⟨k, nq, hk, rfl, hw⟩ := hrel
    obtain rfl := hw.out
    clear hw
    by_cases hlt : k < n
    · obtain ⟨b1, o1, rfl, -, h1⟩ := rd64 HA.out (by have := HX.out; omega)
      obtain ⟨b2, o2, rfl, -, h2⟩ := rd64 HB.out (by have := HX.out; omega)
      obtain ⟨z, c1, e1⟩ := h1 k (by have := HX.out; omega)
      obtain ⟨z', c2, e2⟩ := h2 k (by have := HX.out; omega)
      rw [e1] at e2
      cases e2
      have k0 : (0 : Int) ≤ (k : Int) := by omega
      have k1 : (k : Int) < (n : Int) := by omega
      clear h1 h2 e1
      go_wp2_with fail
      go_quiet (fail)
      go_wp2
      go_roundw
      case rel => exact ⟨k + 1, _, by omega, by go_num, Lib.hid rfl⟩
      case measure => simp [intOf]; omega
    · obtain rfl : k = n := by omega
      go_wp2_with fail
      go_ret
      exact ⟨rfl, nq, rfl⟩
end Go.Proofs.Ytlpnaacagbgnkaa.CRank
