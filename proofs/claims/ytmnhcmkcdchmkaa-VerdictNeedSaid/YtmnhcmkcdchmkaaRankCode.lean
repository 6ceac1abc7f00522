/- Layer 22 (rank): the greatest number, its margin; the document's place, best, margin. -/
import Derived.Test.YtmnhcmkcdchmkaaRankNum
import Derived.Test.YtmnhcmkcdchmkaaKit
import Derived.Test.YtmnhcmkcdchmkaaProg
import Derived.IntWalk
import Derived.BigQuiet
namespace Go.Proofs.Ytmnhcmkcdchmkaa.CRank
open Go Go.ChangeShapes Go.WideShapes Go.ChangeAt Go.RowKit
open Plain
set_option linter.unusedVariables false

def I32v (zs : List Int) : List Value := zs.map (.int .i32)
theorem rowL_self (zs : List Int) : rowL (fun i => zs.getD i 0) zs.length = zs := by
  refine List.ext_getElem (by simp [rowL]) fun i h1 h2 => ?_
  simp [rowL, List.getD_eq_getElem?_getD, List.getElem?_eq_getElem h2]
theorem rd32 {w : World} {B : Nat} {A : Option Addr} {G : Nat → Int} {n : Nat} (h : Kit.Rd w B A (I32v (rowL G n))) (hn : 0 < n) :
    ∃ b o, A = some ⟨b, o, none⟩ ∧ b < B ∧ ∀ k, k < n → w.cell? ⟨b, o + k, none⟩ = some (.int .i32 (G k)) := by
  obtain ⟨b, o, e, hb, hc⟩ := h.plain (by simp [I32v, rowL]; exact hn)
  exact ⟨b, o, e, hb, fun k hk => hc k _ (by simp [I32v, rowL_at G hk])⟩
set_option maxRecDepth 100000 in
set_option maxHeartbeats 2000000 in
theorem greatest_to (G : Nat → Int) (n : Nat) (hn : n ≤ 60) (A : Option Addr) (c : Nat) (O : Int) (R : Int) (hR : grF G O n = R) (w : World) {B : Nat} (hr : Kit.Rd w B A (I32v (rowL G n))) :
    Calls Try.prog 31 #[.slice A n c, .int .i64 O] w fun e w' => e = .returned (.int .i64 R) ∧ w = w' := by
  have HR := Lib.hid hR
  have HA := Lib.hid hr
  clear hR hr
  go_enter Try.func31, Try.ntmps31
  go_wp2_with fail
  go_loopw [5, 10] (fun s u wr => ∃ k : Nat, k ≤ n ∧ u = .int .i64 k ∧ s = .int .i64 (grF G O k) ∧ Hid (wr = w)) (fun _ u _ => n - (intOf u).toNat)
  case atStart => exact ⟨0, Nat.zero_le _, rfl, rfl, Lib.hid rfl⟩
  case round =>
    obtain ⟨k, hk, rfl, rfl, hw⟩ := hrel
    obtain rfl := hw.out
    clear hw
    by_cases hlt : k < n
    · obtain ⟨b, o, rfl, -, hc⟩ := rd32 HA.out (by omega)
      have hck := hc k hlt
      have h0 : (0 : Int) ≤ (k : Int) := by omega
      have h1 : (k : Int) < (n : Int) := by omega
      by_cases ho : (k : Int) = O
      · have hnext := Lib.hid (grF_out (G := G) ho)
        have o1 : ((k : Int) != O) = false := by simp [ho]
        have o2 : ((k : Int) == O) = true := by simp [ho]
        generalize grF G O k = r at hnext ⊢
        generalize G k = x at hck
        clear hc ho
        go_wp2_with fail
        go_roundw
        case rel => exact ⟨k + 1, by omega, by go_num, congrArg _ hnext.out.symm, Lib.hid (by first | trivial | rfl)⟩
        case measure => simp [intOf]; omega
      · have o1 : ((k : Int) != O) = true := by simp [ho]
        have o2 : ((k : Int) == O) = false := by simp [ho]
        rcases grF_form G O k with h2 | ⟨q, hq, h2, -⟩
        · have hnext := Lib.hid (grF_first (G := G) ho h2)
          rw [h2]
          generalize G k = x at hck
          clear hc ho h2
          go_wp2_with fail
          go_roundw
          case rel => exact ⟨k + 1, by omega, by go_num, congrArg _ hnext.out.symm, Lib.hid (by first | trivial | rfl)⟩
          case measure => simp [intOf]; omega
        · have hcq := hc q (by omega)
          have q0 : (0 : Int) ≤ (q : Int) := by omega
          have q1 : (q : Int) < (n : Int) := by omega
          have q2 : ((q : Int) == -1) = false := by (first | (simp; done) | (simp; omega))
          have q3 : ¬ (q : Int) = -1 := by omega
          rcases Int.lt_or_le (G q) (G k) with h3 | h3
          · have hnext := Lib.hid (grF_more (G := G) ho h2 h3)
            rw [h2]
            generalize G k = x at hck h3
            generalize G q = y at hcq h3
            clear hc ho h2
            go_wp2_with fail
            go_roundw
            case rel => exact ⟨k + 1, by omega, by go_num, congrArg _ hnext.out.symm, Lib.hid (by first | trivial | rfl)⟩
            case measure => simp [intOf]; omega
          · have hnext := Lib.hid (grF_less (G := G) (O := O) h2 h3)
            rw [h2]
            generalize G k = x at hck h3
            generalize G q = y at hcq h3
            clear hc ho h2
            go_wp2_with fail
            go_roundw
            case rel => exact ⟨k + 1, by omega, by go_num, congrArg _ hnext.out.symm, Lib.hid (by first | trivial | rfl)⟩
            case measure => simp [intOf]; omega
    · obtain rfl : k = n := by omega
      rw [HR.out]
      go_wp2_with fail
      go_ret
      exact ⟨rfl, rfl⟩
set_option maxHeartbeats 1000000 in
theorem best_to (G : Nat → Int) (n : Nat) (hn : n ≤ 60) (A : Option Addr) (c : Nat) (R : Int) (hR : grF G (-1) n = R) (w : World) {B : Nat} (hr : Kit.Rd w B A (I32v (rowL G n))) :
    Calls Try.prog 24 #[.slice A n c] w fun e w' => e = .returned (.int .i64 R) ∧ w = w' := by
  have hg := greatest_to G n hn A c (-1) R hR w hr
  clear hR
  go_enter Try.func24, Try.ntmps24
  go_wp2_with (go_at_call 31; (refine hg.mono ?_); rintro e w1 ⟨rfl, rfl⟩)
  go_ret
  exact ⟨rfl, rfl⟩
def I32b (G : Nat → Int) : Prop := ∀ k, -2147483648 ≤ G k ∧ G k ≤ 2147483647
set_option maxRecDepth 100000 in
set_option maxHeartbeats 2000000 in
theorem margin_to (G : Nat → Int) (hb : I32b G) (n : Nat) (hn : n ≤ 60) (A : Option Addr) (c : Nat) (R : Int) (hR : margF G n = R) (w : World) {B : Nat} (hr : Kit.Rd w B A (I32v (rowL G n))) :
    Calls Try.prog 25 #[.slice A n c] w fun e w' => e = .returned (.int .i64 R) ∧ ∃ m, w' = w.drewN m := by
  rcases grF_form G (grF G (-1) n) n with h | ⟨q, hq, h, hqb⟩
  · have e : margF G n = 0 := by unfold margF; rw [if_pos h]
    obtain ⟨r, hr1⟩ : ∃ r, grF G (-1) n = r := ⟨_, rfl⟩
    rw [hr1] at h
    have h1 := best_to G n hn A c r hr1 w hr
    have h2 := greatest_to G n hn A c r (-1) h w hr
    obtain rfl : 0 = R := e.symm.trans hR
    clear hR e h hr1 hr
    go_enter Try.func25, Try.ntmps25
    go_wp2_with (first
      | (go_at_call 24; (refine h1.mono ?_); rintro e w1 ⟨rfl, rfl⟩)
      | (go_at_call 31; (refine h2.mono ?_); rintro e w1 ⟨rfl, rfl⟩))
    go_ret
    exact ⟨rfl, 0, rfl⟩
  · obtain ⟨m, rfl⟩ : ∃ m, n = m + 1 := ⟨n - 1, by omega⟩
    obtain ⟨b, hb1, hg, -⟩ := grF_best G m
    rw [hg] at h
    have e := margF_yes hg h
    rw [hR] at e
    have h1 := best_to G (m + 1) hn A c b hg w hr
    have h2 := greatest_to G (m + 1) hn A c b q h w hr
    obtain ⟨B1, o1, rfl, -, hc⟩ := rd32 hr (by omega)
    have c1 := hc b (by omega)
    have c2 := hc q (by omega)
    obtain ⟨x1, x2⟩ := hb b
    obtain ⟨y1, y2⟩ := hb q
    have b0 : (0 : Int) ≤ (b : Int) := by omega
    have b1 : (b : Int) < ((m + 1 : Nat) : Int) := by omega
    have q0 : (0 : Int) ≤ (q : Int) := by omega
    have q1 : (q : Int) < ((m + 1 : Nat) : Int) := by omega
    have q2 : ((q : Int) == -1) = false := by (first | (simp; done) | (simp; omega))
    have q3 : ¬ (q : Int) = -1 := by omega
    generalize m + 1 = M at *
    generalize G b = x at *
    generalize G q = y at *
    have e1 : IntKind.i64.wrap x = x := IntWalk.i64_in _ (by omega)
    have e2 : IntKind.i64.wrap y = y := IntWalk.i64_in _ (by omega)
    have e3 : IntKind.i64.wrap (x - y) = x - y := IntWalk.i64_in _ (by omega)
    have E := Lib.hid e
    clear hR hg h hr hc e hb hqb
    go_enter Try.func25, Try.ntmps25
    go_wp2_with (first
      | (go_at_call 24; (refine h1.mono ?_); rintro e w1 ⟨rfl, rfl⟩)
      | (go_at_call 31; (refine h2.mono ?_); rintro e w1 ⟨rfl, rfl⟩))
    go_quiet (fail)
    go_wp2
    go_ret
    exact ⟨congrArg (fun z => Ending.returned (.int .i64 z)) E.out.symm, _, rfl⟩
end Go.Proofs.Ytmnhcmkcdchmkaa.CRank
