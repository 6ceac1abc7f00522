/- Layer 22 (rank), the document: the best, the margin. -/
import Derived.Test.YtmnhcmkcdchmkaaRankRef
namespace Go.Proofs.Ytmnhcmkcdchmkaa.CRank
open Go Go.ChangeShapes Go.WideShapes Go.ChangeAt Go.RowKit
open Plain
set_option linter.unusedVariables false

set_option maxRecDepth 100000 in
set_option maxHeartbeats 2000000 in
theorem refBest_to (G : Nat → Int) (n : Nat) (hn : n ≤ 60) (A : Option Addr) (c : Nat) (R : Int) (hR : grF G (-1) n = R) (w : World) {B : Nat} (hr : Kit.Rd w B A (I32v (rowL G n))) :
    Calls Try.prog 18 #[.slice A n c] w fun e w' => e = .returned (.int .i64 R) ∧ ∃ m, w' = w.drewN m := by
  cases n with
  | zero =>
    obtain rfl : -1 = R := hR
    go_enter Try.func18, Try.ntmps18
    go_wp2_with fail
    go_loopw [3] (fun u wr => u = .int .i64 0 ∧ Hid (wr = w)) (fun u _ => 0)
    case atStart => exact ⟨rfl, Lib.hid rfl⟩
    case round =>
      obtain ⟨rfl, hw⟩ := hrel
      obtain rfl := hw.out
      clear hw
      go_wp2_with fail
      go_ret
      exact ⟨rfl, 0, rfl⟩
  | succ n =>
    obtain ⟨b, hb, hg, hz, hp⟩ := grF_zero G n
    obtain rfl := hg.symm.trans hR
    generalize hM : n + 1 = M at *
    have hb1 : b < M := by omega
    have HP := Lib.hid hp
    have HZ := Lib.hid hz
    have HA := Lib.hid hr
    clear hp hz hr hg hM hR
    go_enter Try.func18, Try.ntmps18
    go_wp2_with fail
    go_loopw [3] (fun u wr => ∃ k nq : Nat, k ≤ b ∧ u = .int .i64 k ∧ Hid (wr = w.drewN nq)) (fun u _ => M - (intOf u).toNat)
    case atStart => exact ⟨0, 0, Nat.zero_le _, rfl, Lib.hid rfl⟩
    case round =>
      obtain ⟨k, nq, hk, rfl, hw⟩ := hrel
      have hk1 : k < M := by omega
      have k0 : (0 : Int) ≤ (k : Int) := by omega
      have k1 : (k : Int) < (M : Int) := by omega
      obtain ⟨p, hp⟩ : ∃ p, placeN G k M = p := ⟨_, rfl⟩
      have hc := refPlace_yes G M hn A c k hk1 p hp wr (B := B) (by rw [hw.out]; exact HA.out)
      have HC := Lib.hid hc
      clear hc
      by_cases e : k = b
      · subst e
        obtain rfl : p = 0 := hp.symm.trans HZ.out
        clear hp
        go_wp2_with (go_at_call 27; (refine HC.out.mono ?_); rintro e w1 ⟨rfl, m, hm⟩)
        go_ret
        exact ⟨rfl, nq + m, by rw [hw.out, World.drewN_drewN]⟩
      · have hpos := HP.out k hk1 e
        rw [hp] at hpos
        have p1 : ((p : Int) == 0) = false := by simp; omega
        have p2 : ¬ (p : Int) = 0 := by omega
        clear hp
        go_wp2_with (go_at_call 27; (refine HC.out.mono ?_); rintro e w1 ⟨rfl, m, hm⟩)
        go_roundw
        case rel => exact ⟨k + 1, nq + m, by omega, by go_num, Lib.hid (by rw [hw.out, World.drewN_drewN])⟩
        case measure => simp [intOf]; omega
set_option maxRecDepth 100000 in
set_option maxHeartbeats 4000000 in
theorem refMargin_to (G : Nat → Int) (hb : I32b G) (n : Nat) (hn : n ≤ 60) (A : Option Addr) (c : Nat) (R : Int) (hR : margF G n = R) (w : World) {B : Nat} (hr : Kit.Rd w B A (I32v (rowL G n))) :
    Calls Try.prog 17 #[.slice A n c] w fun e w' => e = .returned (.int .i64 R) ∧ ∃ m, w' = w.drewN m := by
  rcases Nat.lt_or_ge n 2 with h2 | h2
  · obtain rfl : 0 = R := (margF_few h2).symm.trans hR
    have h3 : (n : Int) < 2 := by omega
    go_enter Try.func17, Try.ntmps17
    go_wp2_with fail
    go_ret
    exact ⟨rfl, 0, rfl⟩
  · obtain ⟨m, rfl⟩ : ∃ m, n = m + 1 := ⟨n - 1, by omega⟩
    obtain ⟨b, hb1, hg, -⟩ := grF_best G m
    obtain ⟨q, hq, hgq⟩ := grF_second G (b := b) h2
    have e := margF_yes hg hgq
    rw [hR] at e
    have h1 := refBest_to G (m + 1) hn A c b hg w hr
    have hb2 : b < m + 1 := by omega
    generalize m + 1 = M at *
    have HR := Lib.hid e
    have HQ := Lib.hid hgq
    have HA := Lib.hid hr
    have HB := Lib.hid hb
    have H1 := Lib.hid h1
    have h3 : ¬ (M : Int) < 2 := by omega
    obtain ⟨b9, o, rfl, -, hc⟩ := rd32 hr (by omega)
    have HC := Lib.hid hc
    clear hR hg hgq hr hb e h1 hc
    go_enter Try.func17, Try.ntmps17
    go_wp2_with (go_at_call 18; (refine H1.out.mono ?_); rintro e w1 ⟨rfl, m1, hm⟩)
    have HM := Lib.hid hm
    clear hm h3
    go_loopw [4, 5] (fun s u wr => ∃ k nq : Nat, k ≤ M ∧ u = .int .i64 k ∧ s = .int .i64 (grF G b k) ∧ Hid (wr = w.drewN nq)) (fun _ u _ => M - (intOf u).toNat)
    case atStart => exact ⟨0, m1, Nat.zero_le _, rfl, rfl, Lib.hid rfl⟩
    case round =>
      obtain ⟨k, nq, hk, rfl, rfl, hw⟩ := hrel
      obtain rfl := hw.out
      clear hw
      by_cases hlt : k < M
      · have hck := HC.out k hlt
        have k0 : (0 : Int) ≤ (k : Int) := by omega
        have k1 : (k : Int) < (M : Int) := by omega
        by_cases ho : k = b
        · have hnext := Lib.hid (grF_out (G := G) (O := (b : Int)) (k := k) (by omega))
          have o1 : ((k : Int) != (b : Int)) = false := by simp [ho]
          have o2 : ((k : Int) == (b : Int)) = true := by simp [ho]
          generalize grF G (b : Int) k = r at hnext ⊢
          generalize G k = x at hck
          clear ho
          go_wp2_with fail
          go_quiet (fail)
          go_wp2
          go_roundw
          case rel => exact ⟨k + 1, _, by omega, by go_num, congrArg _ hnext.out.symm, Lib.hid rfl⟩
          case measure => simp [intOf]; omega
        · have ho' : (k : Int) ≠ (b : Int) := by omega
          have o1 : ((k : Int) != (b : Int)) = true := by simp [ho']
          have o2 : ((k : Int) == (b : Int)) = false := by simp [ho']
          rcases grF_form G (b : Int) k with h2 | ⟨q', hq', h2, -⟩
          · have hnext := Lib.hid (grF_first (G := G) ho' h2)
            rw [h2]
            generalize G k = x at hck
            clear ho ho' h2
            go_wp2_with fail
            go_quiet (fail)
            go_wp2
            go_roundw
            case rel => exact ⟨k + 1, _, by omega, by go_num, congrArg _ hnext.out.symm, Lib.hid rfl⟩
            case measure => simp [intOf]; omega
          · have hcq := HC.out q' (by omega)
            have q0 : (0 : Int) ≤ (q' : Int) := by omega
            have q1 : (q' : Int) < (M : Int) := by omega
            have q2 : ¬ (q' : Int) < 0 := by omega
            rcases Int.lt_or_le (G q') (G k) with h3 | h3
            · have hnext := Lib.hid (grF_more (G := G) ho' h2 h3)
              rw [h2]
              generalize G k = x at hck h3
              generalize G q' = y at hcq h3
              clear ho ho' h2
              go_wp2_with fail
              go_quiet (fail)
              go_wp2
              go_roundw
              case rel => exact ⟨k + 1, _, by omega, by go_num, congrArg _ hnext.out.symm, Lib.hid rfl⟩
              case measure => simp [intOf]; omega
            · have hnext := Lib.hid (grF_less (G := G) (O := (b : Int)) h2 h3)
              rw [h2]
              generalize G k = x at hck h3
              generalize G q' = y at hcq h3
              clear ho ho' h2
              go_wp2_with fail
              go_quiet (fail)
              go_wp2
              go_roundw
              case rel => exact ⟨k + 1, _, by omega, by go_num, congrArg _ hnext.out.symm, Lib.hid rfl⟩
              case measure => simp [intOf]; omega
      · obtain rfl : k = M := by omega
        rw [HQ.out]
        have c1 := HC.out b hb2
        have c2 := HC.out q hq
        obtain ⟨x1, x2⟩ := HB.out b
        obtain ⟨y1, y2⟩ := HB.out q
        have HR := Lib.hid HR.out
        have b0 : (0 : Int) ≤ (b : Int) := by omega
        have b1 : (b : Int) < (k : Int) := by omega
        have q0 : (0 : Int) ≤ (q : Int) := by omega
        have q1 : (q : Int) < (k : Int) := by omega
        generalize G b = x at *
        generalize G q = y at *
        have e1 : IntKind.i64.wrap x = x := IntWalk.i64_in _ (by omega)
        have e2 : IntKind.i64.wrap y = y := IntWalk.i64_in _ (by omega)
        have e3 : IntKind.i64.wrap (x - y) = x - y := IntWalk.i64_in _ (by omega)
        go_wp2_with fail
        go_quiet (fail)
        go_wp2
        go_ret
        exact ⟨congrArg (fun z => Ending.returned (.int .i64 z)) HR.out.symm, _, World.drewN_drewN _ _ _⟩
end Go.Proofs.Ytmnhcmkcdchmkaa.CRank
