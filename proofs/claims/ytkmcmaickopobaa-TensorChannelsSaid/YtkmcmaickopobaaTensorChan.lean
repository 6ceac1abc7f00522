/- Contracts of layer 5: channels, the document's own ends, sequences. -/
import Derived.Test.YtkmcmaickopobaaTensorKnown
import Derived.Test.YtkmcmaickopobaaTensorFill
import Derived.Deep.QuietTactic
import Derived.BigQuiet
namespace Go.Proofs.Ytkmcmaickopobaa.CTensor
open Go Go.ChangeShapes Go.WideShapes Go.ChangeAt Go.RowKit
open Plain CSat CShape CSeq
set_option linter.unusedVariables false

theorem pairs_snoc {zs : List Int} {k : Nat} (h : k < zs.length) : pairs zs (k + 1) = pairs zs k ++ [(k, zs[k])] := by
  unfold pairs
  rw [upto_succ]
  simp [h]
/-- a channel's numbers. -/
def chan (C c : Int) (l : List (Nat × Int)) : List Int := (l.filter fun p => decide ((p.1 : Int) % C = c)).map (·.2)
theorem chan_hit {C c : Int} {l : List (Nat × Int)} {k : Nat} {z : Int} (h : (k : Int) % C = c) : chan C c (l ++ [(k, z)]) = chan C c l ++ [z] := by
  simp [chan, h]
theorem chan_miss {C c : Int} {l : List (Nat × Int)} {k : Nat} {z : Int} (h : ¬ (k : Int) % C = c) : chan C c (l ++ [(k, z)]) = chan C c l := by
  simp [chan, h]
theorem chan_len (C c : Int) (l : List (Nat × Int)) : (chan C c l).length ≤ l.length := by
  unfold chan; rw [List.length_map]; exact List.length_filter_le _ _
theorem chan_none {C c : Int} (hC : 1 ≤ C) (h : c < 0 ∨ C ≤ c) (l : List (Nat × Int)) : chan C c l = [] := by
  unfold chan
  rw [List.map_eq_nil_iff, List.filter_eq_nil_iff]
  intro p _
  have h1 := Int.emod_nonneg (p.1 : Int) (show C ≠ 0 by omega)
  have h2 := Int.emod_lt_of_pos (p.1 : Int) (show 0 < C by omega)
  simp; omega
def chanOf (H W C : Int) (n : Nat) (c : Int) (zs : List Int) : List Int := if tensB H W C n then chan C c (pairs zs n) else []
theorem pairs_len (zs : List Int) (n : Nat) : (pairs zs n).length = n := by unfold pairs; rw [upto_length]

/-! ### the document's ends -/
def refSt (zs : List Int) (z : Int) (k : Nat) : Int × Int := if k = 0 then (z, z) else reachF (pairs zs k)
theorem refSt_next {zs : List Int} {z lo hi : Int} {k : Nat} (h : k < zs.length) (hz : ∀ h0 : 0 < zs.length, zs[0] = z) (hs : refSt zs z k = (lo, hi)) : refSt zs z (k + 1) = (min lo zs[k], max hi zs[k]) := by
  unfold refSt
  rw [if_neg (by omega), pairs_snoc h, reachF_snoc]
  unfold refSt at hs
  by_cases h0 : k = 0
  · subst h0
    rw [if_pos rfl] at hs
    cases hs
    rw [hz h]
    simp [stepR]
  · rw [if_neg h0] at hs
    rw [hs]
    simp [stepR, h0]
theorem refReach_to (A : Option Addr) (zs : List Int) (n c : Nat) (hn : zs.length = n) (hl : n ≤ 1000000) (lo hi : Int) (hlo : reachF (pairs zs n) = (lo, hi)) (w : World) {B : Nat} (hr : Kit.Rd w B A (zs.map (.int .i8))) :
    Calls Try.prog 20 #[.slice A n c] w fun e w' => e = .returned (.tuple #[.int .i8 lo, .int .i8 hi]) ∧ ∃ m, w' = w.drewN m := by
  subst hn
  cases zs with
  | nil =>
    have h0 : (0, 0) = (lo, hi) := hlo
    cases h0
    clear hr hlo
    go_enter Try.func20, Try.ntmps20
    go_wp2_with fail
    go_ret2
    exact ⟨rfl, 0, rfl⟩
  | cons z zs =>
    have HR := Lib.hid hr
    have HLO := Lib.hid hlo
    obtain ⟨b0, off0, rfl, _, hc0⟩ := hr.ints (j := 0) (by simp)
    have hc1 : w.cell? ⟨b0, off0, none⟩ = some (.int .i8 z) := hc0
    obtain ⟨N, hN⟩ : ∃ N, (z :: zs).length = N := ⟨_, rfl⟩
    rw [hN]
    have hN1 : 1 ≤ N := by rw [← hN]; simp
    have hNI : (1 : Int) ≤ (N : Int) := by omega
    have hN0 : ((N : Int) == 0) = false := by simp; omega
    rw [hN] at hl
    have HN := Lib.hid hN
    clear hr hlo hc0 hN
    go_enter Try.func20, Try.ntmps20
    go_wp2_with fail
    go_quiet (fail)
    go_wp2_with fail
    go_loopw [4, 5, 6] (fun a b i wr => ∃ (k m : Nat) (l h : Int), k ≤ N ∧ i = .int .i64 k ∧ a = .int .i8 l ∧ b = .int .i8 h ∧ Hid (refSt (z :: zs) z k = (l, h)) ∧ Hid (wr = w.drewN m)) (fun _ _ i _ => N - (intOf i).toNat)
    case atStart => exact ⟨0, _, z, z, Nat.zero_le _, rfl, rfl, rfl, Lib.hid rfl, Lib.hid rfl⟩
    case round =>
      obtain ⟨k, m, l, h, hk, rfl, rfl, rfl, hst, hw⟩ := hrel
      obtain rfl := hw.out
      clear hw hc1
      by_cases hlt : k < N
      · have hx1 : k < (z :: zs).length := by have := HN.out; omega
        obtain ⟨b1, off1, e1, _, hcx⟩ := HR.out.ints hx1
        cases e1
        have hnx := refSt_next hx1 (fun _ => rfl) hst.out
        generalize (z :: zs)[k] = x at hcx hnx
        have hmn : ∃ m, min l x = m ∧ ((l ≤ x ∧ ¬ x < l ∧ m = l) ∨ (x < l ∧ ¬ l ≤ x ∧ m = x)) := ⟨_, rfl, by omega⟩
        have hmx : ∃ m, max h x = m ∧ ((h < x ∧ ¬ x ≤ h ∧ m = x) ∨ (x ≤ h ∧ ¬ h < x ∧ m = h)) := ⟨_, rfl, by omega⟩
        obtain ⟨m1, hm1, hmn⟩ := hmn
        obtain ⟨m2, hm2, hmx⟩ := hmx
        rw [hm1, hm2] at hnx
        have HNX := Lib.hid hnx
        have hkI : (k : Int) < (N : Int) := by omega
        have hkJ : (0 : Int) ≤ (k : Int) := by omega
        clear hm1 hm2 hnx hst HLO
        rcases hmn with ⟨q1, q2, rfl⟩ | ⟨q1, q2, rfl⟩ <;> rcases hmx with ⟨q3, q4, rfl⟩ | ⟨q3, q4, rfl⟩
        all_goals
          go_wp2_with fail
          go_roundw
          case rel => exact ⟨k + 1, m, _, _, by omega, by go_num, rfl, rfl, HNX, Lib.hid rfl⟩
          case measure => simp [intOf]; omega
      · obtain rfl : k = N := by omega
        have he : (l, h) = (lo, hi) := by
          have h1 := hst.out
          unfold refSt at h1
          rw [if_neg (by omega)] at h1
          rw [← h1, ← HLO.out, HN.out]
        cases he
        go_wp2_with fail
        go_ret2
        exact ⟨rfl, m, rfl⟩
theorem each_to (H W C : Int) (A : Option Addr) (zs : List Int) (n c : Nat) (hn : zs.length = n) (hl : n ≤ 1000000) {B : Nat} (w : World) (hB : B ≤ w.heap.size) (hr : Kit.Rd w B A (zs.map (.int .i8))) :
    Calls Try.prog 21 #[.agg #[.int .i64 H, .int .i64 W, .int .i64 C, .slice A n c]] w fun e w' => ∃ (w1 : World) (A1 : Option Addr) (c1 : Nat), e = .returned (.func (.func 38) #[] #[.pointer (some ⟨w1.heap.size, 0, none⟩)]) ∧ w' = w1.alloc (.cells #[.slice A1 n c1] 24) ∧ Kit.Rd w1 w1.heap.size A1 (zs.map (.int .i8)) ∧ Below w.heap.size w w1 ∧ (∀ ad, A1 = some ad → w.heap.size ≤ ad.block) := by
  have HN := Lib.hid hn
  have HR := Lib.hid hr
  clear hn hr
  go_enter Try.func21, Try.ntmps21
  go_wp2_with (first
    | (go_at_call 33
       refine (sclone A zs n c HN.out hl (B := B) _ (by simp; omega) (HR.out.alloc hB _)).mono ?_
       rintro e w1 ⟨v1, rfl, ho1, hb1⟩
       obtain ⟨A1, c1, rfl, -, -, hr1⟩ := Kit.own_rd ho1
       have RA := Lib.hid hr1
       have HG : Hid (∀ ad, A1 = some ad → w.heap.size ≤ ad.block) := Lib.hid (fun ad h => by have := Kit.own_block_ge ho1 ad.block (by subst h; rfl); simp at this; omega)
       have HB := Lib.hid (((Below.refl _ _).alloc (Nat.le_refl _) (.cells #[.int .i64 H, .int .i64 W, .int .i64 C, .slice A n c] 28)).trans (hb1.mono (by simp)))
       clear ho1 hr1 hb1)
    | (go_at_call 32
       refine (callsIn_wide.1 (numbers_in Fence.wide 3 trivial rfl A1 n c1 w1)).mono ?_
       rintro e w2 ⟨rfl, rfl⟩))
  go_ret
  exact ⟨w1, A1, c1, rfl, rfl, RA.out, HB.out, HG.out⟩

/-! ### the document's channel -/
theorem refChan_out (H W C c : Int) (A : Option Addr) (n cap : Nat) (hno : n = 0 ∨ tensB H W C n = false ∨ (c < 0 ∨ C ≤ c)) (w : World) :
    Calls Try.prog 24 #[.agg #[.int .i64 H, .int .i64 W, .int .i64 C, .slice A n cap], .int .i64 c] w fun e w' => e = .returned (.slice none 0 0) ∧ Below w.heap.size w w' := by
  have hb : BoxAt w.heap.size H W C A n cap (w.alloc (.cells #[.int .i64 H, .int .i64 W, .int .i64 C, .slice A n cap] 28)) := BoxAt.new H W C A n cap 28 w
  by_cases h0 : n = 0
  · subst h0
    clear hno
    go_enter Try.func24, Try.ntmps24
    go_wp2_with fail
    go_loopw [5, 6] (fun v i wr => v = .slice none 0 0 ∧ i = .int .i64 0 ∧ Hid (wr = w.alloc (.cells #[.int .i64 H, .int .i64 W, .int .i64 C, .slice A 0 cap] 28))) (fun _ _ _ => 0)
    case atStart => exact ⟨rfl, rfl, Lib.hid rfl⟩
    case round =>
      obtain ⟨rfl, rfl, hw⟩ := hrel
      obtain rfl := hw.out
      go_wp2_with fail
      go_ret
      exact ⟨rfl, (Below.refl _ _).alloc (Nat.le_refl _) _⟩
  · have hn0 : (0 : Int) < (n : Int) := by omega
    obtain ⟨b, hT⟩ : ∃ b, tensB H W C n = b := ⟨_, rfl⟩
    have HT := Lib.hid hT
    have hcase : b = false ∨ (b = true ∧ decide (0 ≤ c) = false) ∨ (b = true ∧ decide (0 ≤ c) = true ∧ decide (c < C) = false) := by
      cases b
      · exact .inl rfl
      · rcases hno with h | h | h
        · exact absurd h h0
        · rw [hT] at h; cases h
        · by_cases hc : 0 ≤ c
          · exact .inr (.inr ⟨rfl, by simpa using hc, by simp; omega⟩)
          · exact .inr (.inl ⟨rfl, by simpa using hc⟩)
    clear hno hT
    rcases hcase with rfl | ⟨rfl, hc1⟩ | ⟨rfl, hc1, hc2⟩
    all_goals
      go_enter Try.func24, Try.ntmps24
      go_wp2_with fail
      go_loopw [5, 6] (fun v i wr => v = .slice none 0 0 ∧ i = .int .i64 0 ∧ Hid (wr = w.alloc (.cells #[.int .i64 H, .int .i64 W, .int .i64 C, .slice A n cap] 28))) (fun _ _ _ => 0)
      case atStart => exact ⟨rfl, rfl, Lib.hid rfl⟩
      case round =>
        obtain ⟨rfl, rfl, hw⟩ := hrel
        obtain rfl := hw.out
        clear hw
        go_wp2_with (
          go_at_call 7
          with_reducible refine (refRight_to H W C A n cap _ HT.out _).mono ?_
          rintro e w1 ⟨rfl, hb1⟩
          obtain ⟨s1, s2, s3, s4⟩ := hb.below (by simp) hb1
          have HB := Lib.hid (((Below.refl _ _).alloc (Nat.le_refl _) (.cells #[.int .i64 H, .int .i64 W, .int .i64 C, .slice A n cap] 28)).trans (hb1.mono (by simp)))
          clear hb1)
        go_ret
        exact ⟨rfl, HB.out⟩
set_option maxHeartbeats 2000000 in
theorem refChan_in (H W C c : Int) (A : Option Addr) (zs : List Int) (n cap : Nat) (hn : zs.length = n) (hl : n ≤ 1000000) (ht : tensB H W C n = true) (hc0 : 0 ≤ c) (hc1 : c < C) {B : Nat} (w : World) (hB : B ≤ w.heap.size) (hr : Kit.Rd w B A (zs.map (.int .i8))) :
    Calls Try.prog 24 #[.agg #[.int .i64 H, .int .i64 W, .int .i64 C, .slice A n cap], .int .i64 c] w (Owned w (chan C c (pairs zs n)).length (I8s (chan C c (pairs zs n)))) := by
  have hb : BoxAt w.heap.size H W C A n cap (w.alloc (.cells #[.int .i64 H, .int .i64 W, .int .i64 C, .slice A n cap] 28)) := BoxAt.new H W C A n cap 28 w
  have HBX := Lib.hid hb
  have HN := Lib.hid hn
  have HT := Lib.hid ht
  have HR := Lib.hid hr
  have hd1 : decide (0 ≤ c) = true := by simpa using hc0
  have hd2 : decide (c < C) = true := by simpa using hc1
  have hC0 : ¬ C = 0 := by omega
  clear hb hn ht hr
  obtain ⟨i0, hi0, hi1, hi2, hi3⟩ := info_parts info_i8
  go_enter Try.func24, Try.ntmps24
  go_wp2_with fail
  go_loopw [5, 6] (fun v i wr => ∃ (k : Nat) (u : Value), k ≤ n ∧ i = .int .i64 k ∧ v = u ∧ Hid (wr.ownsRow (w.heap.size + 1) 25 1 u (chan C c (pairs zs k)).length (I8s (chan C c (pairs zs k)))) ∧ Hid (BoxAt w.heap.size H W C A n cap wr ∧ Below w.heap.size w wr ∧ w.heap.size + 1 ≤ wr.heap.size)) (fun _ i _ => n - (intOf i).toNat)
  case atStart => exact ⟨0, _, Nat.zero_le _, rfl, rfl, Lib.hid ⟨by simp [I8s, chan, pairs, upto], .inl ⟨rfl, rfl⟩⟩, Lib.hid ⟨HBX.out, (Below.refl _ _).alloc (Nat.le_refl _) _, by simp⟩⟩
  case round =>
    obtain ⟨k, u, hk, rfl, rfl, hO, hF⟩ := hrel
    clear HBX
    have hlen : (chan C c (pairs zs k)).length ≤ 1000000 := Nat.le_trans (chan_len C c _) (by rw [pairs_len]; omega)
    generalize hxs : chan C c (pairs zs k) = xs at hO hlen
    have HXS := Lib.hid hxs
    clear hxs
    obtain ⟨L, hL⟩ : ∃ L, xs.length = L := ⟨_, rfl⟩
    rw [hL] at hO hlen
    have HL := Lib.hid hL
    clear hL
    obtain ⟨Au, cu, rfl, -, -, -⟩ := Kit.own_rd hO.out
    obtain ⟨⟨s1, s2, s3, s4⟩, -, hz⟩ := hF.out
    by_cases hlt : k < n
    · have hkI : (k : Int) < (n : Int) := by omega
      have hkJ : (0 : Int) ≤ (k : Int) := by omega
      have hx1 : k < zs.length := by have := HN.out; omega
      obtain ⟨b1, off1, rfl, hbB, hcx⟩ := HR.out.ints hx1
      have hps := pairs_snoc hx1
      generalize hzk : zs[k] = x at hcx hps
      have hcx2 := Lib.hid hcx
      clear hcx hzk
      obtain ⟨r, hrm⟩ : ∃ r, (k : Int) % C = r := ⟨_, rfl⟩
      have htm : (k : Int).tmod C = r := by rw [Int.tmod_eq_emod_of_nonneg hkJ]; exact hrm
      have HPS := Lib.hid hps
      have HRM := Lib.hid hrm
      clear hps hrm
      by_cases he : r = c
      · have HE := Lib.hid he
        have hee : (r == c) = true := by simpa using he
        have hnext : chan C c (pairs zs (k + 1)) = xs ++ [x] := by
          rw [HPS.out, chan_hit (by rw [HRM.out, he]), HXS.out]
        have HNX := Lib.hid hnext
        clear he hnext
        go_wp2_with (first
          | (go_at_call 7
             with_reducible refine (refRight_to H W C _ n cap _ HT.out _).mono ?_
             rintro e w1 ⟨rfl, hb1⟩
             have hbx1 := hF.out.1.below (by omega) hb1
             have HO1 := Lib.hid (Kit.own_below hO.out hb1)
             have HB1 := Lib.hid (hF.out.2.1.trans (hb1.mono (by omega)))
             have hz1 : w.heap.size + 1 ≤ w1.heap.size := Nat.le_trans hz hb1.size
             have HBX1 := Lib.hid hbx1
             have hcx := (HB1.out.cell (p := ⟨b1, off1 + k, none⟩) (by simp; omega)).trans hcx2.out
             clear s1 s2 s3 s4 hb1
             obtain ⟨s1, s2, s3, s4⟩ := hbx1)
          | (at_builtin
             refine Kit.wpList_append_rd _ rfl (.tmp 36) (.tmp 42) _ rfl (w.heap.size + 1) 25 i0 (.int .i8 0) 1 1 Try.underlying24 hi0 hi1 hi2 hi3 rfl (by decide) _ L (I8s xs) rfl (HO1.out.alloc _) _ _ 1 1 [.int .i8 x] rfl rfl (Kit.Rd.new _ _ _ (Nat.lt_succ_self _)) (Kit.ints_one .i8 [x]) (by unfold maxLen; omega) (by omega) (by simp; omega) ?_
             intro v2 w2 hown2 hg2 hat2
             obtain ⟨A2, c2, rfl, -, -, -⟩ := Kit.own_rd hown2
             have hB : Below (w.heap.size + 1) w1 w2 := ((Below.refl _ _).alloc hz1 _).grown hg2 (by simp; omega) (fun q hq => Kit.own_block_ge HO1.out q hq)
             have HO3 : Hid (w2.ownsRow (w.heap.size + 1) 25 1 (.slice A2 (L + 1) c2) (chan C c (pairs zs (k + 1))).length (I8s (chan C c (pairs zs (k + 1))))) := by
               rw [HNX.out]
               have e1 : (xs ++ [x]).length = L + 1 := by simp [HL.out]
               have e2 : I8s (xs ++ [x]) = I8s xs ++ [.int .i8 x] := by simp [I8s]
               rw [e1, e2]
               exact Lib.hid hown2
             have HF3 : Hid (BoxAt w.heap.size H W C _ n cap w2 ∧ Below w.heap.size w w2 ∧ w.heap.size + 1 ≤ w2.heap.size) := Lib.hid ⟨HBX1.out.below (by omega) hB, HB1.out.trans (hB.mono (by omega)), Nat.le_trans hz1 hB.size⟩
             clear hown2 hg2 hat2 hB))
        go_roundw
        case rel => exact ⟨k + 1, _, by omega, by go_num, rfl, HO3, HF3⟩
        case measure => simp [intOf]; omega
      · have hee : (r == c) = false := by simpa using he
        have hnext : chan C c (pairs zs (k + 1)) = xs := by
          rw [HPS.out, chan_miss (by rw [HRM.out]; exact he), HXS.out]
        have HNX := Lib.hid hnext
        clear he hnext
        go_wp2_with (
          go_at_call 7
          with_reducible refine (refRight_to H W C _ n cap _ HT.out _).mono ?_
          rintro e w1 ⟨rfl, hb1⟩
          have hbx1 := hF.out.1.below (by omega) hb1
          have HO1 : Hid (w1.ownsRow (w.heap.size + 1) 25 1 (.slice Au L cu) (chan C c (pairs zs (k + 1))).length (I8s (chan C c (pairs zs (k + 1))))) := by
            rw [HNX.out, HL.out]
            exact Lib.hid (Kit.own_below hO.out hb1)
          have HF3 : Hid (BoxAt w.heap.size H W C _ n cap w1 ∧ Below w.heap.size w w1 ∧ w.heap.size + 1 ≤ w1.heap.size) := Lib.hid ⟨hbx1, hF.out.2.1.trans (hb1.mono (by omega)), Nat.le_trans hz hb1.size⟩
          clear s1 s2 s3 s4 hb1
          obtain ⟨s1, s2, s3, s4⟩ := hbx1)
        go_roundw
        case rel => exact ⟨k + 1, _, by omega, by go_num, rfl, HO1, HF3⟩
        case measure => simp [intOf]; omega
    · obtain rfl : k = n := by omega
      go_wp2_with fail
      go_ret
      refine ⟨_, rfl, ?_, hF.out.2.1⟩
      rw [HXS.out, HL.out]
      exact Kit.own_base hO.out (by omega)
end Go.Proofs.Ytkmcmaickopobaa.CTensor
