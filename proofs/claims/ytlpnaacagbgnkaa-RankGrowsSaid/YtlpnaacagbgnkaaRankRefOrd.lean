/- Layer 22 (rank), the document: the order, place by place; the code: its beginning. -/
import Derived.Test.YtlpnaacagbgnkaaRankSame
namespace Go.Proofs.Ytlpnaacagbgnkaa.CRank
open Go Go.ChangeShapes Go.WideShapes Go.ChangeAt Go.RowKit
open Plain
set_option linter.unusedVariables false

theorem rows_bd {G : Nat → Int} {n k i : Nat} (hn : n ≤ 60) (hk : k < n) (hi : i ≤ n) : (refP G n k ++ rowP G n k i).length ≤ 3660 := by
  rw [List.length_append]
  have h1 := refP_len (G := G) (n := n) (k := k)
  have h2 := rowP_len (G := G) (n := n) (k := k) (i := i)
  have h3 : k * n ≤ 60 * 60 := Nat.mul_le_mul (by omega) hn
  omega
set_option maxRecDepth 100000 in
set_option maxHeartbeats 4000000 in
theorem refOrder_to (G : Nat → Int) (n : Nat) (hn : n ≤ 60) (A : Option Addr) (c : Nat) (w : World) (hr : Kit.Rd w w.heap.size A (I32v (rowL G n))) :
    Calls Try.prog 13 #[.slice A n c] w (Owned w 3 n (I64v (orderL G n))) := by
  have HA := Lib.hid hr
  clear hr
  go_enter Try.func13, Try.ntmps13
  obtain ⟨i0, hi0, hi1, hi2, hi3⟩ := info_parts info_int
  have HI := Lib.hid (And.intro hi0 (And.intro hi1 (And.intro hi2 hi3)))
  clear hi0 hi1 hi2 hi3
  go_wp2_with fail
  go_loopw [3, 4] (fun v u wr => ∃ (k : Nat) (xs : List Int), k ≤ n ∧ u = .int .i64 k ∧ Hid (xs = refP G n k) ∧ Hid (wr.ownsRow w.heap.size 3 1 v xs.length (I64v xs)) ∧ Hid (Below w.heap.size w wr)) (fun _ u _ => n - (intOf u).toNat)
  case atStart => exact ⟨0, [], Nat.zero_le _, rfl, Lib.hid rfl, Lib.hid ⟨rfl, .inl ⟨rfl, rfl⟩⟩, Lib.hid (Below.refl _ _)⟩
  case round =>
    obtain ⟨k, xs, hk, rfl, HX, HO, HB⟩ := hrel
    by_cases hlt : k < n
    · have k0 : (0 : Int) ≤ (k : Int) := by omega
      have k1 : (k : Int) < (n : Int) := by omega
      obtain ⟨wo, rfl⟩ : ∃ wo, wo = wr := ⟨_, rfl⟩
      go_wp2_with fail
      go_loopw [3, 5] (fun v u wr => ∃ (i : Nat) (xs : List Int), i ≤ n ∧ u = .int .i64 i ∧ Hid (xs = refP G n k ++ rowP G n k i) ∧ Hid (wr.ownsRow w.heap.size 3 1 v xs.length (I64v xs)) ∧ Hid (Below w.heap.size w wr)) (fun _ u _ => n - (intOf u).toNat)
      case atStart => exact ⟨0, xs, Nat.zero_le _, rfl, Lib.hid (by rw [rowP_zero, List.append_nil]; exact HX.out), HO, HB⟩
      case round =>
        obtain ⟨i, ys, hi, rfl, HY, HP, HC⟩ := hrel
        clear HO HB HX
        by_cases hli : i < n
        · have i0' : (0 : Int) ≤ (i : Int) := by omega
          have i1' : (i : Int) < (n : Int) := by omega
          obtain ⟨p, hp⟩ : ∃ p, placeN G i n = p := ⟨_, rfl⟩
          have hc := refPlace_yes G n hn A c i hli p hp wr (B := w.heap.size) (HA.out.below HC.out)
          have HPL := Lib.hid hc
          have HP2 := Lib.hid hp
          have hbd := rows_bd (G := G) (i := i) hn hlt hi
          rw [← HY.out] at hbd
          clear hc hp
          by_cases e : p = k
          · subst e
            have hnext : ys ++ [(i : Int)] = refP G n p ++ rowP G n p (i + 1) := by rw [rowP_yes HP2.out, HY.out, List.append_assoc]
            have HNX := Lib.hid hnext
            clear hnext
            go_wp2_with (first
              | (go_at_call 12; (refine HPL.out.mono ?_); rintro e w1 ⟨rfl, m, hm⟩; (have HO2 := Lib.hid (Kit.own_below HP.out (Kit.below_drewN (Below.refl wr.heap.size wr) m))); (have HB2 := Lib.hid (Kit.below_drewN HC.out m)); (rw [← hm] at HO2 HB2); clear hm HPL)
              | (at_builtin; refine Kit.wpList_append_rd _ rfl (.tmp 23) (.tmp 25) _ rfl w.heap.size 3 i0 (.int .i64 0) 1 8 Try.underlying27 HI.out.1 HI.out.2.1 HI.out.2.2.1 HI.out.2.2.2 rfl (by decide) _ ys.length (I64v ys) rfl (Kit.own_below HO2.out ((Below.refl _ _).alloc (Nat.le_refl _) _)) _ _ 1 1 [.int .i64 i] rfl rfl (Kit.Rd.new _ _ _ (Nat.lt_succ_self _)) ?_ ?_ ?_ ?_ ?_; (exact Kit.ints_one .i64 [(i : Int)]); (unfold maxLen; omega); (omega); (have := HB2.out.size; simp; omega); (intro u1 w5 hown5 hg5 hat5); (have P1 := Lib.hid hown5); (have B5 := Lib.hid ((HB2.out.alloc HB2.out.size _).grown hg5 (by have := HB2.out.size; simp; omega) (fun q hq => Kit.own_block_ge HO2.out q hq))); clear hown5 hg5 hat5))
            go_roundw
            case rel => exact ⟨i + 1, ys ++ [(i : Int)], by omega, by go_num, HNX, Lib.hid (by have := P1.out; simpa [I64v] using this), B5⟩
            case measure => simp [intOf]; omega
          · have e1 : ((p : Int) == (k : Int)) = false := by simp; omega
            have e2 : ¬ (p : Int) = (k : Int) := by omega
            have hne : placeN G i n ≠ k := by rw [HP2.out]; exact e
            have hnext : ys = refP G n k ++ rowP G n k (i + 1) := by rw [rowP_no hne]; exact HY.out
            have HNX := Lib.hid hnext
            clear hnext hne
            go_wp2_with (go_at_call 12; (refine HPL.out.mono ?_); rintro e w1 ⟨rfl, m, hm⟩; (have HO2 := Lib.hid (Kit.own_below HP.out (Kit.below_drewN (Below.refl wr.heap.size wr) m))); (have HB2 := Lib.hid (Kit.below_drewN HC.out m)); (rw [← hm] at HO2 HB2); clear hm HPL)
            go_roundw
            case rel => exact ⟨i + 1, ys, by omega, by go_num, HNX, HO2, HB2⟩
            case measure => simp [intOf]; omega
        · obtain rfl : i = n := by omega
          have hnext : ys = refP G i (k + 1) := by rw [refP_succ]; exact HY.out
          have HNX := Lib.hid hnext
          clear hnext
          go_wp2_with fail
          go_roundw
          case rel => exact ⟨k + 1, ys, by omega, by go_num, HNX, HP, HC⟩
          case measure => simp [intOf]; omega
    · obtain rfl : k = n := by omega
      have e := HX.out.trans (refP_all G k)
      subst e
      have hl := orderL_len G k
      have ho := HO.out
      rw [hl] at ho
      have HO1 := Lib.hid ho
      clear ho hl
      go_wp2_with fail
      go_ret
      exact ⟨_, rfl, HO1.out, HB.out⟩
end Go.Proofs.Ytlpnaacagbgnkaa.CRank
