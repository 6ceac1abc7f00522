/- Layer 19 (pool): the numbers of a channel (the document's own). -/
import Derived.Test.YtccngjgbhbeobaaPoolBoth
import Derived.Deep.QuietTactic
namespace Go.Proofs.Ytccngjgbhbeobaa.CPool
open Go Go.ChangeShapes Go.WideShapes Go.ChangeAt Go.RowKit
open Plain CSat CShape CTensor CConv
set_option linter.unusedVariables false

/-- a channel's numbers, of the first k. -/
def chanK (zs : List Int) (d c : Nat) : Nat → List Int
  | 0 => []
  | k + 1 => if k % d = c then chanK zs d c k ++ [zs.getD k 0] else chanK zs d c k
theorem chanK_len (zs : List Int) (d c : Nat) : ∀ k, (chanK zs d c k).length ≤ k
  | 0 => Nat.le_refl _
  | k + 1 => by
    have := chanK_len zs d c k
    unfold chanK
    split
    · simp; omega
    · omega
theorem chanK_mem (zs : List Int) (h : I8b zs) (d c : Nat) : ∀ k, ∀ x ∈ chanK zs d c k, -128 ≤ x ∧ x ≤ 127
  | 0, x, hx => by simp [chanK] at hx
  | k + 1, x, hx => by
    unfold chanK at hx
    split at hx
    · rcases List.mem_append.1 hx with hx | hx
      · exact chanK_mem zs h d c k x hx
      · rw [List.mem_singleton.1 hx]; exact h k
    · exact chanK_mem zs h d c k x hx
theorem chanK_count (zs : List Int) {d c : Nat} (hc : c < d) : ∀ q j, j ≤ d → (chanK zs d c (q * d + j)).length = q + (if c < j then 1 else 0) := by
  intro q
  induction q with
  | zero =>
    intro j
    induction j with
    | zero => intro _; simp [chanK]
    | succ j ih =>
      intro hj
      have e : 0 * d + (j + 1) = (0 * d + j) + 1 := by omega
      have hm : (0 * d + j) % d = j := by rw [Nat.zero_mul, Nat.zero_add, Nat.mod_eq_of_lt (by omega)]
      have i1 := ih (by omega)
      rw [e]
      show (if (0 * d + j) % d = c then chanK zs d c (0 * d + j) ++ [zs.getD (0 * d + j) 0] else chanK zs d c (0 * d + j)).length = _
      rw [hm]
      split
      · rw [List.length_append, i1, if_neg (by omega), if_pos (by omega)]; rfl
      · rw [i1]; split <;> split <;> omega
  | succ q ihq =>
    intro j
    induction j with
    | zero =>
      intro _
      have e : (q + 1) * d + 0 = q * d + d := by rw [Nat.add_mul]; omega
      rw [e, ihq d (Nat.le_refl _), if_pos hc, if_neg (by omega)]
    | succ j ih =>
      intro hj
      have e : (q + 1) * d + (j + 1) = ((q + 1) * d + j) + 1 := by omega
      have hm : ((q + 1) * d + j) % d = j := by rw [Nat.mul_comm, Nat.mul_add_mod, Nat.mod_eq_of_lt (by omega)]
      have i1 := ih (by omega)
      rw [e]
      show (if ((q + 1) * d + j) % d = c then chanK zs d c ((q + 1) * d + j) ++ [zs.getD ((q + 1) * d + j) 0] else chanK zs d c ((q + 1) * d + j)).length = _
      rw [hm]
      split
      · rw [List.length_append, i1, if_neg (by omega), if_pos (by omega)]; rfl
      · rw [i1]; split <;> split <;> omega
theorem chanK_all (zs : List Int) {d c hw n : Nat} (hc : c < d) (hn : hw * d = n) : (chanK zs d c n).length = hw := by
  have := chanK_count zs hc hw 0 (by omega)
  rw [if_neg (by omega)] at this
  rw [← hn]; simpa using this
set_option maxHeartbeats 4000000 in
theorem chan_to (H W : Int) (d c : Nat) (A : Option Addr) (zs : List Int) (n cap : Nat) (hn : zs.length = n) (hl : n ≤ 1024) (ht : tensB H W (d : Int) n = true) (hc : c < d) (xs0 : List Int) (hxs0 : chanK zs d c n = xs0) (w : World) (hr : Kit.Rd w w.heap.size A (I8s zs)) :
    Calls Try.prog 17 #[.agg #[.int .i64 H, .int .i64 W, .int .i64 (d : Int), .slice A n cap], .int .i64 (c : Int)] w (OwnedP w 30 xs0.length (I8s xs0)) := by
  subst hxs0
  have HBX := Lib.hid (boxNew H W (d : Int) A n cap 29 w)
  have HN := Lib.hid hn
  have HT := Lib.hid ht
  have HR := Lib.hid hr
  have hd1 : (0 : Int) ≤ (c : Int) := by omega
  have hd2 : (c : Int) < (d : Int) := by omega
  have hC0 : ¬ (d : Int) = 0 := by omega
  clear hn ht hr
  obtain ⟨i0, hi0, hi1, hi2, hi3⟩ := info_parts32 info_i8p
  go_enter Try.func17, Try.ntmps17
  go_wp2_with fail
  go_loopw [5, 6] (fun v i wr => ∃ (k : Nat) (u : Value), k ≤ n ∧ i = .int .i64 k ∧ v = u ∧ Hid (wr.ownsRow (w.heap.size + 1) 30 1 u (chanK zs d c k).length (I8s (chanK zs d c k))) ∧ Hid (BoxAt w.heap.size H W (d : Int) A n cap wr ∧ Below w.heap.size w wr ∧ w.heap.size + 1 ≤ wr.heap.size)) (fun _ i _ => n - (intOf i).toNat)
  case atStart => exact ⟨0, _, Nat.zero_le _, rfl, rfl, Lib.hid ⟨by simp [I8s, chanK], .inl ⟨rfl, rfl⟩⟩, Lib.hid ⟨HBX.out, (Below.refl _ _).alloc (Nat.le_refl _) _, by simp⟩⟩
  case round =>
    obtain ⟨k, u, hk, rfl, rfl, hO, hF⟩ := hrel
    clear HBX
    have hlen : (chanK zs d c k).length ≤ 1024 := Nat.le_trans (chanK_len zs d c k) (by omega)
    generalize hxs : chanK zs d c k = xs at hO hlen
    have HXS := Lib.hid hxs
    clear hxs
    obtain ⟨L, hL⟩ : ∃ L, xs.length = L := ⟨_, rfl⟩
    rw [hL] at hO hlen
    have HL := Lib.hid hL
    clear hL
    obtain ⟨Au, cu, rfl, -, -, -⟩ := Kit.own_rd hO.out
    obtain ⟨⟨s1, s2, s3, s4⟩, -, hz⟩ := hF.out
    by_cases hlt : k < n
    · have hkI : (k : Int) < (n : Int) := by omega
      have hkJ : (0 : Int) ≤ (k : Int) := by omega
      obtain ⟨b1, off1, rfl, hbB, hcx0⟩ := ints_getD HR.out (j := 0) (by have := HN.out; omega)
      have hcx := hcx0 k (by have := HN.out; omega)
      have hps : chanK zs d c (k + 1) = if k % d = c then xs ++ [zs.getD k 0] else xs := by rw [← HXS.out]; rfl
      generalize zs.getD k 0 = x at hcx hps
      have hcx2 := Lib.hid hcx
      clear hcx hcx0
      obtain ⟨r, hrm⟩ : ∃ r, k % d = r := ⟨_, rfl⟩
      have htm : (k : Int).tmod (d : Int) = (r : Int) := by rw [Int.tmod_eq_emod_of_nonneg hkJ, ← hrm]; simp
      have hwr : IntKind.i64.wrap (r : Int) = (r : Int) := IntWalk.i64_in _ (by have := Nat.mod_le k d; omega)
      rw [hrm] at hps
      have HPS := Lib.hid hps
      clear hps hrm
      by_cases he : r = c
      · have hee : ((r : Int) == (c : Int)) = true := by simp; omega
        have hnext : chanK zs d c (k + 1) = xs ++ [x] := by rw [HPS.out, if_pos he]
        have HNX := Lib.hid hnext
        clear he hnext
        go_wp2_with (first
          | (go_at_call 15
             with_reducible refine (refRight_to H W (d : Int) _ n cap _ HT.out _).mono ?_
             rintro e w1 ⟨rfl, hb1⟩
             have hbx1 := hF.out.1.below (by omega) hb1
             have HO1 := Lib.hid (Kit.own_below hO.out hb1)
             have HB1 := Lib.hid (hF.out.2.1.trans (hb1.mono (by omega)))
             have hz1 : w.heap.size + 1 ≤ w1.heap.size := Nat.le_trans hz hb1.size
             have HBX1 := Lib.hid hbx1
             have hcx := (HB1.out.cell (p := ⟨b1, off1 + k, none⟩) (by simp; omega)).trans hcx2.out
             clear s1 s2 s3 s4 hb1
             obtain ⟨s1, s2, s3, s4⟩ := hbx1)
          | (at_builtin
             refine Kit.wpList_append_rd _ rfl (.tmp 36) (.tmp 42) _ rfl (w.heap.size + 1) 30 i0 (.int .i8 0) 1 1 Try.underlying27 hi0 hi1 hi2 hi3 rfl (by decide) _ L (I8s xs) rfl (HO1.out.alloc _) _ _ 1 1 [.int .i8 x] rfl rfl (Kit.Rd.new _ _ _ (Nat.lt_succ_self _)) (Kit.ints_one .i8 [x]) (by unfold maxLen; omega) (by omega) (by simp; omega) ?_
             intro v2 w2 hown2 hg2 hat2
             obtain ⟨A2, c2, rfl, -, -, -⟩ := Kit.own_rd hown2
             have hB : Below (w.heap.size + 1) w1 w2 := ((Below.refl _ _).alloc hz1 _).grown hg2 (by simp; omega) (fun q hq => Kit.own_block_ge HO1.out q hq)
             have HO3 : Hid (w2.ownsRow (w.heap.size + 1) 30 1 (.slice A2 (L + 1) c2) (chanK zs d c (k + 1)).length (I8s (chanK zs d c (k + 1)))) := by
               rw [HNX.out]
               have e1 : (xs ++ [x]).length = L + 1 := by simp [HL.out]
               have e2 : I8s (xs ++ [x]) = I8s xs ++ [.int .i8 x] := by simp [I8s]
               rw [e1, e2]
               exact Lib.hid hown2
             have HF3 : Hid (BoxAt w.heap.size H W (d : Int) _ n cap w2 ∧ Below w.heap.size w w2 ∧ w.heap.size + 1 ≤ w2.heap.size) := Lib.hid ⟨HBX1.out.below (by omega) hB, HB1.out.trans (hB.mono (by omega)), Nat.le_trans hz1 hB.size⟩
             clear hown2 hg2 hat2 hB))
        go_roundw
        case rel => exact ⟨k + 1, _, by omega, by go_num, rfl, HO3, HF3⟩
        case measure => simp [intOf]; omega
      · have hee : ((r : Int) == (c : Int)) = false := by simp; omega
        have hnext : chanK zs d c (k + 1) = xs := by rw [HPS.out, if_neg he]
        have HNX := Lib.hid hnext
        have hne : ¬ (r : Int) = (c : Int) := by omega
        clear he hnext
        go_wp2_with (
          go_at_call 15
          with_reducible refine (refRight_to H W (d : Int) _ n cap _ HT.out _).mono ?_
          rintro e w1 ⟨rfl, hb1⟩
          have hbx1 := hF.out.1.below (by omega) hb1
          have HO1 : Hid (w1.ownsRow (w.heap.size + 1) 30 1 (.slice Au L cu) (chanK zs d c (k + 1)).length (I8s (chanK zs d c (k + 1)))) := by
            rw [HNX.out, HL.out]
            exact Lib.hid (Kit.own_below hO.out hb1)
          have HF3 : Hid (BoxAt w.heap.size H W (d : Int) _ n cap w1 ∧ Below w.heap.size w w1 ∧ w.heap.size + 1 ≤ w1.heap.size) := Lib.hid ⟨hbx1, hF.out.2.1.trans (hb1.mono (by omega)), Nat.le_trans hz hb1.size⟩
          clear s1 s2 s3 s4 hb1
          obtain ⟨s1, s2, s3, s4⟩ := hbx1)
        go_roundw
        case rel => exact ⟨k + 1, _, by omega, by go_num, rfl, HO1, HF3⟩
        case measure => simp [intOf]; omega
    · obtain rfl : k = n := by omega
      go_wp2_with fail
      go_ret
      refine ⟨_, rfl, ?_, hF.out.2.1⟩
      rw [HXS.out, HL.out]
      exact Kit.own_base hO.out (by omega)
end Go.Proofs.Ytccngjgbhbeobaa.CPool
