/- Layer 17 (depth): weights for all channels; a copy of biases. -/
import Derived.Test.YtkbgfglipepmpaaDepthBoth
import Derived.Test.YtkbgfglipepmpaaBiasNum
import Derived.Laws.MakeOwn
import Derived.Laws.AppendOwn
namespace Go.Proofs.Ytkbgfglipepmpaa.CDepth
open Go Go.ChangeShapes Go.WideShapes Go.ChangeAt Go.RowKit
open Plain CSat CShape CTensor CConv
set_option linter.unusedVariables false

/-- a weight for all channels: 0 where it is not its own channel's. -/
def wideF (ws : List Int) (own ch q : Nat) : Int := if q % ch = q / ch / own then ws.getD (q / ch) 0 else 0
def madeW (ws : List Int) (own ch i q : Nat) : Int := if q / ch < i then wideF ws own ch q else 0
theorem madeW_zero (ws : List Int) (own ch N : Nat) : I8s (rowL (madeW ws own ch 0) N) = List.replicate N (.int .i8 0) := by
  refine List.ext_getElem (by simp [I8s, rowL]) fun i h1 h2 => ?_
  simp [I8s, rowL, madeW]
theorem madeW_all (ws : List Int) (own ch n : Nat) : rowL (madeW ws own ch n) (n * ch) = rowL (wideF ws own ch) (n * ch) := by
  refine List.ext_getElem (by simp [rowL]) fun i h1 h2 => ?_
  have hi : i < n * ch := by simpa [rowL] using h1
  have : i / ch < n := Nat.div_lt_of_lt_mul (by rw [Nat.mul_comm]; exact hi)
  simp [rowL, madeW, this]
theorem madeW_set (ws : List Int) (own ch n i : Nat) (hi : i < n) (hc : i / own < ch) (v : Int) (hv : ws.getD i 0 = v) :
    (I8s (rowL (madeW ws own ch i) (n * ch))).set (i * ch + i / own) (.int .i8 v) = I8s (rowL (madeW ws own ch (i + 1)) (n * ch)) := by
  have hch : 0 < ch := Nat.lt_of_le_of_lt (Nat.zero_le _) hc
  have hd : (i * ch + i / own) / ch = i := by rw [Nat.mul_comm, Nat.mul_add_div hch, Nat.div_eq_of_lt hc]; rfl
  have hm : (i * ch + i / own) % ch = i / own := by rw [Nat.mul_comm, Nat.mul_add_mod, Nat.mod_eq_of_lt hc]
  refine List.ext_getElem (by simp [I8s, rowL]) fun q h1 h2 => ?_
  rw [List.getElem_set]
  by_cases e : i * ch + i / own = q
  · subst e
    rw [if_pos rfl]
    simp only [I8s, rowL, List.map_map, List.getElem_map, List.getElem_range, Function.comp, madeW, wideF]
    rw [hd, hm, if_pos (by omega), if_pos rfl, hv]
  · rw [if_neg e]
    simp only [I8s, rowL, List.map_map, List.getElem_map, List.getElem_range, Function.comp, madeW]
    by_cases h : q / ch < i
    · rw [if_pos h, if_pos (by omega)]
    · rw [if_neg h]
      by_cases h3 : q / ch < i + 1
      · have hq : q / ch = i := by omega
        rw [if_pos h3]
        unfold wideF
        rw [hq, if_neg]
        intro h4
        have := Nat.div_add_mod q ch
        rw [hq, h4, Nat.mul_comm] at this
        exact e this
      · rw [if_neg h3]
theorem rowL8_len (F : Nat → Int) (n : Nat) : (I8s (rowL F n)).length = n := by simp [I8s, rowL]
theorem info_i8 : (Try.prog.info? 27).map (fun i => (i.zero, i.size, i.bytes)) = some (some (.int .i8 0), 1, 1) := by kernel_rfl
/-- a call that hands back a list of its own. -/
def Owned (w : World) (T n : Nat) (xs : List Value) (e : Ending) (w' : World) : Prop :=
  ∃ v, e = .returned v ∧ w'.ownsRow w.heap.size T 1 v n xs ∧ Below w.heap.size w w'
set_option maxRecDepth 100000 in
set_option maxHeartbeats 4000000 in
theorem spread_to (A : Option Addr) (ws : List Int) (n c own ch N : Nat) (hn : ws.length = n) (hn0 : 0 < n) (hN : n * ch = N) (hN2 : N ≤ 16384) (ho1 : 1 ≤ own) (hc1 : 1 ≤ ch) (hoc : ch * own = n) (w : World) (hr : Kit.Rd w w.heap.size A (I8s ws)) :
    Calls Try.prog 22 #[.slice A n c, .int .i64 (own : Int), .int .i64 (ch : Int)] w (Owned w 27 N (I8s (rowL (wideF ws own ch) N))) := by
  have hnN : n ≤ N := by rw [← hN]; exact Nat.le_mul_of_pos_right _ (by omega)
  have hon : own ≤ n := by rw [← hoc]; exact Nat.le_mul_of_pos_left _ (by omega)
  have hcN : ch ≤ N := by rw [← hN]; exact Nat.le_mul_of_pos_left _ hn0
  obtain ⟨ba, oa, rfl, hba, hca⟩ := ints_getD hr (j := 0) (by omega)
  have hmulw : IntKind.i64.wrap ((n : Int) * (ch : Int)) = (N : Int) := by rw [← Int.natCast_mul, hN]; exact IntWalk.i64_in _ (by omega)
  have ho9 : ¬ own = 0 := by omega
  have HCA := Lib.hid hca
  have HN := Lib.hid hn
  have HNN := Lib.hid hN
  have HOC := Lib.hid hoc
  clear hca hr hn hN hoc
  go_enter Try.func22, Try.ntmps22
  obtain ⟨i0, hi0, hi1, hi2, hi3⟩ := info_parts32 info_i8
  go_wp2_with (at_make; refine wpList_make_full _ rfl (.tmp 13) (.tmp 13) _ rfl w.heap.size 27 i0 (.int .i8 0) 1 Try.underlying24 hi0 hi1 hi2 .i64 .i64 _ _ N rfl rfl rfl rfl (by rw [hi3]; omega) (by unfold maxLen; omega) (by simp) ?_; intro w2 hown hg2)
  have hB2 : Below w.heap.size w w2 := (Below.refl _ _).grown hg2 (by simp) (fun q hq => by cases hq)
  rw [show (madeCells (Value.int IntKind.i8 0).cells (N * 1)).toList = List.replicate N (.int .i8 0) by rw [Nat.mul_one]; exact toList_madeCells_one _ _] at hown
  rw [← madeW_zero ws own ch N] at hown
  have HOWN := Lib.hid hown
  have HB0 := Lib.hid hB2
  clear hown hB2 hg2 hi0 hi1 hi2 hi3
  go_loopw [17] (fun u wr => ∃ i : Nat, i ≤ n ∧ u = .int .i64 i ∧ Hid (wr.ownsRow w.heap.size 27 1 (.slice (some ⟨w.heap.size, 0, none⟩) N N) N (I8s (rowL (madeW ws own ch i) N))) ∧ Hid (Below w.heap.size w wr)) (fun u _ => n - (intOf u).toNat)
  case atStart => exact ⟨0, Nat.zero_le _, rfl, HOWN, HB0⟩
  case round =>
    obtain ⟨i, hi, rfl, HO, HB⟩ := hrel
    clear HOWN HB0
    by_cases hlt : i < n
    · have kb : wr.cell? ⟨ba, oa + i, none⟩ = some (.int .i8 (ws.getD i 0)) := (HB.out.cell (p := ⟨ba, oa + i, none⟩) hba).trans (HCA.out i (by have := HN.out; omega))
      have hioc : i / own < ch := Nat.div_lt_of_lt_mul (by rw [Nat.mul_comm, HOC.out]; exact hlt)
      obtain ⟨v, hv⟩ : ∃ v, ws.getD i 0 = v := ⟨_, rfl⟩
      have hst := HO.out.stored (i * ch + i / own) (.int .i8 v)
      have hset := madeW_set ws own ch n i hlt hioc v hv
      rw [HNN.out] at hset
      rw [hset] at hst
      have hpos : i * ch + i / own < N := by
        rw [← HNN.out]
        have := Nat.mul_le_mul_right ch (show i + 1 ≤ n by omega)
        rw [Nat.add_mul, Nat.one_mul] at this
        omega
      obtain ⟨q, hq⟩ : ∃ q, i / own = q := ⟨_, rfl⟩
      have hdiv : (i : Int).tdiv (own : Int) = (q : Int) := by rw [Int.tdiv_eq_ediv_of_nonneg (by omega), ← hq]; simp
      obtain ⟨p, hp⟩ : ∃ p, i * ch = p := ⟨_, rfl⟩
      rw [hq, hp] at hst hpos
      have hmul : IntKind.i64.wrap ((i : Int) * (ch : Int)) = (p : Int) := by rw [← Int.natCast_mul, hp]; exact IntWalk.i64_in _ (by omega)
      obtain ⟨pq, hpq⟩ : ∃ pq, p + q = pq := ⟨_, rfl⟩
      rw [hpq] at hst hpos
      have hqw : IntKind.i64.wrap (q : Int) = (q : Int) := IntWalk.i64_in _ (by omega)
      have hadd : IntKind.i64.wrap ((p : Int) + (q : Int)) = (pq : Int) := by rw [← Int.natCast_add, hpq]; exact IntWalk.i64_in _ (by omega)
      have ks : ∃ x, wr.cell? ⟨w.heap.size, pq, none⟩ = some x := ⟨_, (HO.out.cellAt pq (by omega)).trans (List.getElem?_eq_getElem (by rw [rowL8_len]; exact hpos))⟩
      obtain ⟨x0, ks⟩ := ks
      have fs : wr.frozen? ⟨w.heap.size, pq, none⟩ = false := HO.out.frozenAt pq
      have h0 : (0 : Int) ≤ (i : Int) := by omega
      have h1 : (i : Int) < (n : Int) := by omega
      have p0 : (0 : Int) ≤ (pq : Int) := by omega
      have p1 : (pq : Int) < (N : Int) := by omega
      have HST := Lib.hid hst
      rw [hv] at kb
      clear hst hset hv hq hp hpq hioc
      go_wp2_with fail
      go_roundw
      case rel => exact ⟨i + 1, by omega, by go_num, Lib.hid HST.out.1, Lib.hid (HB.out.setCell (by simp) _)⟩
      case measure => simp [intOf]; omega
    · obtain rfl : i = n := by omega
      have hfin := HO.out
      rw [← HNN.out, madeW_all, HNN.out] at hfin
      have HFI := Lib.hid hfin
      clear hfin
      go_wp2_with fail
      go_ret
      exact ⟨_, rfl, HFI.out, HB.out⟩
theorem info_i32w : (Try.prog.info? 21).map (fun i => (i.zero, i.size, i.bytes)) = some (some (.int .i32 0), 1, 4) := by kernel_rfl
set_option maxHeartbeats 1000000 in
theorem sclone32 (A : Option Addr) (zs : List Int) (n c : Nat) (hn : zs.length = n) (hl : n ≤ 1000000) {B : Nat} (w : World) (hB : B ≤ w.heap.size) (hr : Kit.Rd w B A (I32v zs)) :
    Calls Try.prog 23 #[.slice A n c] w (Owned w 21 n (I32v zs)) := by
  have HN := Lib.hid hn
  have HR := Lib.hid hr
  have qn : ∀ (w : World) (a : Option Addr) (n c n' c' : Nat), (binOp .eql 28 (.slice a n c) (.slice none n' c')).run Try.prog w = .ok (.bool a.isNone) w := fun w a n c n' c' => Lib.run_eql_slice_nil w _ _ a n c n' c' Try.underlying28
  cases A with
  | none =>
    have hz : zs = [] := by
      cases zs with
      | nil => rfl
      | cons z zs => obtain ⟨b, off, h, _⟩ := hr.plain (by simp [I32v]); cases h
    subst hz
    have h0 : n = 0 := by simpa using hn.symm
    subst h0
    clear hn hr HN HR
    go_enter Try.func23, Try.ntmps23
    go_wp2
    go_ret
    exact ⟨_, rfl, ⟨by simp [I32v], .inl ⟨rfl, rfl⟩⟩, Below.refl _ _⟩
  | some ad =>
    clear hn hr
    go_enter Try.func23, Try.ntmps23
    obtain ⟨i0, hi0, hi1, hi2, hi3⟩ := info_parts32 info_i32w
    go_wp2_with (at_builtin; refine Kit.wpList_append_rd _ rfl (.tmp 5) (.tmp 6) _ rfl w.heap.size 21 i0 (.int .i32 0) 1 4 Try.underlying28 hi0 hi1 hi2 hi3 rfl (by decide) (.slice (some ⟨_, 0, none⟩) 0 0) 0 [] rfl (World.ownsRow_lit _ #[] 0 (Nat.le_refl _) (Nat.zero_le _) rfl) _ _ n _ (I32v zs) rfl (by simp [I32v, HN.out]) (HR.out.alloc hB _) (Kit.ints_one .i32 zs) (by unfold maxLen; omega) (by omega) (by simp) ?_; intro v1 w1 hown1 hg1 hat1; replace hown1 : w1.ownsRow w.heap.size 21 1 v1 n (I32v zs) := (by simpa using hown1); have HO := Lib.hid hown1; have HX := Lib.hid (((Below.refl _ w).alloc (Nat.le_refl _) (.cells #[] 21)).grown hg1 (by simp) (fun q hq => by simp [Value.ownBlock] at hq; omega)); clear hown1 hg1 hat1)
    go_ret
    exact ⟨_, rfl, HO.out, HX.out⟩
end Go.Proofs.Ytkbgfglipepmpaa.CDepth
