/- Layer 20 (join): the numbers at the same positions of two lists, one pair after the other. -/
import Derived.RangeFuncBox
import Derived.RangeFuncLeaves
import Derived.RangeFuncCalls
import Derived.RangeFuncNested
import Derived.Shelf.Abstract
import Derived.WalkKit
import Derived.OwnWalkIn
import Derived.TacticsInMore
import Derived.LoopNIn
import Derived.LoopIn
import Derived.Test.YtncknalipjaccaaKit
import Derived.Test.YtncknalipjaccaaRows
namespace Go.Proofs.Ytncknalipjaccaa.CJoin
open Go Go.ChangeShapes Go.WideShapes Go.ChangeAt Go.RowKit Go.Shelf
set_option linter.unusedVariables false
attribute [local go_sem] Oper.semAt_some

theorem pairs_to (A B : Option Addr) (n c m d : Nat) (w : World) :
    Calls Try.prog 14 #[.slice A n c, .slice B m d] w fun e w' => e = .returned (.func (.func 24) #[] #[.pointer (some ⟨w.heap.size, 0, none⟩), .pointer (some ⟨w.heap.size + 1, 0, none⟩)]) ∧ w' = (w.alloc (.cells #[.slice A n c] 24)).alloc (.cells #[.slice B m d] 24) := by
  go_enter Try.func14, Try.ntmps14
  go_wp2_with fail
  go_ret
  exact ⟨rfl, rfl⟩

/-- what lay below stays, and so does one box. -/
def KeepJ (n₀ P2 : Nat) (A B : World) : Prop := Below n₀ A B ∧ B.cell? ⟨P2, 0, none⟩ = A.cell? ⟨P2, 0, none⟩
theorem KeepJ.trans {n₀ P2 : Nat} {A B C : World} (h : KeepJ n₀ P2 A B) (k : KeepJ n₀ P2 B C) : KeepJ n₀ P2 A C := ⟨h.1.trans k.1, k.2.trans h.2⟩

set_option maxRecDepth 100000 in
set_option maxHeartbeats 4000000 in
theorem pairs_in (F : Fence) (n : Nat) (h8 : F.fn 24) (hro : F.round = none) (hn : 1 ≤ n) (l P1 P2 n₀ b off b2 off2 len cap cap2 : Nat) (zs ys : List Int) (hreach : len ≤ 1000000) (hb : b < n₀) (hb2 : b2 < n₀) (J Jx : List Nat → World → Prop)
    (hY : ∀ pre x W, J pre W → pre.length < len → YieldAt F (n - 1) Try.prog l #[.int .i8 (zs.getD x 0), .int .i8 (ys.getD x 0)] W fun e W' =>
      (e = .returned (.bool true) ∧ J (pre ++ [x]) W' ∧ KeepJ n₀ P2 W W') ∨ (e = .returned (.bool false) ∧ Jx (pre ++ [x]) W'))
    (W : World) (hP1 : W.cell? ⟨P1, 0, none⟩ = some (.slice (some ⟨b, off, none⟩) len cap)) (hP2 : W.cell? ⟨P2, 0, none⟩ = some (.slice (some ⟨b2, off2, none⟩) len cap2))
    (hc : ∀ j, j < len → W.cell? ⟨b, off + j, none⟩ = some (.int .i8 (zs.getD j 0))) (hc2 : ∀ j, j < len → W.cell? ⟨b2, off2 + j, none⟩ = some (.int .i8 (ys.getD j 0))) (h0 : J [] W) :
    CallsIn F n Try.prog 24 #[.func (.yield l) #[] #[], .pointer (some ⟨P1, 0, none⟩), .pointer (some ⟨P2, 0, none⟩)] W fun e W' => (∃ v, e = .returned v) ∧
      ((∃ ls, ls = List.range len ∧ J ls W') ∨ (∃ pre, Jx pre W')) := by
  refine callsIn_of_wp Try.func24 rfl h8 ?_ hro
  simp only [Try.ntmps24, List.size_toArray, List.length_cons, List.length_nil, Nat.reduceAdd, Nat.reduceSub, Array.replicate_succ, Array.replicate_zero, List.push_toArray, List.append_toArray, List.nil_append, List.cons_append]
  have HY := Lib.hid hY
  have HC := Lib.hid hc
  have HC2 := Lib.hid hc2
  have HP2 := Lib.hid hP2
  clear hY hc hc2 hP2
  gi_wp2
  gi_loopw [8] (fun i wr => ∃ k : Nat, k ≤ len ∧ i = .int .i64 k ∧ Hid (J (List.range k) wr) ∧ Hid (KeepJ n₀ P2 W wr))
    (fun i _ => len - (intOf i).toNat)
  case atStart => exact ⟨0, Nat.zero_le _, rfl, Lib.hid h0, Lib.hid ⟨Below.refl _ _, rfl⟩⟩
  case round =>
    obtain ⟨k, hk, rfl, hJs, hnx⟩ := hrel
    clear hP1
    by_cases hlt : k < len
    · have hcx := (hnx.out.1.cell (p := ⟨b, off + k, none⟩) hb).trans (HC.out k hlt)
      have hcy := (hnx.out.1.cell (p := ⟨b2, off2 + k, none⟩) hb2).trans (HC2.out k hlt)
      have hp2 := hnx.out.2.trans HP2.out
      obtain ⟨fn, tmps, assign, body, hy, hR⟩ := HY.out _ k wr hJs.out (by rw [List.length_range]; exact hlt)
      generalize zs.getD k 0 = x at hcx hR hy
      generalize ys.getD k 0 = y at hcy hR hy
      have hkI : (k : Int) < (len : Int) := by omega
      have hk0 : (0 : Int) ≤ (k : Int) := by omega
      gi_wp2
      refine hR.mono ?_
      rintro e W3 (⟨rfl, hJ3, hk3⟩ | ⟨rfl, hJx3⟩)
      · -- the round goes on
        have HJ3 : Hid (J (List.range (k + 1)) W3) := Lib.hid (by rw [List.range_succ]; exact hJ3)
        have HK3 := Lib.hid (hnx.out.trans hk3)
        clear hJ3 hk3 hcx hcy hp2 hy hR
        gi_wp2
        go_roundw
        case rel => exact ⟨k + 1, by omega, by simp, HJ3, HK3⟩
        case measure => simp [intOf]; omega
      · gi_wp2
        refine bodyPost_ret (results_none rfl _ _ _) rfl ?_
        exact ⟨⟨_, rfl⟩, .inr ⟨_, hJx3⟩⟩
    · obtain rfl : k = len := by omega
      gi_wp2
      go_end0
      exact ⟨⟨_, rfl⟩, .inl ⟨_, rfl, hJs.out⟩⟩

theorem seq_pairs (F : Fence) (n : Nat) (h8 : F.fn 24) (hro : F.round = none) (hn : 1 ≤ n) (P1 P2 n₀ : Nat) (A B : Option Addr) (c d N : Nat) (zs ys : List Int) (hz : zs.length = N) (hy : ys.length = N) (hN : 1 ≤ N) (hreach : N ≤ 1000000) (w : World) (l1 : P1 < w.heap.size) (l2 : P2 < w.heap.size) (hn₀ : n₀ ≤ w.heap.size)
    (hP1 : w.cell? ⟨P1, 0, none⟩ = some (.slice A N c)) (hP2 : w.cell? ⟨P2, 0, none⟩ = some (.slice B N d)) (hA : Kit.Rd w n₀ A (zs.map (.int .i8))) (hB : Kit.Rd w n₀ B (ys.map (.int .i8))) :
    SeqStopsK F n Try.prog 24 #[.pointer (some ⟨P1, 0, none⟩), .pointer (some ⟨P2, 0, none⟩)] (fun x : Nat => #[Value.int .i8 (zs.getD x 0), Value.int .i8 (ys.getD x 0)]) (KeepJ n₀ P2) (fun ls => ls = List.range N)
      (fun _ => True) N w := by
  intro l J Jx W hW _ _ hY h0
  have c1 := (hW.cell (p := ⟨P1, 0, none⟩) l1).trans hP1
  have c2 := (hW.cell (p := ⟨P2, 0, none⟩) l2).trans hP2
  have hA' := hA.below (hW.mono hn₀)
  have hB' := hB.below (hW.mono hn₀)
  obtain ⟨b, off, rfl, hb, hx⟩ := hA'.plain (by rw [List.length_map]; omega)
  obtain ⟨b2, off2, rfl, hb2, hx2⟩ := hB'.plain (by rw [List.length_map]; omega)
  have hcx : ∀ j, j < N → W.cell? ⟨b, off + j, none⟩ = some (.int .i8 (zs.getD j 0)) := fun j hj => hx j _ (by rw [List.getElem?_map, List.getD_eq_getElem?_getD, List.getElem?_eq_getElem (by omega)]; rfl)
  have hcy : ∀ j, j < N → W.cell? ⟨b2, off2 + j, none⟩ = some (.int .i8 (ys.getD j 0)) := fun j hj => hx2 j _ (by rw [List.getElem?_map, List.getD_eq_getElem?_getD, List.getElem?_eq_getElem (by omega)]; rfl)
  refine (pairs_in F n h8 hro hn l P1 P2 n₀ b off b2 off2 N c d zs ys hreach hb hb2 J Jx hY W c1 c2 hcx hcy h0).mono ?_
  rintro e W' ⟨he, (⟨ls, rfl, hj⟩ | ⟨pre, hj⟩)⟩
  · exact ⟨he, .inl ⟨_, rfl, hj⟩⟩
  · exact ⟨he, .inr ⟨_, trivial, hj⟩⟩
end Go.Proofs.Ytncknalipjaccaa.CJoin
