/- Contracts of the functions that yield (layer 5), for a loop body that keeps the list's block alone. -/
import Derived.Test.YtkmcmaickopobaaSeq
namespace Go.Proofs.Ytkmcmaickopobaa.CSeq
open Go Go.RowKit Go.Shelf
set_option linter.unusedVariables false
attribute [local go_sem] Oper.semAt_some

/-- a block's cells stay. -/
def KeepsAt (b : Nat) (W W' : World) : Prop := ∀ off, W'.cell? ⟨b, off, none⟩ = W.cell? ⟨b, off, none⟩
theorem keepsAt_t {b : Nat} {A B C : World} (h : KeepsAt b A B) (k : KeepsAt b B C) : KeepsAt b A C := fun o => (k o).trans (h o)
theorem keepsAt_b {b : Nat} {w : World} (hn : b < w.heap.size) (W : World) (l : Nat) (o o' : Obj) (hl : w.heap.size ≤ l) (_ : W.heap[l]? = some o) (_ : o.isCells = false) (_ : o.isWalk = false) : KeepsAt b W (W.putObj l o') := fun off =>
  World.cell?_of_block (World.putObj_heap_other (by show b ≠ l; omega))
set_option maxRecDepth 100000 in
set_option maxHeartbeats 2000000 in
theorem each_at (F : Fence) (n : Nat) (h8 : F.fn 38) (hro : F.round = none) (hn : 1 ≤ n) (l Bs b off len cap : Nat) (zs : List Int) (hreach : len ≤ 9223372036854775807) (J Jx : List (Nat × Int) → World → Prop)
    (hY : ∀ pre x W, J pre W → pre.length < len → YieldAt F (n - 1) Try.prog l #[.int .i64 (x.1 : Int), .int .i8 x.2] W fun e W' =>
      (e = .returned (.bool true) ∧ J (pre ++ [x]) W' ∧ KeepsAt b W W') ∨ (e = .returned (.bool false) ∧ Jx (pre ++ [x]) W'))
    (W : World) (hBs : W.cell? ⟨Bs, 0, none⟩ = some (.slice (some ⟨b, off, none⟩) len cap)) (hc : ∀ j, j < len → W.cell? ⟨b, off + j, none⟩ = some (.int .i8 (zs[j]?.getD 0))) (h0 : J [] W) :
    CallsIn F n Try.prog 38 #[.func (.yield l) #[] #[], .pointer (some ⟨Bs, 0, none⟩)] W fun e W' => (∃ v, e = .returned v) ∧
      ((∃ ys, ys = upto (fun j => (j, zs[j]?.getD 0)) len ∧ J ys W') ∨ (∃ pre, (∃ k, k ≤ len ∧ pre = upto (fun j => (j, zs[j]?.getD 0)) k) ∧ Jx pre W')) := by
  refine callsIn_of_wp Try.func38 rfl h8 ?_ hro
  simp only [Try.ntmps38, List.size_toArray, List.length_cons, List.length_nil, Nat.reduceAdd, Nat.reduceSub, Array.replicate_succ, Array.replicate_zero, List.push_toArray, List.append_toArray, List.nil_append, List.cons_append]
  gi_wp2
  gi_loopw [7] (fun i wr => ∃ k : Nat, k ≤ len ∧ i = .int .i64 k ∧ J (upto (fun j => (j, zs[j]?.getD 0)) k) wr ∧ KeepsAt b W wr)
    (fun i _ => len - (intOf i).toNat)
  case atStart => exact ⟨0, Nat.zero_le _, rfl, h0, fun _ => rfl⟩
  case round =>
    obtain ⟨k, hk, rfl, hJs, hnx⟩ := hrel
    have hcx : k < len → wr.cell? ⟨b, off + k, none⟩ = some (.int .i8 (zs[k]?.getD 0)) := fun h => (hnx (off + k)).trans (hc k h)
    by_cases hlt : k < len
    · obtain ⟨fn, tmps, assign, body, hy, hR⟩ := hY _ (k, zs[k]?.getD 0) wr hJs (by rw [upto_length]; exact hlt)
      dsimp only at hy
      have hcx' := hcx hlt
      gi_wp2
      refine hR.mono ?_
      rintro e W3 (⟨rfl, hJ3, hk3⟩ | ⟨rfl, hJx3⟩)
      · -- the round goes on
        gi_wp2
        go_roundw
        case rel => exact ⟨k + 1, by omega, by simp, by rw [upto_succ]; exact hJ3, fun o => (hk3 o).trans (hnx o)⟩
        case measure => simp [intOf]; omega
      · gi_wp2
        refine bodyPost_ret (results_none rfl _ _ _) rfl ?_
        exact ⟨⟨_, rfl⟩, .inr ⟨_, ⟨k + 1, by omega, (upto_succ _ _).symm⟩, hJx3⟩⟩
    · obtain rfl : k = len := by omega
      gi_wp2
      go_end0
      exact ⟨⟨_, rfl⟩, .inl ⟨_, rfl, hJs⟩⟩

theorem each_stops_at (F : Fence) (n : Nat) (h8 : F.fn 38) (hro : F.round = none) (hn : 1 ≤ n) (Bs b : Nat) (A : Option Addr) (c : Nat) (zs : List Int) (hreach : zs.length ≤ 9223372036854775807) (w : World) (hBs : Bs < w.heap.size)
    (hA : zs ≠ [] → ∀ ad, A = some ad → ad.block = b) (hc : w.cell? ⟨Bs, 0, none⟩ = some (.slice A zs.length c)) (hI : Kit.Rd w w.heap.size A (zs.map (.int .i8))) :
    SeqStopsK F n Try.prog 38 #[.pointer (some ⟨Bs, 0, none⟩)] (fun x : Nat × Int => #[Value.int .i64 (x.1 : Int), Value.int .i8 x.2]) (KeepsAt b) (fun ys => ys = pairs zs zs.length)
      (fun pre => ∃ k, k ≤ zs.length ∧ pre = pairs zs k) zs.length w := fun l J Jx W hW _ _ hY h0 => by
  have hc' := (hW.cell (p := ⟨Bs, 0, none⟩) hBs).trans hc
  have hI' := hI.below hW
  cases zs with
  | nil => exact (each_nil_in F n h8 hro l Bs c A J W hc' h0).mono fun e W' ⟨he, hj⟩ => ⟨he, .inl ⟨_, rfl, hj⟩⟩
  | cons z zs =>
    obtain ⟨b', off, rfl, hb, hx⟩ := hI'.plain (by simp)
    obtain rfl : b' = b := hA (by simp) _ rfl
    exact each_at F n h8 hro hn l Bs b' off _ c (z :: zs) hreach J Jx hY W hc' (fun j hj => hx j _ (by rw [List.getElem?_map, List.getElem?_eq_getElem hj]; rfl)) h0
theorem each_stops_n (F : Fence) (n : Nat) (h8 : F.fn 38) (hro : F.round = none) (hn : 1 ≤ n) (Bs b : Nat) (A : Option Addr) (c : Nat) (zs : List Int) (N : Nat) (hN : zs.length = N) (hreach : N ≤ 9223372036854775807) (w : World) (hBs : Bs < w.heap.size)
    (hA : zs ≠ [] → ∀ ad, A = some ad → ad.block = b) (hc : w.cell? ⟨Bs, 0, none⟩ = some (.slice A N c)) (hI : Kit.Rd w w.heap.size A (zs.map (.int .i8))) :
    SeqStopsK F n Try.prog 38 #[.pointer (some ⟨Bs, 0, none⟩)] (fun x : Nat × Int => #[Value.int .i64 (x.1 : Int), Value.int .i8 x.2]) (KeepsAt b) (fun ys => ys = pairs zs N)
      (fun pre => ∃ k, k ≤ N ∧ pre = pairs zs k) N w := by
  subst hN; exact each_stops_at F n h8 hro hn Bs b A c zs hreach w hBs hA hc hI
end Go.Proofs.Ytkmcmaickopobaa.CSeq
