/- Layer 13 (lower): what raises a row of sums by the biases; the two closures that are made. -/
import Derived.Test.YtoobpjdbdikbiaaLowerChunk
import Derived.Test.YtoobpjdbdikbiaaBiasNum
namespace Go.Proofs.Ytoobpjdbdikbiaa.CLower
open Go Go.ChangeShapes Go.WideShapes Go.ChangeAt Go.RowKit Go.Shelf Round
open Plain CSat CShape CTensor CConv
set_option linter.unusedVariables false

theorem own_at {w : World} {base g n cap : Nat} {e : TypeId} {xs : List Value} (h : w.ownsRow base e 1 (.slice (some ⟨g, 0, none⟩) n cap) n xs) (hn : 0 < n) :
    (∀ j u, xs[j]? = some u → w.cell? ⟨g, j, none⟩ = some u) ∧ (∀ j, w.frozen? ⟨g, j, none⟩ = false) ∧ g < w.heap.size := by
  obtain ⟨g', cap', e1, _, h2, _, _, h3, h4⟩ := own_cells h hn
  cases e1
  exact ⟨h3, h4, h2⟩
theorem below_of_grown {w w' : World} {g B : Nat} (h : w.grownBy w' (some g)) (hg : B ≤ g) (hB : B ≤ w.heap.size) : Below B w w' :=
  ⟨h.os, h.tape, h.output, h.size, fun k hk => h.block k (by omega) (by intro e; cases e; omega)⟩
theorem grown_drew (w : World) (r : Option Nat) : w.grownBy w.drew r := ⟨rfl, rfl, rfl, Nat.le_refl _, fun _ _ _ => rfl⟩
theorem grown_self (w : World) (r : Option Nat) : w.grownBy w r := ⟨rfl, rfl, rfl, Nat.le_refl _, fun _ _ _ => rfl⟩
theorem grown_trans {a b c : World} {r : Option Nat} (h : a.grownBy b r) (k : b.grownBy c r) : a.grownBy c r :=
  ⟨k.os.trans h.os, k.tape.trans h.tape, k.output.trans h.output, Nat.le_trans h.size k.size, fun i hi hr => (k.block i (Nat.lt_of_lt_of_le hi h.size) hr).trans (h.block i hi hr)⟩
theorem grown_cell {a b : World} {g : Nat} (h : a.grownBy b (some g)) {p : Addr} (hp : p.block < a.heap.size) (hg : p.block ≠ g) : b.cell? p = a.cell? p :=
  World.cell?_of_block (h.block p.block hp (by intro e; cases e; exact hg rfl))
theorem grown_frozen {a b : World} {g : Nat} (h : a.grownBy b (some g)) {p : Addr} (hp : p.block < a.heap.size) (hg : p.block ≠ g) : b.frozen? p = a.frozen? p :=
  World.frozen?_of_block (h.block p.block hp (by intro e; cases e; exact hg rfl))

set_option maxRecDepth 100000 in
set_option maxHeartbeats 4000000 in
theorem raise_to (g q d N cap base Bb cB B : Nat) (BA : Option Addr) (bs : List Int) (T M : Nat → Int) (hbs : bs.length = d) (hd : 1 ≤ d) (hdm : d ≤ 1024) (hq : q + d ≤ N) (hN : N ≤ 1000000) (hB : B ≤ g) (hbg : Bb ≠ g)
    (hT : ∀ j, j < d → IntKind.i32.wrap (M (q + j) + bs.getD j 0) = T (q + j)) (W : World) (hBs : B ≤ W.heap.size) (ho : W.ownsRow base 21 1 (.slice (some ⟨g, 0, none⟩) N cap) N (I32v (CGemm.rowL (mixF T M q) N)))
    (hcb : W.cell? ⟨Bb, 0, none⟩ = some (.slice BA d cB)) (hbb : Bb < W.heap.size) (hr : Kit.Rd W B BA (I32v bs)) :
    Calls Try.prog 43 #[.slice (some ⟨g, q, none⟩) d d, .pointer (some ⟨Bb, 0, none⟩)] W fun e W' => (∃ v, e = .returned v) ∧ W'.ownsRow base 21 1 (.slice (some ⟨g, 0, none⟩) N cap) N (I32v (CGemm.rowL (mixF T M (q + d)) N)) ∧ W.grownBy W' (some g) := by
  have HT := Lib.hid hT
  have HO := Lib.hid ho
  have HR := Lib.hid hr
  have HBS := Lib.hid hbs
  clear hT ho hr hbs
  go_enter Try.func43, Try.ntmps43
  go_wp2_with fail
  go_loopw [7] (fun i wr => ∃ j : Nat, j ≤ d ∧ i = .int .i64 j ∧ Hid (wr.ownsRow base 21 1 (.slice (some ⟨g, 0, none⟩) N cap) N (I32v (CGemm.rowL (mixF T M (q + j)) N))) ∧ Hid (W.grownBy wr (some g))) (fun i _ => d - (intOf i).toNat)
  case atStart => exact ⟨0, Nat.zero_le _, rfl, HO, Lib.hid (grown_self _ _)⟩
  case round =>
    obtain ⟨j, hj, rfl, hO, hG⟩ := hrel
    by_cases hlt : j < d
    · obtain ⟨bb, ob, rfl, -, hcx⟩ := ints_getD (HR.out.below (below_of_grown hG.out hB hBs)) (j := j) (by have := HBS.out; omega)
      have kb := hcx j (by have := HBS.out; omega)
      obtain ⟨h1, h2, h3⟩ := own_at hO.out (by omega)
      have hjN : q + j < N := by omega
      have ks := h1 (q + j) (.int .i32 (M (q + j))) (by unfold I32v; rw [List.getElem?_map, mix_at T M hjN]; rfl)
      have fs := h2 (q + j)
      have ht := HT.out j hlt
      obtain ⟨b1, hb1⟩ : ∃ b1, bs.getD j 0 = b1 := ⟨_, rfl⟩
      obtain ⟨m1, hm1⟩ : ∃ m1, M (q + j) = m1 := ⟨_, rfl⟩
      obtain ⟨t1, ht1⟩ : ∃ t1, T (q + j) = t1 := ⟨_, rfl⟩
      have HT1 := Lib.hid ht1
      rw [hb1] at kb
      rw [hm1] at ks
      rw [hb1, hm1, ht1] at ht
      have hst := hO.out.stored (q + j) (.int .i32 t1)
      have hset : (I32v (CGemm.rowL (mixF T M (q + j)) N)).set (q + j) (.int .i32 t1) = I32v (CGemm.rowL (mixF T M (q + (j + 1))) N) := by
        unfold I32v
        rw [← List.map_set, ← ht1, mix_set T M hjN]; rfl
      rw [hset] at hst
      have HO2 := Lib.hid hst.1
      have HG2 := Lib.hid (grown_trans hG.out hst.2)
      have hj0 : (0 : Int) ≤ (j : Int) := by omega
      have hjd : (j : Int) < (d : Int) := by omega
      clear hst hset h1 h2 h3 hcx hb1 hm1 ht1
      go_wp2_with fail
      go_roundw
      case rel => exact ⟨j + 1, by omega, by go_num, HO2, HG2⟩
      case measure => simp [intOf]; omega
    · obtain rfl : j = d := by omega
      go_wp2_with fail
      go_end0
      exact ⟨⟨_, rfl⟩, hO.out, hG.out⟩

set_option maxHeartbeats 1000000 in
theorem raising_to (BA : Option Addr) (nB cB : Nat) (w : World) :
    Calls Try.prog 25 #[.slice BA nB cB] w fun e w' => e = .returned (.func (.func 43) #[] #[.pointer (some ⟨w.heap.size, 0, none⟩)]) ∧ w' = w.alloc (.cells #[.slice BA nB cB] 28) := by
  go_enter Try.func25, Try.ntmps25
  go_wp2_with fail
  go_ret
  exact ⟨rfl, rfl⟩
set_option maxHeartbeats 1000000 in
theorem chunks_to (A : Option Addr) (L c : Nat) (d : Nat) (hd : 1 ≤ d) (w : World) :
    Calls Try.prog 26 #[.slice A L c, .int .i64 d] w fun e w' => e = .returned (.func (.func 44) #[] #[.pointer (some ⟨w.heap.size, 0, none⟩), .pointer (some ⟨w.heap.size + 1, 0, none⟩)]) ∧ w' = (w.alloc (.cells #[.slice A L c] 28)).alloc (.cells #[.int .i64 d] 3) := by
  have h1 : ¬ (d : Int) < 1 := by omega
  go_enter Try.func26, Try.ntmps26
  go_wp2_with fail
  go_ret
  exact ⟨rfl, rfl⟩
end Go.Proofs.Ytoobpjdbdikbiaa.CLower
