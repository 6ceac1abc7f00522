/- Contracts of package octet (layer 8): lists that a reader reads. -/
import Derived.Test.YtkmcmaickopobacOctetRead
import Derived.Lib.SmallJoins
namespace Go.Proofs.Ytkmcmaickopobac.COctet
open Go Go.ChangeShapes Go.WideShapes Go.ChangeAt Go.RowKit
open LebNum CLeb
set_option linter.unusedVariables false

theorem info_i32 : (Try.prog.info? 21).map (fun i => (i.zero, i.size, i.bytes)) = some (some (.int .i32 0), 1, 4) := by kernel_rfl
theorem info_i8 : (Try.prog.info? 50).map (fun i => (i.zero, i.size, i.bytes)) = some (some (.int .i8 0), 1, 1) := by kernel_rfl
theorem encZ_app (a b : List Int) : encZ (a ++ b) = encZ a ++ encZ b := by simp [encZ]
theorem smallZ_app (a b : List Int) : smallZ (a ++ b) = smallZ a ++ smallZ b := by simp [smallZ]
/-- a list that a reader's call hands back, and what it leaves. -/
def ReadsL (B : Nat) (xs : List Value) (m : Nat) (t : List Int) (W : World) (e : Ending) (W' : World) : Prop :=
  ∃ A c, e = .returned (.slice A m c) ∧ Kit.Rd W' W'.heap.size A xs ∧ (∀ ad, A = some ad → W.heap.size ≤ ad.block) ∧ Leaves B t t.length W W'
theorem grown_trans {X Y Z : World} {r : Option Nat} (h : X.grownBy Y r) (k : Y.grownBy Z r) : X.grownBy Z r :=
  ⟨k.os.trans h.os, k.tape.trans h.tape, k.output.trans h.output, Nat.le_trans h.size k.size, fun j hj hr => (k.block j (Nat.lt_of_lt_of_le hj h.size) hr).trans (h.block j hj hr)⟩
theorem grown_new {X Y Z : World} {B : Nat} (h : X.grownBy Y (some B)) (k : Y.grownBy Z (some B)) : X.grownBy Z (some B) := grown_trans h k
theorem grown_own {X Y : World} {B g i : Nat} {v : Value} (h : X.grownBy Y (some B)) (hg : X.heap.size ≤ g) : X.grownBy (Y.setCell ⟨g, i, none⟩ v) (some B) :=
  ⟨h.os, h.tape, h.output, by simpa using h.size, fun j hj hr => (Below.heap_setCell _ _ _ j (by show j ≠ g; omega)).trans (h.block j hj hr)⟩
theorem cells_row {w : World} {g : Nat} {cs : List Value} {T : TypeId} (h : w.heap[g]? = some (.cells cs.toArray T (0, 0))) (j : Nat) : w.cell? ⟨g, j, none⟩ = cs[j]? ∧ w.frozen? ⟨g, j, none⟩ = false := by
  constructor
  · unfold World.cell?; rw [h]; simp
  · unfold World.frozen?; rw [h]; simp
theorem rd_row {w : World} {g : Nat} {cs : List Value} {T : TypeId} (h : w.heap[g]? = some (.cells cs.toArray T (0, 0))) : Kit.Rd w w.heap.size (some ⟨g, 0, none⟩) cs := by
  intro j u hu
  refine ⟨_, rfl, (Array.getElem?_eq_some_iff.1 h).1, ?_⟩
  have e : (⟨g, 0, none⟩ : Addr).add j = ⟨g, j, none⟩ := by
    unfold Addr.add; split
    · rename_i h; subst h; rfl
    · simp
  rw [e, (cells_row h j).1]; exact hu
theorem made_filled (w : World) (z : Value) (n : Nat) (T : TypeId) (L : List Value) (hL : L.length = n) : (w.alloc (.cells (madeCells #[z] n) T)).heap[w.heap.size]? = some (.cells (Kit.filled L z 0).toArray T (0, 0)) := by
  rw [heap_alloc_new]
  refine congrArg (fun a => some (Obj.cells a T (0, 0))) ?_
  apply Array.ext'
  rw [toList_madeCells_one, Kit.filled_zero, hL]
theorem filled_store {w : World} {g q : Nat} {L : List Value} {z : Value} {T : TypeId} (h : w.heap[g]? = some (.cells (Kit.filled L z q).toArray T (0, 0))) (hq : q < L.length) (v : Value) (hv : L[q] = v) :
    (w.setCell ⟨g, q, none⟩ v).heap[g]? = some (.cells (Kit.filled L z (q + 1)).toArray T (0, 0)) := by
  rw [Joins.block_setCell h v, ← Kit.filled_set L z hq, hv]
  simp
set_option maxRecDepth 100000 in
set_option maxHeartbeats 2000000 in
theorem list32_to (B : Nat) (W : World) (hBW : B < W.heap.size) (A : Option Addr) (zs ws t : List Int) (n c m : Nat) (hn : zs.length = n) (hc : n ≤ c) (hl : n ≤ 1000000) (hb : Bytes zs) (hm : ws.length = m) (hml : m ≤ 1000) (hz : zs = encZ ws ++ t) (hw : I32s ws) (hrd : ReaderAt B A n c W) (hr : Kit.Rd W B A (bytesV zs)) :
    Calls Try.prog 31 #[.pointer (some ⟨B, 0, none⟩), .int .i64 (m : Int), .func (.func 32) #[.pointer (some ⟨B, 0, none⟩)] #[]] W (ReadsL B (ws.map (.int .i32)) m t W) := by
  by_cases hm0 : m = 0
  · subst hm0
    obtain rfl : ws = [] := List.eq_nil_of_length_eq_zero hm
    obtain rfl : zs = t := by simpa [encZ] using hz
    subst hn
    have HL := Lib.hid (⟨A, c, hrd, hc, hr, ⟨rfl, rfl, rfl, Nat.le_refl _, fun _ _ _ => rfl⟩⟩ : Leaves B zs zs.length W W)
    clear hrd hr hz
    go_enter Try.func31, Try.ntmps31
    go_wp2_with fail
    go_ret
    exact ⟨none, 0, rfl, Kit.Rd.nil, (fun _ h => nomatch h), HL.out⟩
  · have hmn : m ≤ n := by rw [← hn, hz, List.length_append, ← hm]; have := (encZ_len ws hw).1; omega
    have hmI : (1 : Int) ≤ (m : Int) := by omega
    have hmJ : ¬ (m : Int) < 1 := by omega
    have hmK : (m : Int) ≤ (n : Int) := by omega
    have hmL : ¬ (n : Int) < (m : Int) := by omega
    have hmk := run_make_row' (P := Try.prog) 24 21 (.int .i32 0) 4 Try.underlying24 info_i32 rfl .i64 .i64 m (by omega) (by omega)
    have HMD := Lib.hid (made_filled W (.int .i32 0) m 21 (ws.map (.int .i32)) (by simpa using hm))
    have HM := Lib.hid hm
    have HNL := Lib.hid hn
    have HW := Lib.hid hw
    have HZB := Lib.hid hb
    have HZ := Lib.hid hz
    have HRST : Hid (∃ A c, ReaderAt B A (encZ (ws.drop 0) ++ t).length c (W.alloc (.cells (madeCells #[.int .i32 0] m) 21)) ∧ (encZ (ws.drop 0) ++ t).length ≤ c ∧ Kit.Rd (W.alloc (.cells (madeCells #[.int .i32 0] m) 21)) B A (bytesV (encZ (ws.drop 0) ++ t))) := by
      have e : encZ (ws.drop 0) ++ t = zs := by rw [hz]; rfl
      rw [e, hn]
      exact Lib.hid ⟨A, c, ⟨(World.cell?_alloc_lt _ _ _ hBW).trans hrd.1, (World.cell?_alloc_lt _ _ _ hBW).trans hrd.2.1, (World.frozen?_alloc_old _ _ _ (show B ≠ _ by omega)).trans hrd.2.2⟩, hc, hr.alloc (by omega) _⟩
    have HG : Hid (W.grownBy (W.alloc (.cells (madeCells #[.int .i32 0] m) 21)) (some B)) := Lib.hid (World.grownBy_alloc W _ (some B))
    obtain ⟨h1, h2, h3⟩ := hrd
    have hgB1 : ¬ W.heap.size = B := by omega
    have hgB2 : ¬ B = W.heap.size := by omega
    clear hn hm hz hr hw hb
    go_enter Try.func31, Try.ntmps31
    go_wp2_with fail
    go_loopw [28] (fun i wr => ∃ q : Nat, q ≤ m ∧ i = .int .i64 q ∧ Hid (wr.heap[W.heap.size]? = some (.cells (Kit.filled (ws.map (.int .i32)) (.int .i32 0) q).toArray 21 (0, 0))) ∧ Hid (∃ A c, ReaderAt B A (encZ (ws.drop q) ++ t).length c wr ∧ (encZ (ws.drop q) ++ t).length ≤ c ∧ Kit.Rd wr B A (bytesV (encZ (ws.drop q) ++ t))) ∧ Hid (W.grownBy wr (some B))) (fun i _ => m - (intOf i).toNat)
    case atStart => exact ⟨0, Nat.zero_le _, rfl, HMD, HRST, HG⟩
    case round =>
      obtain ⟨q, hq, rfl, hH, hRS, hG⟩ := hrel
      clear HMD HRST HG hmk h1 h2 h3
      by_cases hlt : q < m
      · have hqw : q < ws.length := by have := HM.out; omega
        have hqI : (q : Int) < (m : Int) := by omega
        have hdrop : ws.drop q = ws[q] :: ws.drop (q + 1) := (List.getElem_cons_drop hqw).symm
        have hzr := HW.out ws[q] (List.getElem_mem hqw)
        have hLq : (ws.map (Value.int .i32))[q]'(by simpa using hqw) = .int .i32 ws[q] := by simp
        have hsp : zs = encZ (ws.take q) ++ (encZ (ws.drop q) ++ t) := by rw [← List.append_assoc, ← encZ_app, List.take_append_drop]; exact HZ.out
        have hbq : Bytes (encZ (ws.drop q) ++ t) := fun x hx => HZB.out x (by rw [hsp]; exact List.mem_append_right _ hx)
        obtain ⟨Aq, cq, hRq, hcq, hrq⟩ := hRS.out
        have hnq : (encZ (ws.drop q) ++ t).length ≤ 1000000 := by have := congrArg List.length hsp; rw [List.length_append] at this; have := HNL.out; omega
        clear hsp
        rw [hdrop] at hRq hcq hrq hbq hnq
        generalize ws[q] = z at hdrop hzr hLq hRq hcq hrq hbq hnq
        obtain ⟨z1, z2⟩ := hzr
        obtain ⟨f1, f2⟩ := foldZ_bd (v := z) (by omega) (by omega)
        have e9 : encZ (z :: ws.drop (q + 1)) ++ t = digZ (foldZ z) ++ (encZ (ws.drop (q + 1)) ++ t) := by simp [encZ]
        rw [e9] at hRq hcq hrq hbq hnq
        have hC := wideM_to B wr Aq _ _ cq rfl hcq hnq hbq (foldZ z) (digZ (foldZ z)).length (getR_dig f1 f2 _) z (unfold_fold z) z1 z2 hRq hrq
        rw [List.drop_left, List.length_append, Nat.add_sub_cancel_left] at hC
        have HC := Lib.hid hC
        clear hC hbq hnq e9
        have HLQ := Lib.hid hLq
        clear hdrop hRq hcq hrq hLq
        go_wp2_with (
          go_at_call 32
          refine (HC.out).mono ?_
          rintro e w1 ⟨rfl, A1, c1, hr1, hc1, hrr1, hg1⟩
          have hH1 : w1.heap[W.heap.size]? = some (.cells (Kit.filled (ws.map (.int .i32)) (.int .i32 0) q).toArray 21 (0, 0)) := (hg1.block W.heap.size (Array.getElem?_eq_some_iff.1 hH.out).1 (fun h => hgB1 (Option.some.inj h))).trans hH.out
          obtain ⟨k1, k2⟩ := cells_row hH1 q
          rw [Kit.filled_at _ _ (by simpa using hqw)] at k1
          have HH1 := Lib.hid (filled_store hH1 (by simpa using hqw) _ HLQ.out)
          have HG1 := Lib.hid (grown_own (g := W.heap.size) (i := q) (v := .int .i32 z) (grown_trans hG.out hg1) (Nat.le_refl _))
          have HR1 : Hid (∃ A c, ReaderAt B A (encZ (ws.drop (q + 1)) ++ t).length c (w1.setCell ⟨W.heap.size, q, none⟩ (.int .i32 z)) ∧ (encZ (ws.drop (q + 1)) ++ t).length ≤ c ∧ Kit.Rd (w1.setCell ⟨W.heap.size, q, none⟩ (.int .i32 z)) B A (bytesV (encZ (ws.drop (q + 1)) ++ t))) := by
            refine Lib.hid ⟨A1, c1, ⟨(World.cell?_setCell_other _ _ _ _ (fun h => hgB1 (congrArg Addr.block h))).trans hr1.1, (World.cell?_setCell_other _ _ _ _ (fun h => hgB1 (congrArg Addr.block h))).trans hr1.2.1, (World.frozen?_setCell _ _ _ _).trans hr1.2.2⟩, hc1, hrr1.setCell (by show B ≤ W.heap.size; omega) _⟩
          have k3 := hr1.2.1
          clear hr1 hc1 hrr1 hg1 hH1)
        go_roundw
        case rel => exact ⟨q + 1, by omega, by go_num, HH1, HR1, HG1⟩
        case measure => simp [intOf]; omega
      · obtain rfl : q = m := by omega
        go_wp2_with fail
        go_ret
        have hf := hH.out
        rw [Kit.filled_all _ _ (by have := HM.out; simp; omega)] at hf
        obtain ⟨A1, c1, hr1, hc1, hrr1⟩ := hRS.out
        have e : encZ (ws.drop q) ++ t = t := by rw [List.drop_eq_nil_of_le (by have := HM.out; omega)]; simp [encZ]
        rw [e] at hr1 hc1 hrr1
        exact ⟨_, _, rfl, rd_row hf, (fun ad h => by cases h; exact Nat.le_refl _), ⟨A1, c1, hr1, hc1, hrr1, hG.out⟩⟩
set_option maxRecDepth 100000 in
set_option maxHeartbeats 2000000 in
theorem list8_to (B : Nat) (W : World) (hBW : B < W.heap.size) (A : Option Addr) (zs ws t : List Int) (n c m : Nat) (hn : zs.length = n) (hc : n ≤ c) (hl : n ≤ 1000000) (hb : Bytes zs) (hm : ws.length = m) (hml : m ≤ 1000) (hz : zs = smallZ ws ++ t) (hw : I8r ws) (hrd : ReaderAt B A n c W) (hr : Kit.Rd W B A (bytesV zs)) :
    Calls Try.prog 33 #[.pointer (some ⟨B, 0, none⟩), .int .i64 (m : Int), .func (.func 34) #[.pointer (some ⟨B, 0, none⟩)] #[]] W (ReadsL B (ws.map (.int .i8)) m t W) := by
  by_cases hm0 : m = 0
  · subst hm0
    obtain rfl : ws = [] := List.eq_nil_of_length_eq_zero hm
    obtain rfl : zs = t := by simpa [smallZ] using hz
    subst hn
    have HL := Lib.hid (⟨A, c, hrd, hc, hr, ⟨rfl, rfl, rfl, Nat.le_refl _, fun _ _ _ => rfl⟩⟩ : Leaves B zs zs.length W W)
    clear hrd hr hz
    go_enter Try.func33, Try.ntmps33
    go_wp2_with fail
    go_ret
    exact ⟨none, 0, rfl, Kit.Rd.nil, (fun _ h => nomatch h), HL.out⟩
  · have hmn : m ≤ n := by rw [← hn, hz, List.length_append, ← hm]; simp [smallZ]
    have hmI : (1 : Int) ≤ (m : Int) := by omega
    have hmJ : ¬ (m : Int) < 1 := by omega
    have hmK : (m : Int) ≤ (n : Int) := by omega
    have hmL : ¬ (n : Int) < (m : Int) := by omega
    have hmk := run_make_row' (P := Try.prog) 23 50 (.int .i8 0) 1 Try.underlying23 info_i8 rfl .i64 .i64 m (by omega) (by omega)
    have HMD := Lib.hid (made_filled W (.int .i8 0) m 50 (ws.map (.int .i8)) (by simpa using hm))
    have HM := Lib.hid hm
    have HNL := Lib.hid hn
    have HW := Lib.hid hw
    have HZB := Lib.hid hb
    have HZ := Lib.hid hz
    have HRST : Hid (∃ A c, ReaderAt B A (smallZ (ws.drop 0) ++ t).length c (W.alloc (.cells (madeCells #[.int .i8 0] m) 50)) ∧ (smallZ (ws.drop 0) ++ t).length ≤ c ∧ Kit.Rd (W.alloc (.cells (madeCells #[.int .i8 0] m) 50)) B A (bytesV (smallZ (ws.drop 0) ++ t))) := by
      have e : smallZ (ws.drop 0) ++ t = zs := by rw [hz]; rfl
      rw [e, hn]
      exact Lib.hid ⟨A, c, ⟨(World.cell?_alloc_lt _ _ _ hBW).trans hrd.1, (World.cell?_alloc_lt _ _ _ hBW).trans hrd.2.1, (World.frozen?_alloc_old _ _ _ (show B ≠ _ by omega)).trans hrd.2.2⟩, hc, hr.alloc (by omega) _⟩
    have HG : Hid (W.grownBy (W.alloc (.cells (madeCells #[.int .i8 0] m) 50)) (some B)) := Lib.hid (World.grownBy_alloc W _ (some B))
    obtain ⟨h1, h2, h3⟩ := hrd
    have hgB1 : ¬ W.heap.size = B := by omega
    have hgB2 : ¬ B = W.heap.size := by omega
    clear hn hm hz hr hw hb
    go_enter Try.func33, Try.ntmps33
    go_wp2_with fail
    go_loopw [28] (fun i wr => ∃ q : Nat, q ≤ m ∧ i = .int .i64 q ∧ Hid (wr.heap[W.heap.size]? = some (.cells (Kit.filled (ws.map (.int .i8)) (.int .i8 0) q).toArray 50 (0, 0))) ∧ Hid (∃ A c, ReaderAt B A (smallZ (ws.drop q) ++ t).length c wr ∧ (smallZ (ws.drop q) ++ t).length ≤ c ∧ Kit.Rd wr B A (bytesV (smallZ (ws.drop q) ++ t))) ∧ Hid (W.grownBy wr (some B))) (fun i _ => m - (intOf i).toNat)
    case atStart => exact ⟨0, Nat.zero_le _, rfl, HMD, HRST, HG⟩
    case round =>
      obtain ⟨q, hq, rfl, hH, hRS, hG⟩ := hrel
      clear HMD HRST HG hmk h1 h2 h3
      by_cases hlt : q < m
      · have hqw : q < ws.length := by have := HM.out; omega
        have hqI : (q : Int) < (m : Int) := by omega
        have hdrop : ws.drop q = ws[q] :: ws.drop (q + 1) := (List.getElem_cons_drop hqw).symm
        have hzr := HW.out ws[q] (List.getElem_mem hqw)
        have hLq : (ws.map (Value.int .i8))[q]'(by simpa using hqw) = .int .i8 ws[q] := by simp
        have hsp : zs = smallZ (ws.take q) ++ (smallZ (ws.drop q) ++ t) := by rw [← List.append_assoc, ← smallZ_app, List.take_append_drop]; exact HZ.out
        have hbq : Bytes (smallZ (ws.drop q) ++ t) := fun x hx => HZB.out x (by rw [hsp]; exact List.mem_append_right _ hx)
        obtain ⟨Aq, cq, hRq, hcq, hrq⟩ := hRS.out
        have hnq : (smallZ (ws.drop q) ++ t).length ≤ 1000000 := by have := congrArg List.length hsp; rw [List.length_append] at this; have := HNL.out; omega
        clear hsp
        rw [hdrop] at hRq hcq hrq hbq hnq
        generalize ws[q] = z at hdrop hzr hLq hRq hcq hrq hbq hnq
        obtain ⟨z1, z2⟩ := hzr
        obtain ⟨bb, hbb⟩ : ∃ bb, z % 256 = bb := ⟨_, rfl⟩
        have e9 : smallZ (z :: ws.drop (q + 1)) ++ t = bb :: (smallZ (ws.drop (q + 1)) ++ t) := by simp [smallZ, hbb]
        rw [e9] at hRq hcq hrq hbq hnq
        have hC := smallM_to B wr Aq bb _ _ cq rfl hcq hnq ⟨by omega, by omega⟩ hRq hrq
        rw [List.length_cons, Nat.add_sub_cancel] at hC
        have hcv1 : IntKind.i8.wrap bb = z := by rw [show IntKind.i8.wrap bb = (bb + 128) % 256 - 128 by simp [IntKind.wrap, IntKind.bits, IntKind.signed]; omega]; omega
        have hcv2 : (bb + 128) % 256 - 128 = z := by omega
        have HC := Lib.hid hC
        have HBB := Lib.hid hbb
        clear hC hbq hnq e9 hbb
        have HLQ := Lib.hid hLq
        clear hdrop hRq hcq hrq hLq
        go_wp2_with (
          go_at_call 34
          refine (HC.out).mono ?_
          rintro e w1 ⟨rfl, A1, c1, hr1, hc1, hrr1, hg1⟩
          have hH1 : w1.heap[W.heap.size]? = some (.cells (Kit.filled (ws.map (.int .i8)) (.int .i8 0) q).toArray 50 (0, 0)) := (hg1.block W.heap.size (Array.getElem?_eq_some_iff.1 hH.out).1 (fun h => hgB1 (Option.some.inj h))).trans hH.out
          obtain ⟨k1, k2⟩ := cells_row hH1 q
          rw [Kit.filled_at _ _ (by simpa using hqw)] at k1
          have HH1 := Lib.hid (filled_store hH1 (by simpa using hqw) _ HLQ.out)
          have HG1 := Lib.hid (grown_own (g := W.heap.size) (i := q) (v := .int .i8 z) (grown_trans hG.out hg1) (Nat.le_refl _))
          have HR1 : Hid (∃ A c, ReaderAt B A (smallZ (ws.drop (q + 1)) ++ t).length c (w1.setCell ⟨W.heap.size, q, none⟩ (.int .i8 z)) ∧ (smallZ (ws.drop (q + 1)) ++ t).length ≤ c ∧ Kit.Rd (w1.setCell ⟨W.heap.size, q, none⟩ (.int .i8 z)) B A (bytesV (smallZ (ws.drop (q + 1)) ++ t))) := by
            refine Lib.hid ⟨A1, c1, ⟨(World.cell?_setCell_other _ _ _ _ (fun h => hgB1 (congrArg Addr.block h))).trans hr1.1, (World.cell?_setCell_other _ _ _ _ (fun h => hgB1 (congrArg Addr.block h))).trans hr1.2.1, (World.frozen?_setCell _ _ _ _).trans hr1.2.2⟩, hc1, hrr1.setCell (by show B ≤ W.heap.size; omega) _⟩
          have k3 := hr1.2.1
          clear hr1 hc1 hrr1 hg1 hH1)
        go_roundw
        case rel => exact ⟨q + 1, by omega, by go_num, HH1, HR1, HG1⟩
        case measure => simp [intOf]; omega
      · obtain rfl : q = m := by omega
        go_wp2_with fail
        go_ret
        have hf := hH.out
        rw [Kit.filled_all _ _ (by have := HM.out; simp; omega)] at hf
        obtain ⟨A1, c1, hr1, hc1, hrr1⟩ := hRS.out
        have e : smallZ (ws.drop q) ++ t = t := by rw [List.drop_eq_nil_of_le (by have := HM.out; omega)]; simp [smallZ]
        rw [e] at hr1 hc1 hrr1
        exact ⟨_, _, rfl, rd_row hf, (fun ad h => by cases h; exact Nat.le_refl _), ⟨A1, c1, hr1, hc1, hrr1, hG.out⟩⟩
end Go.Proofs.Ytkmcmaickopobac.COctet
