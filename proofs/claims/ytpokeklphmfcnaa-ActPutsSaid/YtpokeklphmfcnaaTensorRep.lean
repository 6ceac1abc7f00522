/- Contracts of package tensor (layer 5): a number many times. -/
import Derived.Test.YtpokeklphmfcnaaTensor
import Derived.Test.YtpokeklphmfcnaaShelf
import Derived.Laws.CopyOwn
import Derived.Laws.AppendOwn
import Derived.Deep.OwnRows
import Derived.IntWalk
namespace Go.Proofs.Ytpokeklphmfcnaa.CTensor
open Go Go.ChangeShapes Go.WideShapes Go.ChangeAt Go.RowKit
open Plain CSat CShape
set_option linter.unusedVariables false

theorem mul_one_n (n : Nat) (hn : n < 18446744073709551616) (w : World) :
    Calls Try.prog 42 #[.int .u64 1, .int .u64 (n : Int)] w fun e w' => e = .returned (.tuple #[.int .u64 0, .int .u64 (n : Int)]) ∧ w = w' := by
  have h := Try.bits_Mul 1 n (by omega) hn w
  rw [Nat.one_mul, Nat.div_eq_of_lt hn, Nat.mod_eq_of_lt hn] at h
  exact h.mono fun e w' ⟨he, hw⟩ => ⟨he, hw.symm⟩
/-- q numbers, and zeros behind them. -/
def partly (x : Int) (n q : Nat) : List Value := List.replicate q (.int .i8 x) ++ List.replicate (n - q) (.int .i8 0)
theorem partly_len (x : Int) {n q : Nat} (h : q ≤ n) : (partly x n q).length = n := by simp [partly]; omega
theorem partly_splice (x : Int) {n q m : Nat} (h : q + m ≤ n) : splice (partly x n q) q (List.replicate m (.int .i8 x)) = partly x n (q + m) := by
  unfold splice partly
  rw [List.take_left' (by simp), List.length_replicate, List.drop_append, List.length_replicate, List.drop_eq_nil_of_le (by simp), List.nil_append, List.drop_replicate, ← List.append_assoc, List.replicate_append_replicate]
  congr 2; omega
theorem partly_at (x : Int) {n q j : Nat} (h : j < q) : (partly x n q)[j]? = some (.int .i8 x) := by
  unfold partly
  rw [List.getElem?_append_left (by simpa using h), List.getElem?_replicate, if_pos h]
theorem rd_one {w : World} {B : Nat} {A : Option Addr} {x : Value} (h : Kit.Rd w B A [x]) : ∃ ad, A = some ad ∧ ∀ j v, [x][j]? = some v → w.cell? (ad.add j) = some v := by
  obtain ⟨ad, rfl, _, _⟩ := h 0 x rfl
  refine ⟨ad, rfl, fun j v hv => ?_⟩
  obtain ⟨ad2, e, _, hc⟩ := h j v hv
  cases e; exact hc
theorem made_partly (w : World) (x : Int) (n : Nat) : (w.alloc (.cells (madeCells #[Value.int .i8 0] n) 27)).heap[w.heap.size]? = some (.cells (partly x n 0).toArray 27 (0, 0)) := by
  rw [heap_alloc_new]
  refine congrArg (fun a => some (Obj.cells a 27 (0, 0))) ?_
  apply Array.ext'
  rw [toList_madeCells_one]
  simp [partly]
theorem part_src {w : World} {g : Nat} {x : Int} {n q m : Nat} {T : TypeId} (h : w.heap[g]? = some (.cells (partly x n q).toArray T (0, 0))) (hm : m ≤ q) :
    ∀ j v, (List.replicate m (Value.int .i8 x))[j]? = some v → w.cell? ((⟨g, 0, none⟩ : Addr).add j) = some v := by
  intro j v hv
  have e : (⟨g, 0, none⟩ : Addr).add j = ⟨g, j, none⟩ := by
    unfold Addr.add; split
    · rename_i h; subst h; rfl
    · simp
  rw [List.getElem?_replicate] at hv
  split at hv
  · rename_i hj
    cases hv
    rw [e]
    unfold World.cell?
    rw [h]
    have := partly_at x (n := n) (q := q) (j := j) (by omega)
    simpa using this
  · cases hv
theorem repeat_to (A : Option Addr) (x : Int) (c n : Nat) (h1 : 1 ≤ n) (hl : n ≤ 1000000) {B : Nat} (w : World) (hB : B ≤ w.heap.size) (hr : Kit.Rd w B A (I8s [x])) :
    Calls Try.prog 40 #[.slice A 1 c, .int .i64 (n : Int)] w (Owned w n (I8s (List.replicate n x))) := by
  have HR := Lib.hid hr
  have hnI : (n : Int) ≤ 1000000 := by omega
  have hnJ : (1 : Int) ≤ (n : Int) := by omega
  have hbig : decide (9223372036854775807 < (n : Int)) = false := by simp; omega
  clear hr
  have hmk := run_make_row' (P := Try.prog) 24 27 (.int .i8 0) 1 Try.underlying24 info_i8 rfl .i64 .i64 n (by omega) (by omega)
  have hsz : (Try.prog.info? 27).map (·.size) = some 1 := by kernel_rfl
  have HSZ := Lib.hid hsz
  clear hsz
  go_enter Try.func40, Try.ntmps40
  go_wp2_with (first
    | (go_at_call 42; (refine (mul_one_n n (by omega) _).mono ?_); rintro e w' ⟨rfl, rfl⟩)
    | (refine wpList_copy_splice rfl (.tmp 31) (.tmp 32) _ _ rfl 27 Try.underlying24 HSZ.out (some ⟨w.heap.size, 0, none⟩) A n n 1 c rfl rfl w.heap.size 0 (partly x n 0) 27 (made_partly w x n) [.int .i8 x] (by show 1 = min 1 n; omega) (fun _ => ⟨rfl, rd_one ((HR.out.alloc hB _))⟩) (by rw [partly_len x (Nat.zero_le _)]; simpa using h1) (Kit.ints_one .i8 [x]) w.heap.size w ((Below.refl _ _).alloc (Nat.le_refl _) _) (Nat.le_refl _) ?_
       intro w2 HG hb2
       have HB := Lib.hid hb2
       have hsp := partly_splice x (n := n) (q := 0) (m := 1) (by omega)
       have HG1 : Hid (w2.heap[w.heap.size]? = some (.cells (partly x n 1).toArray 27 (0, 0))) := by
         have := HG.out
         rw [show [Value.int .i8 x] = List.replicate 1 (Value.int .i8 x) from rfl, hsp] at this
         exact Lib.hid this
       clear hb2 HG hsp))
  go_loopw [8] (fun i wr => ∃ q : Nat, 1 ≤ q ∧ q ≤ n ∧ i = .int .i64 q ∧ Hid (wr.heap[w.heap.size]? = some (.cells (partly x n q).toArray 27 (0, 0))) ∧ Hid (Below w.heap.size w wr)) (fun i _ => n - (intOf i).toNat)
  case atStart => exact ⟨1, Nat.le_refl _, h1, rfl, HG1, HB⟩
  case round =>
    obtain ⟨q, hq1, hq, rfl, hG, hBw⟩ := hrel
    clear HG1 HB
    by_cases hlt : q < n
    · have hqI : (q : Int) < (n : Int) := by omega
      have hqJ : (1 : Int) ≤ (q : Int) := by omega
      have hne : ¬ n = q := by omega
      obtain ⟨m, hm⟩ : ∃ m, min q (n - q) = m := ⟨_, rfl⟩
      have hm1 : 1 ≤ m := by omega
      have hmq : m ≤ q := by omega
      have hmn : q + m ≤ n := by omega
      have HM := Lib.hid hm
      clear hm
      go_wp2_with fail
      refine wp_region_held_drew (S := fun w' => True) (by kernel_rfl) trivial (fun hHeld => ?_)
      refine wpAnyH_take (i := 0) (oi := ({ dst := some 38, op := Op.move (Operand.tmp 8), type := 3, pos := "slices.go:528", after := #[], guard := none } : Oper)) (v := ?_) rfl (by kernel_rfl) (by kernel_rfl) (by kernel_rfl) (fun _ _ _ h => h) (Or.inl ⟨by rfl, ?_⟩) (by assumption) ?_
      rotate_left
      · intro wS hSw
        first
          | (go_simp; done)
          | (go_simp; with_reducible rfl)
      try simp only [Act.put, List.setIfInBounds_toArray, List.set_cons_zero, List.set_cons_succ]
      refine wpAnyH_take (i := 1) (oi := ({ dst := some 39, op := Op.move (Operand.tmp 7), type := 24, pos := "slices.go:528", after := #[], guard := none } : Oper)) (v := ?_) rfl (by kernel_rfl) (by kernel_rfl) (by kernel_rfl) (fun _ _ _ h => h) (Or.inl ⟨by rfl, ?_⟩) (by assumption) ?_
      rotate_left
      · intro wS hSw
        first
          | (go_simp; done)
          | (go_simp; with_reducible rfl)
      try simp only [Act.put, List.setIfInBounds_toArray, List.set_cons_zero, List.set_cons_succ]
      refine wpAnyH_take (i := 2) (oi := ({ dst := some 40, op := Op.move (Operand.tmp 8), type := 3, pos := "slices.go:528", after := #[], guard := none } : Oper)) (v := ?_) rfl (by kernel_rfl) (by kernel_rfl) (by kernel_rfl) (fun _ _ _ h => h) (Or.inl ⟨by rfl, ?_⟩) (by assumption) ?_
      rotate_left
      · intro wS hSw
        first
          | (go_simp; done)
          | (go_simp; with_reducible rfl)
      try simp only [Act.put, List.setIfInBounds_toArray, List.set_cons_zero, List.set_cons_succ]
      refine wpAnyH_take (i := 3) (oi := ({ dst := some 41, op := Op.slice 24 (Operand.tmp 39) (some (Operand.tmp 40)) none none, type := 24, pos := "slices.go:528", after := #[{ on := 1, ground := Ground.data }, { on := 2, ground := Ground.data }], guard := none } : Oper)) (v := ?_) rfl (by kernel_rfl) (by kernel_rfl) (by kernel_rfl) (fun _ _ _ h => h) (Or.inl ⟨by rfl, ?_⟩) (by assumption) ?_
      rotate_left
      · intro wS hSw
        first
          | (go_simp; done)
          | (go_simp; with_reducible rfl)
      try simp only [Act.put, List.setIfInBounds_toArray, List.set_cons_zero, List.set_cons_succ]
      refine wpAnyH_take (i := 4) (oi := ({ dst := some 42, op := Op.move (Operand.tmp 7), type := 24, pos := "slices.go:528", after := #[], guard := none } : Oper)) (v := ?_) rfl (by kernel_rfl) (by kernel_rfl) (by kernel_rfl) (fun _ _ _ h => h) (Or.inl ⟨by rfl, ?_⟩) (by assumption) ?_
      rotate_left
      · intro wS hSw
        first
          | (go_simp; done)
          | (go_simp; with_reducible rfl)
      try simp only [Act.put, List.setIfInBounds_toArray, List.set_cons_zero, List.set_cons_succ]
      refine wpAnyH_take (i := 5) (oi := ({ dst := some 43, op := Op.move (Operand.tmp 8), type := 3, pos := "slices.go:528", after := #[], guard := none } : Oper)) (v := ?_) rfl (by kernel_rfl) (by kernel_rfl) (by kernel_rfl) (fun _ _ _ h => h) (Or.inl ⟨by rfl, ?_⟩) (by assumption) ?_
      rotate_left
      · intro wS hSw
        first
          | (go_simp; done)
          | (go_simp; with_reducible rfl)
      try simp only [Act.put, List.setIfInBounds_toArray, List.set_cons_zero, List.set_cons_succ]
      refine wpAnyH_take (i := 6) (oi := ({ dst := some 44, op := Op.slice 24 (Operand.tmp 42) none (some (Operand.tmp 43)) none, type := 24, pos := "slices.go:528", after := #[{ on := 4, ground := Ground.data }, { on := 5, ground := Ground.data }], guard := none } : Oper)) (v := ?_) rfl (by kernel_rfl) (by kernel_rfl) (by kernel_rfl) (fun _ _ _ h => h) (Or.inl ⟨by rfl, ?_⟩) (by assumption) ?_
      rotate_left
      · intro wS hSw
        first
          | (go_simp; done)
          | (go_simp; with_reducible rfl)
      try simp only [Act.put, List.setIfInBounds_toArray, List.set_cons_zero, List.set_cons_succ]
      refine wpAnyH_ready (rs := [7]) (by kernel_rfl) (by simp) ?_
      refine AllReadyH.cons (o := ({ dst := some 45, op := Op.call { callee := Callee.builtin Builtin.copy, args := #[Operand.tmp 41, Operand.tmp 44], argTypes := #[24, 24] }, type := 3, pos := "slices.go:528", after := #[{ on := 3, ground := Ground.data }, { on := 6, ground := Ground.data }], guard := none } : Oper)) rfl (fun K hK => ?_) (AllReadyH.nil)
      refine step_copy_splice rfl (.tmp 41) (.tmp 44) _ _ rfl 27 Try.underlying24 HSZ.out (some ⟨w.heap.size, q, none⟩) (some ⟨w.heap.size, 0, none⟩) (n - q) (n - q) q n rfl rfl w.heap.size q (partly x n q) 27 hG.out (List.replicate m (.int .i8 x)) (by simpa [Nat.min_def] using HM.out.symm) (fun _ => ⟨rfl, ⟨_, rfl, part_src hG.out hmq⟩⟩) (by rw [partly_len x hq, List.length_replicate]; exact hmn) (by intro v hv; rw [List.eq_of_mem_replicate hv]; rfl) w.heap.size w hBw.out.drew (Nat.le_refl _) ?_
      intro w3 HG3 hb3
      have HB3 := Lib.hid hb3
      have HG4 : Hid (w3.heap[w.heap.size]? = some (.cells (partly x n (q + m)).toArray 27 (0, 0))) := by
        have := HG3.out
        rw [partly_splice x hmn] at this
        exact Lib.hid this
      have hsum : goInt (List.replicate m (Value.int .i8 x)).length = .int .i64 (m : Int) := by simp [goInt]
      rw [hsum]
      clear hb3 HG3 hsum
      have hwr : IntKind.i64.wrap ((q : Int) + (m : Int)) = (q : Int) + (m : Int) := IntWalk.i64_in _ (by omega)
      dsimp only
      refine hK.out _ _ ?_ (fun hHeld => ?_)
      · exact trivial
      clear hK K
      try simp only [Act.put, List.setIfInBounds_toArray, List.set_cons_zero, List.set_cons_succ]
      refine wpAnyH_take (i := 8) (oi := ({ dst := some 46, op := Op.binOp BinOp.add 3 (Operand.tmp 38) (Operand.tmp 45) 3, type := 3, pos := "slices.go:528", after := #[{ on := 0, ground := Ground.data }, { on := 7, ground := Ground.data }], guard := none } : Oper)) (v := ?_) rfl (by kernel_rfl) (by kernel_rfl) (by kernel_rfl) (fun _ _ _ h => h) (Or.inl ⟨by rfl, ?_⟩) (by assumption) ?_
      rotate_left
      · intro wS hSw
        first
          | (go_simp; done)
          | (go_simp; with_reducible rfl)
      try simp only [Act.put, List.setIfInBounds_toArray, List.set_cons_zero, List.set_cons_succ]
      refine wpAnyH_take (i := 9) (oi := ({ dst := some 8, op := Op.assign (Operand.tmp 46), type := 3, pos := "slices.go:528", after := #[{ on := 8, ground := Ground.data }, { on := 7, ground := Ground.chain }, { on := 0, ground := Ground.phase }, { on := 1, ground := Ground.phase }, { on := 2, ground := Ground.phase }, { on := 3, ground := Ground.phase }, { on := 4, ground := Ground.phase }, { on := 5, ground := Ground.phase }, { on := 6, ground := Ground.phase }, { on := 7, ground := Ground.phase }, { on := 8, ground := Ground.phase }], guard := none } : Oper)) (v := ?_) rfl (by kernel_rfl) (by kernel_rfl) (by kernel_rfl) (fun _ _ _ h => h) (Or.inl ⟨by rfl, ?_⟩) (by assumption) ?_
      rotate_left
      · intro wS hSw
        first
          | (go_simp; done)
          | (go_simp; with_reducible rfl)
      try simp only [Act.put, List.setIfInBounds_toArray, List.set_cons_zero, List.set_cons_succ]
      refine wpAnyH_done (by kernel_rfl) ?_ _
      clear hwr
      go_wp2_with fail
      go_roundw
      case rel => exact ⟨q + m, by omega, by omega, by go_num, HG4, HB3⟩
      case measure => simp [intOf]; omega
    · obtain rfl : q = n := by omega
      go_wp2_with fail
      go_ret
      refine ⟨_, rfl, ⟨by simp [I8s], .inr ⟨w.heap.size, q, (partly x q q).toArray, rfl, Nat.le_refl _, hG.out, Nat.le_refl _, by unfold maxLen; omega, by simp [partly], by simp [partly, I8s]⟩⟩, hBw.out⟩
end Go.Proofs.Ytpokeklphmfcnaa.CTensor
