/- Layer 13 (lower): pieces of a row, one after the other; what raises a row of sums. -/
import Derived.Test.YtoobpjdbdikbiaaLowerNum
import Derived.Test.YtoobpjdbdikbiaaRound
import Derived.RangeFuncBox
import Derived.RangeFuncLeaves
import Derived.RangeFuncCalls
import Derived.RangeFuncNested
import Derived.Shelf.Abstract
import Derived.OwnWalkIn
import Derived.TacticsInMore
import Derived.LoopNIn
import Derived.LoopIn
namespace Go.Proofs.Ytoobpjdbdikbiaa.CLower
open Go Go.ChangeShapes Go.WideShapes Go.ChangeAt Go.RowKit Go.Shelf Round
open Plain CSat CShape CTensor CConv
set_option linter.unusedVariables false
attribute [local go_sem] Oper.semAt_some

theorem still_slice {F : Fence} {P : Program} (d : Option Tmp) (T : TypeId) (x : Operand) (a b c : Option Operand) (t : TypeId) (p : String) (e : Array Edge) (g : Option (Nat × Bool)) : Still F P { dst := d, op := .slice T x a b c, type := t, pos := p, after := e, guard := g } :=
  ⟨(fun c h => by cases h), fun ρ w => ⟨fun f h => by simp [Oper.about] at h, calm_value _ w⟩⟩
theorem still_builtin_len {F : Fence} {P : Program} (d : Option Tmp) (xs : Array Operand) (ts : Array TypeId) (t : TypeId) (p : String) (e : Array Edge) (g : Option (Nat × Bool)) : Still F P { dst := d, op := .call { callee := .builtin .len, args := xs, argTypes := ts }, type := t, pos := p, after := e, guard := g } :=
  ⟨(fun c h => by cases h), fun ρ w => ⟨fun f h => by simp [Oper.about, resolve, go_sem] at h, by
    simp only [execOp, resolve, invoke, builtin, Sem.run_bind, Sem.run_pure, Result.andThen_ok]
    exact calm_then _⟩⟩

/-- two boxes stay as they are. -/
def Keep2 (Bs Bn : Nat) (A B : World) : Prop := B.cell? ⟨Bs, 0, none⟩ = A.cell? ⟨Bs, 0, none⟩ ∧ B.cell? ⟨Bn, 0, none⟩ = A.cell? ⟨Bn, 0, none⟩
theorem Keep2.trans {Bs Bn : Nat} {A B C : World} (h : Keep2 Bs Bn A B) (k : Keep2 Bs Bn B C) : Keep2 Bs Bn A C := ⟨k.1.trans h.1, k.2.trans h.2⟩
/-- the piece number x. -/
def piece (g d : Nat) (cap : Nat) (x : Nat) : Array Value := #[.slice (some ⟨g, x * d, none⟩) d d]
def first (k : Nat) : List Nat := List.range k
theorem first_succ (k : Nat) : first (k + 1) = first k ++ [k] := by simp [first, List.range_succ]
theorem first_len (k : Nat) : (first k).length = k := by simp [first]

set_option maxRecDepth 100000 in
set_option maxHeartbeats 4000000 in
theorem chunk_in (F : Fence) (n : Nat) (h8 : F.fn 44) (hro : F.round = none) (hn : 1 ≤ n) (l Bs Bn g d r L cap : Nat) (hd : 1 ≤ d) (hdm : d ≤ 1024) (hL : r * d = L) (hLm : L ≤ 1000000) (hcap : L ≤ cap) (hcm : cap ≤ maxLen) (J Jx : List Nat → World → Prop)
    (hJd : ∀ pre W, J pre W → J pre W.drew)
    (hY : ∀ pre W, J pre W → pre.length < r → YieldAt F (n - 1) Try.prog l (piece g d cap pre.length) W fun e W' =>
      (e = .returned (.bool true) ∧ J (pre ++ [pre.length]) W' ∧ Keep2 Bs Bn W W') ∨ (e = .returned (.bool false) ∧ Jx (pre ++ [pre.length]) W'))
    (W : World) (hBs : W.cell? ⟨Bs, 0, none⟩ = some (.slice (some ⟨g, 0, none⟩) L cap)) (hBn : W.cell? ⟨Bn, 0, none⟩ = some (.int .i64 d)) (h0 : J [] W) :
    CallsIn F n Try.prog 44 #[.func (.yield l) #[] #[], .pointer (some ⟨Bs, 0, none⟩), .pointer (some ⟨Bn, 0, none⟩)] W fun e W' => (∃ v, e = .returned v) ∧
      ((∃ ys, ys = first r ∧ J ys W') ∨ (∃ pre, (∃ k, k ≤ r ∧ pre = first k) ∧ Jx pre W')) := by
  refine callsIn_of_wp Try.func44 rfl h8 ?_ hro
  simp only [Try.ntmps44, List.size_toArray, List.length_cons, List.length_nil, Nat.reduceAdd, Nat.reduceSub, Array.replicate_succ, Array.replicate_zero, List.push_toArray, List.append_toArray, List.nil_append, List.cons_append]
  have HL := Lib.hid hL
  clear hL
  gi_wp2
  gi_loopw [4] (fun i wr => ∃ k : Nat, k ≤ r ∧ i = .int .i64 ((k * d : Nat) : Int) ∧ J (first k) wr ∧ Hid (Keep2 Bs Bn W wr))
    (fun i _ => L - (intOf i).toNat)
  case atStart => exact ⟨0, Nat.zero_le _, by simp, h0, Lib.hid ⟨rfl, rfl⟩⟩
  case round =>
    obtain ⟨k, hk, rfl, hJs, hK⟩ := hrel
    have cs := hK.out.1.trans hBs
    have cn := hK.out.2.trans hBn
    obtain ⟨q, hq⟩ : ∃ q, k * d = q := ⟨_, rfl⟩
    have hqL : q ≤ L := by rw [← hq, ← HL.out]; exact Nat.mul_le_mul_right _ hk
    rw [hq]
    by_cases hlt : k < r
    · have hq1 : q + d ≤ L := by
        have := Nat.mul_le_mul_right d (show k + 1 ≤ r by omega)
        rw [Nat.add_mul, Nat.one_mul, hq, HL.out] at this; exact this
      have hq2 : (k + 1) * d = q + d := by rw [Nat.add_mul, Nat.one_mul, hq]
      have hqI : (q : Int) < (L : Int) := by omega
      have HQ := Lib.hid hq
      have HQ2 := Lib.hid hq2
      have e1 : IntKind.i64.wrap ((q : Int) + (d : Int)) = ((q + d : Nat) : Int) := by rw [IntWalk.i64_in _ (by omega)]; omega
      have hYk := hY _ wr.drew (hJd _ _ hJs) (by rw [first_len]; exact hlt)
      rw [first_len] at hYk
      have HYK := Lib.hid hYk
      clear hq hq2 hYk
      have hq0 : (0 : Int) ≤ (q : Int) := by omega
      have hqL2 : (q : Int) ≤ (L : Int) := by omega
      have hqc : (q : Int) ≤ (cap : Int) := by omega
      have m1 : ¬ ((L : Int) - (q : Int)) < (d : Int) := by omega
      have m2 : ¬ (L - q) < d := by omega
      have m3 : ¬ ((L - q : Nat) : Int) < (d : Int) := by omega
      gi_wp2
      refine region_round (by kernel_rfl) (still_of_list (by simp only [List.forall_mem_cons]; exact ⟨still_load .., still_load .., still_move .., still_slice .., still_builtin_len .., still_builtin_min .., still_assign .., fun _ h => by cases h⟩)) ?_
      have cs2 : wr.drew.cell? ⟨Bs, 0, none⟩ = some (.slice (some ⟨g, 0, none⟩) L cap) := cs
      have cn2 : wr.drew.cell? ⟨Bn, 0, none⟩ = some (.int .i64 d) := cn
      have HK2 : Hid (Keep2 Bs Bn W wr.drew) := hK
      clear cs cn hJs hK
      generalize wr.drew = Wd at cs2 cn2 HK2 HYK ⊢
      refine wpAny_take (i := 2) (oi := ({ dst := some 15, op := Op.move (Operand.tmp 4), type := 3, pos := "iter.go:105", after := #[], guard := none } : Oper)) (v := ?_) rfl (by kernel_rfl) (by kernel_rfl) (by kernel_rfl) (fun _ _ _ h => h) (Or.inl ⟨by rfl, ?_⟩) ?_
      rotate_left
      · intro wS
        first
          | (go_simp; done)
          | (go_simp; with_reducible rfl)
      try simp only [Act.put, List.setIfInBounds_toArray, List.set_cons_zero, List.set_cons_succ]
      refine wpAny_ready (rs := [0, 1]) (by kernel_rfl) (by simp) ?_
      refine AllReady.cons (o := ({ dst := some 13, op := Op.load 3 (Operand.tmp 2), type := 3, pos := "iter.go:105", after := #[], guard := none } : Oper)) rfl (fun K hK => ?_) ?_
      · go_simp
        refine hK _ _ ?_
        clear hK K
        try simp only [Act.put, List.setIfInBounds_toArray, List.set_cons_zero, List.set_cons_succ]
        refine wpAny_ready (rs := [1]) (by kernel_rfl) (by simp) ?_
        refine AllReady.cons (o := ({ dst := some 14, op := Op.load 28 (Operand.tmp 1), type := 28, pos := "iter.go:105", after := #[], guard := none } : Oper)) rfl (fun K hK => ?_) (fun j hj => by cases hj)
        go_simp
        refine hK _ _ ?_
        clear hK K
        try simp only [Act.put, List.setIfInBounds_toArray, List.set_cons_zero, List.set_cons_succ]
        refine wpAny_take (i := 3) (oi := ({ dst := some 16, op := Op.slice 28 (Operand.tmp 14) (some (Operand.tmp 15)) none none, type := 28, pos := "iter.go:105", after := #[{ on := 1, ground := Ground.data }, { on := 2, ground := Ground.data }], guard := none } : Oper)) (v := ?_) rfl (by kernel_rfl) (by kernel_rfl) (by kernel_rfl) (fun _ _ _ h => h) (Or.inl ⟨by rfl, ?_⟩) ?_
        rotate_left
        · intro wS
          first
            | (go_simp; done)
            | (go_simp; with_reducible rfl)
        try simp only [Act.put, List.setIfInBounds_toArray, List.set_cons_zero, List.set_cons_succ]
        refine wpAny_take (i := 4) (oi := ({ dst := some 17, op := Op.call { callee := Callee.builtin Builtin.len, args := #[Operand.tmp 16], argTypes := #[28] }, type := 3, pos := "iter.go:105", after := #[{ on := 3, ground := Ground.data }], guard := none } : Oper)) (v := ?_) rfl (by kernel_rfl) (by kernel_rfl) (by kernel_rfl) (fun _ _ _ h => h) (Or.inl ⟨by rfl, ?_⟩) ?_
        rotate_left
        · intro wS
          first
            | (go_simp; done)
            | (go_simp; with_reducible rfl)
        try simp only [Act.put, List.setIfInBounds_toArray, List.set_cons_zero, List.set_cons_succ]
        refine wpAny_take (i := 5) (oi := ({ dst := some 18, op := Op.call { callee := Callee.builtin Builtin.min, args := #[Operand.tmp 13, Operand.tmp 17], argTypes := #[3, 3] }, type := 3, pos := "iter.go:105", after := #[{ on := 0, ground := Ground.data }, { on := 4, ground := Ground.data }], guard := none } : Oper)) (v := ?_) rfl (by kernel_rfl) (by kernel_rfl) (by kernel_rfl) (fun _ _ _ h => h) (Or.inl ⟨by rfl, ?_⟩) ?_
        rotate_left
        · intro wS
          first
            | (go_simp; done)
            | (go_simp; with_reducible rfl)
        try simp only [Act.put, List.setIfInBounds_toArray, List.set_cons_zero, List.set_cons_succ]
        refine wpAny_take (i := 6) (oi := ({ dst := some 5, op := Op.assign (Operand.tmp 18), type := 3, pos := "iter.go:105", after := #[{ on := 5, ground := Ground.data }, { on := 0, ground := Ground.phase }, { on := 1, ground := Ground.phase }, { on := 2, ground := Ground.phase }, { on := 3, ground := Ground.phase }, { on := 4, ground := Ground.phase }, { on := 5, ground := Ground.phase }], guard := none } : Oper)) (v := ?_) rfl (by kernel_rfl) (by kernel_rfl) (by kernel_rfl) (fun _ _ _ h => h) (Or.inl ⟨by rfl, ?_⟩) ?_
        rotate_left
        · intro wS
          first
            | (go_simp; done)
            | (go_simp; with_reducible rfl)
        try simp only [Act.put, List.setIfInBounds_toArray, List.set_cons_zero, List.set_cons_succ]
        refine wpAny_done (by kernel_rfl) ?_ _
        simp only [Norm]
        obtain ⟨fn, tmps, assign, body, hy, hR⟩ := HYK.out
        unfold piece at hy
        rw [HQ.out] at hy
        gi_wp2
        refine hR.mono ?_
        rintro e W3 (⟨rfl, hJ3, hk3⟩ | ⟨rfl, hJx3⟩)
        · have hK3 := Lib.hid (HK2.out.trans hk3)
          have cn3 := hk3.2.trans cn2
          clear hk3
          gi_wp2
          go_roundw
          case rel => exact ⟨k + 1, by omega, by rw [HQ2.out]; go_num, by rw [first_succ]; exact hJ3, hK3⟩
          case measure => simp [intOf]; omega
        · gi_wp2
          refine bodyPost_ret (results_none rfl _ _ _) rfl ?_
          exact ⟨⟨_, rfl⟩, .inr ⟨_, ⟨k + 1, by omega, (first_succ _).symm⟩, hJx3⟩⟩
      refine AllReady.cons (o := ({ dst := some 14, op := Op.load 28 (Operand.tmp 1), type := 28, pos := "iter.go:105", after := #[], guard := none } : Oper)) rfl (fun K hK => ?_) ?_
      · go_simp
        refine hK _ _ ?_
        clear hK K
        try simp only [Act.put, List.setIfInBounds_toArray, List.set_cons_zero, List.set_cons_succ]
        refine wpAny_take (i := 3) (oi := ({ dst := some 16, op := Op.slice 28 (Operand.tmp 14) (some (Operand.tmp 15)) none none, type := 28, pos := "iter.go:105", after := #[{ on := 1, ground := Ground.data }, { on := 2, ground := Ground.data }], guard := none } : Oper)) (v := ?_) rfl (by kernel_rfl) (by kernel_rfl) (by kernel_rfl) (fun _ _ _ h => h) (Or.inl ⟨by rfl, ?_⟩) ?_
        rotate_left
        · intro wS
          first
            | (go_simp; done)
            | (go_simp; with_reducible rfl)
        try simp only [Act.put, List.setIfInBounds_toArray, List.set_cons_zero, List.set_cons_succ]
        refine wpAny_take (i := 4) (oi := ({ dst := some 17, op := Op.call { callee := Callee.builtin Builtin.len, args := #[Operand.tmp 16], argTypes := #[28] }, type := 3, pos := "iter.go:105", after := #[{ on := 3, ground := Ground.data }], guard := none } : Oper)) (v := ?_) rfl (by kernel_rfl) (by kernel_rfl) (by kernel_rfl) (fun _ _ _ h => h) (Or.inl ⟨by rfl, ?_⟩) ?_
        rotate_left
        · intro wS
          first
            | (go_simp; done)
            | (go_simp; with_reducible rfl)
        try simp only [Act.put, List.setIfInBounds_toArray, List.set_cons_zero, List.set_cons_succ]
        refine wpAny_ready (rs := [0]) (by kernel_rfl) (by simp) ?_
        refine AllReady.cons (o := ({ dst := some 13, op := Op.load 3 (Operand.tmp 2), type := 3, pos := "iter.go:105", after := #[], guard := none } : Oper)) rfl (fun K hK => ?_) (fun j hj => by cases hj)
        go_simp
        refine hK _ _ ?_
        clear hK K
        try simp only [Act.put, List.setIfInBounds_toArray, List.set_cons_zero, List.set_cons_succ]
        refine wpAny_take (i := 5) (oi := ({ dst := some 18, op := Op.call { callee := Callee.builtin Builtin.min, args := #[Operand.tmp 13, Operand.tmp 17], argTypes := #[3, 3] }, type := 3, pos := "iter.go:105", after := #[{ on := 0, ground := Ground.data }, { on := 4, ground := Ground.data }], guard := none } : Oper)) (v := ?_) rfl (by kernel_rfl) (by kernel_rfl) (by kernel_rfl) (fun _ _ _ h => h) (Or.inl ⟨by rfl, ?_⟩) ?_
        rotate_left
        · intro wS
          first
            | (go_simp; done)
            | (go_simp; with_reducible rfl)
        try simp only [Act.put, List.setIfInBounds_toArray, List.set_cons_zero, List.set_cons_succ]
        refine wpAny_take (i := 6) (oi := ({ dst := some 5, op := Op.assign (Operand.tmp 18), type := 3, pos := "iter.go:105", after := #[{ on := 5, ground := Ground.data }, { on := 0, ground := Ground.phase }, { on := 1, ground := Ground.phase }, { on := 2, ground := Ground.phase }, { on := 3, ground := Ground.phase }, { on := 4, ground := Ground.phase }, { on := 5, ground := Ground.phase }], guard := none } : Oper)) (v := ?_) rfl (by kernel_rfl) (by kernel_rfl) (by kernel_rfl) (fun _ _ _ h => h) (Or.inl ⟨by rfl, ?_⟩) ?_
        rotate_left
        · intro wS
          first
            | (go_simp; done)
            | (go_simp; with_reducible rfl)
        try simp only [Act.put, List.setIfInBounds_toArray, List.set_cons_zero, List.set_cons_succ]
        refine wpAny_done (by kernel_rfl) ?_ _
        simp only [Norm]
        obtain ⟨fn, tmps, assign, body, hy, hR⟩ := HYK.out
        unfold piece at hy
        rw [HQ.out] at hy
        gi_wp2
        refine hR.mono ?_
        rintro e W3 (⟨rfl, hJ3, hk3⟩ | ⟨rfl, hJx3⟩)
        · have hK3 := Lib.hid (HK2.out.trans hk3)
          have cn3 := hk3.2.trans cn2
          clear hk3
          gi_wp2
          go_roundw
          case rel => exact ⟨k + 1, by omega, by rw [HQ2.out]; go_num, by rw [first_succ]; exact hJ3, hK3⟩
          case measure => simp [intOf]; omega
        · gi_wp2
          refine bodyPost_ret (results_none rfl _ _ _) rfl ?_
          exact ⟨⟨_, rfl⟩, .inr ⟨_, ⟨k + 1, by omega, (first_succ _).symm⟩, hJx3⟩⟩
      exact fun j hj => by cases hj
    · obtain rfl : k = r := by omega
      rw [HL.out] at hq
      subst hq
      gi_wp2
      go_end0
      exact ⟨⟨_, rfl⟩, .inl ⟨_, rfl, hJs⟩⟩
end Go.Proofs.Ytoobpjdbdikbiaa.CLower
