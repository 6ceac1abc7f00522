/- Texts of this seat, one behind the other: KindNums, LowerChunk, LowerRaise, PoolAvg. -/
import Derived.Deep.CutRange
import Derived.RangeFuncBox
import Derived.RangeFuncLeaves
import Derived.RangeFuncCalls
import Derived.RangeFuncNested
import Derived.Shelf.Abstract
import Derived.OwnWalkIn
import Derived.TacticsInMore
import Derived.LoopNIn
import Derived.LoopIn
import Derived.Test.YtoghpoopgkahiaaGreatDoorGA3
import Derived.Test.YtoghpoopgkahiaaGreatDoorGA7
import Derived.Test.YtoghpoopgkahiaaGreatDoorGA19
import Derived.Test.YtoghpoopgkahiaaGreatDoorGA20
import Derived.Test.YtoghpoopgkahiaaGreatDoorGA22
import Derived.Test.YtoghpoopgkahiaaGreatDoorGA25
import Derived.Test.YtoghpoopgkahiaaGreatDoorGA29
import Derived.Test.YtoghpoopgkahiaaGreatDoorGA31
import Derived.Test.YtoghpoopgkahiaaGreatDoorGA39
section
namespace Go.Proofs.YtoghpoopgkahiaaGreatDoor.CKind
set_option maxRecDepth 100000
open Go Go.ChangeShapes Go.WideShapes Go.ChangeAt Go.RowKit Go.Deep
open Plain CSat CShape CTensor CConv
set_option linter.unusedVariables false
set_option linter.unusedSimpArgs false
/-- numbers of 8 bits. -/
def Nd.Small (x : Nd) : Prop := (-128 ≤ x.Z ∧ x.Z ≤ 127) ∧ (-128 ≤ x.Y ∧ x.Y ≤ 127) ∧ (-128 ≤ x.lo ∧ x.lo ≤ 127) ∧ (-128 ≤ x.hi ∧ x.hi ≤ 127)
/-- what only some kinds have, beside lists and scales. -/
def Nd.nine (x : Nd) : Array Value := #[.int .i64 x.nb, .int .i64 x.K, .int .i64 x.S, .int .i64 x.P, .int .i64 x.O, .int .i64 x.Z, .int .i64 x.Y, .int .i64 x.lo, .int .i64 x.hi]
theorem there_new9 (w : World) {cs : Array Value} (T : TypeId) {n : Nat} (h : cs.size = n) : (w.alloc (.cells cs T)).there w.heap.size 0 n := fun j hj => by
  rw [Nat.zero_add]
  constructor
  · rw [Kit.new_cell]
    simp [h, hj]
  · unfold World.frozen?; rw [heap_alloc_new]; rfl
theorem setCells_below {g B : Nat} (hg : B ≤ g) : ∀ (vs : List Value) (o : Nat) (w : World), Below B w (w.setCells g o vs)
  | [], _, w => Below.refl _ _
  | v :: vs, o, w => ((Below.refl B w).setCell (p := ⟨g, o, none⟩) hg v).trans (setCells_below hg vs (o + 1) _)
set_option maxRecDepth 100000 in
set_option maxHeartbeats 4000000 in
theorem numbers_to (x : Nd) (hx : x.Small) (w : World) :
    Calls Tryz.prog 97 #[.agg x.val] w fun e w' => e = .returned (.agg x.nine) ∧ Below w.heap.size w w' := by
  obtain ⟨⟨z0, z1⟩, ⟨y0, y1⟩, ⟨l0, l1⟩, ⟨h0, h1⟩⟩ := hx
  have i7 : IntKind.i64.wrap x.Z = x.Z := IntWalk.i64_in _ (by omega)
  have i8 : IntKind.i64.wrap x.Y = x.Y := IntWalk.i64_in _ (by omega)
  have i17 : IntKind.i64.wrap x.lo = x.lo := IntWalk.i64_in _ (by omega)
  have i18 : IntKind.i64.wrap x.hi = x.hi := IntWalk.i64_in _ (by omega)
  clear z0 z1 y0 y1 l0 l1 h0 h1
  have TN := Lib.hid (NdAt.new x 28 w)
  go_enter Tryz.func97, Tryz.ntmps97
  go_upto_region 1 with fail
  have hth := there_new9 (w.alloc (.cells x.val 28)) (cs := #[.int .i64 0, .int .i64 0, .int .i64 0, .int .i64 0, .int .i64 0, .int .i64 0, .int .i64 0, .int .i64 0, .int .i64 0]) 130 (n := 9) rfl
  rw [World.size_alloc] at hth
  have HT := Lib.hid hth
  clear hth
  replace TN := Lib.hid (TN.out.below (B := w.heap.size + 1) (Nat.lt_succ_self _) ((Below.refl _ _).alloc (by simp) (.cells #[.int .i64 0, .int .i64 0, .int .i64 0, .int .i64 0, .int .i64 0, .int .i64 0, .int .i64 0, .int .i64 0, .int .i64 0] 130)))
  have HB := Lib.hid (((Below.refl w.heap.size w).alloc (Nat.le_refl _) (.cells x.val 28)).alloc (by simp) (.cells #[.int .i64 0, .int .i64 0, .int .i64 0, .int .i64 0, .int .i64 0, .int .i64 0, .int .i64 0, .int .i64 0, .int .i64 0] 130))
  generalize (w.alloc (.cells x.val 28)).alloc (.cells #[.int .i64 0, .int .i64 0, .int .i64 0, .int .i64 0, .int .i64 0, .int .i64 0, .int .i64 0, .int .i64 0, .int .i64 0] 130) = W0 at TN HT HB ⊢
  have n2 := TN.out.at 2 (.int .i64 x.nb) rfl
  have n3 := TN.out.at 3 (.int .i64 x.K) rfl
  have n4 := TN.out.at 4 (.int .i64 x.S) rfl
  have n5 := TN.out.at 5 (.int .i64 x.P) rfl
  have n6 := TN.out.at 6 (.int .i64 x.O) rfl
  have n7 := TN.out.at 7 (.int .i8 x.Z) rfl
  have n8 := TN.out.at 8 (.int .i8 x.Y) rfl
  have n17 := TN.out.at 17 (.int .i8 x.lo) rfl
  have n18 := TN.out.at 18 (.int .i8 x.hi) rfl
  go_wp2_with (refine wpList_store_mid rfl 130 (.tmp 2) (.tmp 25) rfl (w.heap.size + 1) 0 x.nine rfl rfl HT.out (by kernel_rfl) (by simp [Nd.nine, Value.oneCell']) ?_; have HQ := Lib.hid (World.rangeAt_setCells_same W0 (w.heap.size + 1) 0 x.nine.toList HT.out); have HZ : Hid (Below w.heap.size W0 (W0.setCells (w.heap.size + 1) 0 x.nine.toList)) := Lib.hid (setCells_below (Nat.le_succ _) _ _ _); generalize W0.setCells (w.heap.size + 1) 0 x.nine.toList = W1 at HQ HZ ⊢)
  refine bodyPost_ret (Kit.results_c rfl _ _ (w.heap.size + 1) 0 x.nine.toList _ rfl HQ.out Tryz.underlying130 rfl (by kernel_rfl)) rfl ?_
  exact ⟨rfl, HB.out.trans HZ.out⟩
/-- are the nine numbers alike? -/
def nineB (x y : Nd) : Bool := x.nb == y.nb && x.K == y.K && x.S == y.S && x.P == y.P && x.O == y.O && x.Z == y.Z && x.Y == y.Y && x.lo == y.lo && x.hi == y.hi
theorem eqNine (x y : Nd) (b : Bool) (hb : nineB x y = b) (w : World) : (Op.equalIn 10000 130 (.agg x.nine) (.agg y.nine)).run Tryz.prog w = .ok b w := by
  subst hb
  have u3 := Tryz.underlying3
  have a3 := Tryz.isAgg3
  have z3 := Tryz.sizeOf3
  unfold Nd.nine nineB
  rw [show (10000 : Nat) = 9999 + 1 from rfl, Op.equalIn]
  simp only [Sem.run_bind, run_underlying Tryz.underlying130, Result.andThen_ok]
  simp only [Std.Legacy.Range.forIn_eq_forIn_range', Std.Legacy.Range.size, Nat.sub_zero, Nat.add_sub_cancel, Nat.div_one, List.range'_succ, List.range'_zero, List.forIn_cons, List.forIn_nil]
  go_simp
  by_cases h0 : x.nb = y.nb
  rotate_left
  · simp [h0]
  by_cases h1 : x.K = y.K
  rotate_left
  · simp [h0, h1]
  by_cases h2 : x.S = y.S
  rotate_left
  · simp [h0, h1, h2]
  by_cases h3 : x.P = y.P
  rotate_left
  · simp [h0, h1, h2, h3]
  by_cases h4 : x.O = y.O
  rotate_left
  · simp [h0, h1, h2, h3, h4]
  by_cases h5 : x.Z = y.Z
  rotate_left
  · simp [h0, h1, h2, h3, h4, h5]
  by_cases h6 : x.Y = y.Y
  rotate_left
  · simp [h0, h1, h2, h3, h4, h5, h6]
  by_cases h7 : x.lo = y.lo
  rotate_left
  · simp [h0, h1, h2, h3, h4, h5, h6, h7]
  by_cases h8 : x.hi = y.hi
  rotate_left
  · simp [h0, h1, h2, h3, h4, h5, h6, h7, h8]
  simp [h0, h1, h2, h3, h4, h5, h6, h7, h8]
end Go.Proofs.YtoghpoopgkahiaaGreatDoor.CKind
end
section
namespace Go.Proofs.YtoghpoopgkahiaaGreatDoor.CLower
set_option maxRecDepth 100000
open Go Go.ChangeShapes Go.WideShapes Go.ChangeAt Go.RowKit Go.Shelf Round
open Plain CSat CShape CTensor CConv
set_option linter.unusedVariables false
attribute [local go_sem] Oper.semAt_some
theorem still_slice {F : Fence} {P : Program} (d : Option Tmp) (T : TypeId) (x : Operand) (a b c : Option Operand) (t : TypeId) (p : String) (e : Array Edge) (g : Option (Nat × Bool)) : Still F P { dst := d, op := .slice T x a b c, type := t, pos := p, after := e, guard := g } :=
  ⟨(fun c h => by cases h), fun ρ w => ⟨fun f h => by simp [Oper.about] at h, calm_value _ w⟩⟩
theorem still_builtin_len {F : Fence} {P : Program} (d : Option Tmp) (xs : Array Operand) (ts : Array TypeId) (t : TypeId) (p : String) (e : Array Edge) (g : Option (Nat × Bool)) : Still F P { dst := d, op := .call { callee := .builtin .len, args := xs, argTypes := ts }, type := t, pos := p, after := e, guard := g } :=
  ⟨(fun c h => by cases h), fun ρ w => ⟨fun f h => by simp [Oper.about, resolve, go_sem] at h, by
    simp only [execOp, resolve, invoke, builtin, Sem.run_bind, Sem.run_pure, Result.andThen_ok]
    exact calm_then _⟩⟩
/-- two boxes stay as they are. -/
def Keep2 (Bs Bn : Nat) (A B : World) : Prop := B.cell? ⟨Bs, 0, none⟩ = A.cell? ⟨Bs, 0, none⟩ ∧ B.cell? ⟨Bn, 0, none⟩ = A.cell? ⟨Bn, 0, none⟩
theorem Keep2.trans {Bs Bn : Nat} {A B C : World} (h : Keep2 Bs Bn A B) (k : Keep2 Bs Bn B C) : Keep2 Bs Bn A C := ⟨k.1.trans h.1, k.2.trans h.2⟩
/-- the piece number x. -/
def piece (g d : Nat) (cap : Nat) (x : Nat) : Array Value := #[.slice (some ⟨g, x * d, none⟩) d d]
def first (k : Nat) : List Nat := List.range k
theorem first_succ (k : Nat) : first (k + 1) = first k ++ [k] := by simp [first, List.range_succ]
theorem first_len (k : Nat) : (first k).length = k := by simp [first]
set_option maxRecDepth 100000 in
set_option maxHeartbeats 4000000 in
theorem chunk_in (F : Fence) (n : Nat) (h8 : F.fn 132) (hro : F.round = none) (hn : 1 ≤ n) (l Bs Bn g d r L cap : Nat) (hd : 1 ≤ d) (hdm : d ≤ 1024) (hL : r * d = L) (hLm : L ≤ 1000000) (hcap : L ≤ cap) (hcm : cap ≤ maxLen) (J Jx : List Nat → World → Prop)
    (hJd : ∀ pre W, J pre W → J pre W.drew)
    (hY : ∀ pre W, J pre W → pre.length < r → YieldAt F (n - 1) Tryz.prog l (piece g d cap pre.length) W fun e W' =>
      (e = .returned (.bool true) ∧ J (pre ++ [pre.length]) W' ∧ Keep2 Bs Bn W W') ∨ (e = .returned (.bool false) ∧ Jx (pre ++ [pre.length]) W'))
    (W : World) (hBs : W.cell? ⟨Bs, 0, none⟩ = some (.slice (some ⟨g, 0, none⟩) L cap)) (hBn : W.cell? ⟨Bn, 0, none⟩ = some (.int .i64 d)) (h0 : J [] W) :
    CallsIn F n Tryz.prog 132 #[.func (.yield l) #[] #[], .pointer (some ⟨Bs, 0, none⟩), .pointer (some ⟨Bn, 0, none⟩)] W fun e W' => (∃ v, e = .returned v) ∧
      ((∃ ys, ys = first r ∧ J ys W') ∨ (∃ pre, (∃ k, k ≤ r ∧ pre = first k) ∧ Jx pre W')) := by
  refine callsIn_of_wp Tryz.func132 rfl h8 ?_ hro
  simp only [Tryz.ntmps132, List.size_toArray, List.length_cons, List.length_nil, Nat.reduceAdd, Nat.reduceSub, Array.replicate_succ, Array.replicate_zero, List.push_toArray, List.append_toArray, List.nil_append, List.cons_append]
  have HL := Lib.hid hL
  clear hL
  gi_wp2
  gi_loopw [4] (fun i wr => ∃ k : Nat, k ≤ r ∧ i = .int .i64 ((k * d : Nat) : Int) ∧ J (first k) wr ∧ Hid (Keep2 Bs Bn W wr))
    (fun i _ => L - (intOf i).toNat)
  case atStart => exact ⟨0, Nat.zero_le _, by simp, h0, Lib.hid ⟨rfl, rfl⟩⟩
  case round =>
    obtain ⟨k, hk, rfl, hJs, hK⟩ := hrel
    have cs := hK.out.1.trans hBs
    have cn := hK.out.2.trans hBn
    obtain ⟨q, hq⟩ : ∃ q, k * d = q := ⟨_, rfl⟩
    have hqL : q ≤ L := by rw [← hq, ← HL.out]; exact Nat.mul_le_mul_right _ hk
    rw [hq]
    by_cases hlt : k < r
    · have hq1 : q + d ≤ L := by
        have := Nat.mul_le_mul_right d (show k + 1 ≤ r by omega)
        rw [Nat.add_mul, Nat.one_mul, hq, HL.out] at this; exact this
      have hq2 : (k + 1) * d = q + d := by rw [Nat.add_mul, Nat.one_mul, hq]
      have hqI : (q : Int) < (L : Int) := by omega
      have HQ := Lib.hid hq
      have HQ2 := Lib.hid hq2
      have e1 : IntKind.i64.wrap ((q : Int) + (d : Int)) = ((q + d : Nat) : Int) := by rw [IntWalk.i64_in _ (by omega)]; omega
      have hYk := hY _ wr.drew (hJd _ _ hJs) (by rw [first_len]; exact hlt)
      rw [first_len] at hYk
      have HYK := Lib.hid hYk
      clear hq hq2 hYk
      have hq0 : (0 : Int) ≤ (q : Int) := by omega
      have hqL2 : (q : Int) ≤ (L : Int) := by omega
      have hqc : (q : Int) ≤ (cap : Int) := by omega
      have m1 : ¬ ((L : Int) - (q : Int)) < (d : Int) := by omega
      have m2 : ¬ (L - q) < d := by omega
      have m3 : ¬ ((L - q : Nat) : Int) < (d : Int) := by omega
      have m4 : min (d : Int) ((L : Int) - (q : Int)) = (d : Int) := by omega
      have m5 : min d (L - q) = d := by omega
      have m6 : min (d : Int) ((L - q : Nat) : Int) = (d : Int) := by omega
      gi_wp2
      refine region_round (by kernel_rfl) (still_of_list (by simp only [List.forall_mem_cons]; exact ⟨still_load .., still_load .., still_move .., still_slice .., still_builtin_len .., still_builtin_min .., still_assign .., fun _ h => by cases h⟩)) ?_
      have cs2 : wr.drew.cell? ⟨Bs, 0, none⟩ = some (.slice (some ⟨g, 0, none⟩) L cap) := cs
      have cn2 : wr.drew.cell? ⟨Bn, 0, none⟩ = some (.int .i64 d) := cn
      have HK2 : Hid (Keep2 Bs Bn W wr.drew) := hK
      clear cs cn hJs hK
      generalize wr.drew = Wd at cs2 cn2 HK2 HYK ⊢
      refine Tk.z 2 rfl ?_
      try simp only [Tk.put]
      refine wpAny_ready (rs := [0, 1]) (by kernel_rfl) (by simp) ?_
      refine Tk.d rfl (fun K hK => ?_) ?_
      · go_simp
        refine hK _ _ ?_
        clear hK K
        try simp only [Tk.put]
        refine Tk.q 1 rfl (fun K hK => ?_)
        go_simp
        refine hK _ _ ?_
        clear hK K
        try simp only [Tk.put]
        refine Tk.z 3 rfl ?_
        try simp only [Tk.put]
        refine Tk.z 4 rfl ?_
        try simp only [Tk.put]
        refine Tk.z 5 rfl ?_
        try simp only [Tk.put]
        refine Tk.z 6 rfl ?_
        try simp only [Tk.put]
        refine wpAny_done (by kernel_rfl) ?_ _
        simp only [Norm]
        obtain ⟨fn, tmps, assign, body, hy, hR⟩ := HYK.out
        unfold piece at hy
        rw [HQ.out] at hy
        gi_wp2
        refine hR.mono ?_
        rintro e W3 (⟨rfl, hJ3, hk3⟩ | ⟨rfl, hJx3⟩)
        · have hK3 := Lib.hid (HK2.out.trans hk3)
          have cn3 := hk3.2.trans cn2
          clear hk3
          gi_wp2
          go_roundw
          case rel => exact ⟨k + 1, by omega, by rw [HQ2.out]; go_num, by rw [first_succ]; exact hJ3, hK3⟩
          case measure => simp [intOf]; omega
        · gi_wp2
          refine bodyPost_ret (results_none rfl _ _ _) rfl ?_
          exact ⟨⟨_, rfl⟩, .inr ⟨_, ⟨k + 1, by omega, (first_succ _).symm⟩, hJx3⟩⟩
      refine Tk.d rfl (fun K hK => ?_) ?_
      · go_simp
        refine hK _ _ ?_
        clear hK K
        try simp only [Tk.put]
        refine Tk.z 3 rfl ?_
        try simp only [Tk.put]
        refine Tk.z 4 rfl ?_
        try simp only [Tk.put]
        refine Tk.q 0 rfl (fun K hK => ?_)
        go_simp
        refine hK _ _ ?_
        clear hK K
        try simp only [Tk.put]
        refine Tk.z 5 rfl ?_
        try simp only [Tk.put]
        refine Tk.z 6 rfl ?_
        try simp only [Tk.put]
        refine wpAny_done (by kernel_rfl) ?_ _
        simp only [Norm]
        obtain ⟨fn, tmps, assign, body, hy, hR⟩ := HYK.out
        unfold piece at hy
        rw [HQ.out] at hy
        gi_wp2
        refine hR.mono ?_
        rintro e W3 (⟨rfl, hJ3, hk3⟩ | ⟨rfl, hJx3⟩)
        · have hK3 := Lib.hid (HK2.out.trans hk3)
          have cn3 := hk3.2.trans cn2
          clear hk3
          gi_wp2
          go_roundw
          case rel => exact ⟨k + 1, by omega, by rw [HQ2.out]; go_num, by rw [first_succ]; exact hJ3, hK3⟩
          case measure => simp [intOf]; omega
        · gi_wp2
          refine bodyPost_ret (results_none rfl _ _ _) rfl ?_
          exact ⟨⟨_, rfl⟩, .inr ⟨_, ⟨k + 1, by omega, (first_succ _).symm⟩, hJx3⟩⟩
      exact fun j hj => by cases hj
    · obtain rfl : k = r := by omega
      rw [HL.out] at hq
      subst hq
      gi_wp2
      go_end0
      exact ⟨⟨_, rfl⟩, .inl ⟨_, rfl, hJs⟩⟩
end Go.Proofs.YtoghpoopgkahiaaGreatDoor.CLower
end
section
namespace Go.Proofs.YtoghpoopgkahiaaGreatDoor.CLower
set_option maxRecDepth 100000
open Go Go.ChangeShapes Go.WideShapes Go.ChangeAt Go.RowKit Go.Shelf Round
open Plain CSat CShape CTensor CConv
set_option linter.unusedVariables false
theorem own_at {w : World} {base g n cap : Nat} {e : TypeId} {xs : List Value} (h : w.ownsRow base e 1 (.slice (some ⟨g, 0, none⟩) n cap) n xs) (hn : 0 < n) :
    (∀ j u, xs[j]? = some u → w.cell? ⟨g, j, none⟩ = some u) ∧ (∀ j, w.frozen? ⟨g, j, none⟩ = false) ∧ g < w.heap.size := by
  obtain ⟨g', cap', e1, _, h2, _, _, h3, h4⟩ := own_cells h hn
  cases e1
  exact ⟨h3, h4, h2⟩
theorem below_of_grown {w w' : World} {g B : Nat} (h : w.grownBy w' (some g)) (hg : B ≤ g) (hB : B ≤ w.heap.size) : Below B w w' :=
  ⟨h.os, h.tape, h.output, h.size, fun k hk => h.block k (by omega) (by intro e; cases e; omega)⟩
theorem grown_drew (w : World) (r : Option Nat) : w.grownBy w.drew r := ⟨rfl, rfl, rfl, Nat.le_refl _, fun _ _ _ => rfl⟩
theorem grown_self (w : World) (r : Option Nat) : w.grownBy w r := ⟨rfl, rfl, rfl, Nat.le_refl _, fun _ _ _ => rfl⟩
theorem grown_trans {a b c : World} {r : Option Nat} (h : a.grownBy b r) (k : b.grownBy c r) : a.grownBy c r :=
  ⟨k.os.trans h.os, k.tape.trans h.tape, k.output.trans h.output, Nat.le_trans h.size k.size, fun i hi hr => (k.block i (Nat.lt_of_lt_of_le hi h.size) hr).trans (h.block i hi hr)⟩
theorem grown_cell {a b : World} {g : Nat} (h : a.grownBy b (some g)) {p : Addr} (hp : p.block < a.heap.size) (hg : p.block ≠ g) : b.cell? p = a.cell? p :=
  World.cell?_of_block (h.block p.block hp (by intro e; cases e; exact hg rfl))
theorem grown_frozen {a b : World} {g : Nat} (h : a.grownBy b (some g)) {p : Addr} (hp : p.block < a.heap.size) (hg : p.block ≠ g) : b.frozen? p = a.frozen? p :=
  World.frozen?_of_block (h.block p.block hp (by intro e; cases e; exact hg rfl))
set_option maxRecDepth 100000 in
set_option maxHeartbeats 4000000 in
theorem raise_to (g q d N cap base Bb cB B : Nat) (BA : Option Addr) (bs : List Int) (T M : Nat → Int) (hbs : bs.length = d) (hd : 1 ≤ d) (hdm : d ≤ 1024) (hq : q + d ≤ N) (hN : N ≤ 1000000) (hB : B ≤ g) (hbg : Bb ≠ g)
    (hT : ∀ j, j < d → IntKind.i32.wrap (M (q + j) + bs.getD j 0) = T (q + j)) (W : World) (hBs : B ≤ W.heap.size) (ho : W.ownsRow base 21 1 (.slice (some ⟨g, 0, none⟩) N cap) N (I32v (CGemm.rowL (mixF T M q) N)))
    (hcb : W.cell? ⟨Bb, 0, none⟩ = some (.slice BA d cB)) (hbb : Bb < W.heap.size) (hr : Kit.Rd W B BA (I32v bs)) :
    Calls Tryz.prog 131 #[.slice (some ⟨g, q, none⟩) d d, .pointer (some ⟨Bb, 0, none⟩)] W fun e W' => (∃ v, e = .returned v) ∧ W'.ownsRow base 21 1 (.slice (some ⟨g, 0, none⟩) N cap) N (I32v (CGemm.rowL (mixF T M (q + d)) N)) ∧ W.grownBy W' (some g) := by
  have HT := Lib.hid hT
  have HO := Lib.hid ho
  have HR := Lib.hid hr
  have HBS := Lib.hid hbs
  clear hT ho hr hbs
  go_enter Tryz.func131, Tryz.ntmps131
  go_wp2_with fail
  go_loopw [7] (fun i wr => ∃ j : Nat, j ≤ d ∧ i = .int .i64 j ∧ Hid (wr.ownsRow base 21 1 (.slice (some ⟨g, 0, none⟩) N cap) N (I32v (CGemm.rowL (mixF T M (q + j)) N))) ∧ Hid (W.grownBy wr (some g))) (fun i _ => d - (intOf i).toNat)
  case atStart => exact ⟨0, Nat.zero_le _, rfl, HO, Lib.hid (grown_self _ _)⟩
  case round =>
    obtain ⟨j, hj, rfl, hO, hG⟩ := hrel
    by_cases hlt : j < d
    · obtain ⟨bb, ob, rfl, -, hcx⟩ := ints_getD (HR.out.below (below_of_grown hG.out hB hBs)) (j := j) (by have := HBS.out; omega)
      have kb := hcx j (by have := HBS.out; omega)
      obtain ⟨h1, h2, h3⟩ := own_at hO.out (by omega)
      have hjN : q + j < N := by omega
      have ks := h1 (q + j) (.int .i32 (M (q + j))) (by unfold I32v; rw [List.getElem?_map, mix_at T M hjN]; rfl)
      have fs := h2 (q + j)
      have ht := HT.out j hlt
      obtain ⟨b1, hb1⟩ : ∃ b1, bs.getD j 0 = b1 := ⟨_, rfl⟩
      obtain ⟨m1, hm1⟩ : ∃ m1, M (q + j) = m1 := ⟨_, rfl⟩
      obtain ⟨t1, ht1⟩ : ∃ t1, T (q + j) = t1 := ⟨_, rfl⟩
      have HT1 := Lib.hid ht1
      rw [hb1] at kb
      rw [hm1] at ks
      rw [hb1, hm1, ht1] at ht
      have hst := hO.out.stored (q + j) (.int .i32 t1)
      have hset : (I32v (CGemm.rowL (mixF T M (q + j)) N)).set (q + j) (.int .i32 t1) = I32v (CGemm.rowL (mixF T M (q + (j + 1))) N) := by
        unfold I32v
        rw [← List.map_set, ← ht1, mix_set T M hjN]; rfl
      rw [hset] at hst
      have HO2 := Lib.hid hst.1
      have HG2 := Lib.hid (grown_trans hG.out hst.2)
      have hj0 : (0 : Int) ≤ (j : Int) := by omega
      have hjd : (j : Int) < (d : Int) := by omega
      clear hst hset h1 h2 h3 hcx hb1 hm1 ht1
      go_wp2_with fail
      go_roundw
      case rel => exact ⟨j + 1, by omega, by go_num, HO2, HG2⟩
      case measure => simp [intOf]; omega
    · obtain rfl : j = d := by omega
      go_wp2_with fail
      go_end0
      exact ⟨⟨_, rfl⟩, hO.out, hG.out⟩
set_option maxHeartbeats 1000000 in
theorem raising_to (BA : Option Addr) (nB cB : Nat) (w : World) :
    Calls Tryz.prog 86 #[.slice BA nB cB] w fun e w' => e = .returned (.func (.func 131) #[] #[.pointer (some ⟨w.heap.size, 0, none⟩)]) ∧ w' = w.alloc (.cells #[.slice BA nB cB] 24) := by
  go_enter Tryz.func86, Tryz.ntmps86
  go_wp2_with fail
  go_ret
  exact ⟨rfl, rfl⟩
set_option maxHeartbeats 1000000 in
theorem chunks_to (A : Option Addr) (L c : Nat) (d : Nat) (hd : 1 ≤ d) (w : World) :
    Calls Tryz.prog 87 #[.slice A L c, .int .i64 d] w fun e w' => e = .returned (.func (.func 132) #[] #[.pointer (some ⟨w.heap.size, 0, none⟩), .pointer (some ⟨w.heap.size + 1, 0, none⟩)]) ∧ w' = (w.alloc (.cells #[.slice A L c] 24)).alloc (.cells #[.int .i64 d] 3) := by
  have h1 : ¬ (d : Int) < 1 := by omega
  go_enter Tryz.func87, Tryz.ntmps87
  go_wp2_with fail
  go_ret
  exact ⟨rfl, rfl⟩
end Go.Proofs.YtoghpoopgkahiaaGreatDoor.CLower
end
section
namespace Go.Proofs.YtoghpoopgkahiaaGreatDoor.CPool
open Go Go.ChangeShapes Go.WideShapes Go.ChangeAt Go.RowKit Go.Shelf
open Plain CSat CShape CTensor CConv
set_option linter.unusedVariables false
attribute [local go_sem] Oper.semAt_some
/-- the sum of some numbers. -/
def sumL (l : List Int) : Int := l.foldl (· + ·) 0
theorem sumL_snoc (l : List Int) (x : Int) : sumL (l ++ [x]) = sumL l + x := by simp [sumL]
theorem sumL_psum (l : List Int) : ∀ k, k ≤ l.length → sumL (l.take k) = psum (fun i => l.getD i 0) k
  | 0, _ => rfl
  | k + 1, h => by
    have e : l.take (k + 1) = l.take k ++ [l[k]] := by rw [List.take_add_one, List.getElem?_eq_getElem (by omega)]; rfl
    rw [e, sumL_snoc, sumL_psum l k (by omega)]
    show _ = psum (fun i => l.getD i 0) k + l.getD k 0
    rw [List.getD_eq_getElem?_getD, List.getElem?_eq_getElem (by omega)]; rfl
theorem sumL_bd (l : List Int) (h : ∀ x ∈ l, -128 ≤ x ∧ x ≤ 127) : -(128 * (l.length : Int)) ≤ sumL l ∧ sumL l ≤ 128 * (l.length : Int) := by
  have key : ∀ (l : List Int) (a : Int), (∀ x ∈ l, -128 ≤ x ∧ x ≤ 127) → a - 128 * (l.length : Int) ≤ l.foldl (· + ·) a ∧ l.foldl (· + ·) a ≤ a + 128 * (l.length : Int) := by
    intro l
    induction l with
    | nil => intro a _; simp
    | cons y l ih =>
      intro a h
      obtain ⟨y1, y2⟩ := h y (by simp)
      obtain ⟨i1, i2⟩ := ih (a + y) (fun x hx => h x (by simp [hx]))
      simp only [List.foldl_cons, List.length_cons]
      omega
  have := key l 0 h
  unfold sumL
  omega
theorem meanZ_sum (l : List Int) : meanZ l = IntKind.i8.wrap (nearZ (sumL l) l.length) := by
  unfold meanZ
  have h := sumL_psum l l.length (Nat.le_refl _)
  rw [List.take_length] at h
  rw [h]
set_option maxRecDepth 100000 in
set_option maxHeartbeats 4000000 in
theorem meanC_to (g b off : Nat) (H W C : Int) (N c kk o d : Nat) (top left : Int) (G : Nat → Int) (hbz : ∀ k, -128 ≤ G k ∧ G k ≤ 127) (ht : tensB H W C N = true) (hd : C = (d : Int)) (ho : o < d) (hk7 : kk ≤ 7)
    (t1 : -1000 ≤ top) (t2 : top ≤ 1000) (l1 : -1000 ≤ left) (l2 : left ≤ 1000) (R : Int) (hR : meanZ ((rowsI H W C top left kk o kk).map G) = R)
    (w : World) (hg : g + 4 < w.heap.size) (hb : b < w.heap.size) (hcap : CapAt g H W C (some ⟨b, off, none⟩) N c (kk : Int) top left (o : Int) w) (hc : ∀ j, j < N → w.cell? ⟨b, off + j, none⟩ = some (.int .i8 (G j))) :
    Calls Tryz.prog 55 #[.func (.func 138) #[] #[.pointer (some ⟨g + 1, 0, none⟩), .pointer (some ⟨g, 0, none⟩), .pointer (some ⟨g + 2, 0, none⟩), .pointer (some ⟨g + 3, 0, none⟩), .pointer (some ⟨g + 4, 0, none⟩)]] w fun e w' => e = .returned (.int .i8 R) ∧ Below w.heap.size w w' := by
  have hR2 : IntKind.i8.wrap (nearZ (sumL ((rowsI H W C top left kk o kk).map G)) ((rowsI H W C top left kk o kk).length : Int)) = R := by
    rw [← hR, meanZ_sum, List.length_map]
  have HR := Lib.hid hR2
  have HBZ := Lib.hid hbz
  have hlw := rowsI_len H W C top left kk o kk
  have hkk : kk * kk ≤ 49 := Nat.le_trans (Nat.mul_le_mul hk7 hk7) (by omega)
  have hll : (rowsI H W C top left kk o kk).length ≤ 49 := Nat.le_trans hlw hkk
  have hall : ∀ pre : List Nat, ∀ x ∈ pre.map G, -128 ≤ x ∧ x ≤ 127 := by
    intro pre x hx
    obtain ⟨k, -, rfl⟩ := List.mem_map.1 hx
    exact hbz k
  have HALL := Lib.hid hall
  clear hR hR2 hlw hkk hall
  refine (callsIn_wide (n := 5)).1 ?_
  refine callsIn_of_wp_marks Tryz.func55 rfl trivial ?_ rfl
  simp only [Tryz.ntmps55, List.size_toArray, List.length_cons, List.length_nil, Nat.reduceAdd, Nat.reduceSub, Array.replicate_succ, Array.replicate_zero, List.push_toArray, List.append_toArray, List.nil_append, List.cons_append]
  refine wpIn_wide.2 ?_
  go_wp2_with fail
  have bX := (Boxed.new w 3 (.int .i64 0)).alloc (.cells #[.int .i64 0] 3)
  have bM := Boxed.new (w.alloc (.cells #[.int .i64 0] 3)) 3 (.int .i64 0)
  rw [World.size_alloc] at bM
  have hbW : Below w.heap.size w ((w.alloc (.cells #[.int .i64 0] 3)).alloc (.cells #[.int .i64 0] 3)) := ((Below.refl _ _).alloc (Nat.le_refl _) _).alloc (by simp) _
  have hsW : ((w.alloc (.cells #[.int .i64 0] 3)).alloc (.cells #[.int .i64 0] 3)).heap.size = w.heap.size + 2 := by simp
  generalize (w.alloc (.cells #[.int .i64 0] 3)).alloc (.cells #[.int .i64 0] 3) = W1 at bX bM hbW hsW ⊢
  refine (wpIn_wide (n := 5)).1 ?_
  refine wpIn_rangeFunc_ownG (F := Fence.wide) (n := 5) rfl (by omega) (gf := 138) (lb := #[.pointer (some ⟨g + 1, 0, none⟩), .pointer (some ⟨g, 0, none⟩), .pointer (some ⟨g + 2, 0, none⟩), .pointer (some ⟨g + 3, 0, none⟩), .pointer (some ⟨g + 4, 0, none⟩)]) rfl trivial (enters_of Tryz.func138 (by kernel_rfl) rfl)
    (seq_window (5 - 1) (by omega) g w.heap.size b off H W C N c kk o d top left G ht hd ho hk7 t1 t2 l1 l2 hg hb W1 (by omega) (hcap.below hg hbW) (fun j hj => (hbW.cell (p := ⟨b, off + j, none⟩) hb).trans (hc j hj))) belowK_t (belowK_b (by omega)) (Below.refl _ _) (fun _ => rfl)
    (fun pre W => (Boxed W w.heap.size 3 (.int .i64 (sumL (pre.map G))) ∧ Boxed W (w.heap.size + 1) 3 (.int .i64 (pre.length : Int))) ∧ Below w.heap.size w W)
    (fun _ _ _ => False)
    (OwnFrom.and (OwnFrom.and (Own.from (boxed_own w.heap.size 3 (fun pre : List Nat => (.int .i64 (sumL (pre.map G))))) _) (Own.from (boxed_own (w.heap.size + 1) 3 (fun pre : List Nat => .int .i64 (pre.length : Int))) _)) (ownFrom_below (by omega) (by omega)))
    (fun _ _ _ _ _ hs _ _ => hs)
    ⟨⟨bX, bM⟩, hbW⟩
    ?a1 ?assign ?body ?done ?stop
  case assign =>
    intro l x W K hK
    gi_wp2
    exact hK
  case body =>
    rintro l pre x W ⟨⟨hX, hM⟩, hB⟩ hlt
    have hs := sumL_snoc (pre.map G) (G x)
    have hm : (pre ++ [x]).map G = pre.map G ++ [G x] := by simp
    have hbd := sumL_bd _ (HALL.out pre)
    rw [List.length_map] at hbd
    rw [← hm] at hs
    obtain ⟨y1, y2⟩ := HBZ.out x
    clear hm
    obtain ⟨m0, hm0⟩ : ∃ m0, sumL (pre.map G) = m0 := ⟨_, rfl⟩
    rw [hm0] at hs hX hbd
    generalize G x = y at hs y1 y2 ⊢
    have w1 : IntKind.i64.wrap y = y := IntWalk.i64_in _ (by omega)
    have w2 : IntKind.i64.wrap (m0 + y) = m0 + y := IntWalk.i64_in _ (by omega)
    have w3 : IntKind.i64.wrap ((pre.length : Int) + 1) = (pre.length : Int) + 1 := IntWalk.i64_in _ (by omega)
    have hpl : (((pre ++ [x]).length : Nat) : Int) = (pre.length : Int) + 1 := by simp
    have HPL := Lib.hid hpl
    generalize (pre.length : Int) = pl at w3 hM HPL ⊢
    have HS := Lib.hid hs
    have HX := Lib.hid hX
    have HM := Lib.hid hM
    have HB := Lib.hid hB
    have hcx := hX.cell
    have hfx := hX.frozen
    have hcm := hM.cell
    have hfm := hM.frozen
    clear hs hX hM hB hm0 hbz bX bM hbW hcap hc ht hpl hbd
    gi_wp2
    exact ⟨((KeepsOthers.setCell _ _ _).trans (KeepsOthers.setCell _ _ _)).from _, ((Below.refl _ _).setCell (p := ⟨w.heap.size, 0, none⟩) (Nat.le_refl _) _).setCell (p := ⟨w.heap.size + 1, 0, none⟩) (show w.heap.size ≤ w.heap.size + 1 by omega) _,
      ⟨by rw [HS.out]; exact (HX.out.set _).other (by omega) _, by rw [HPL.out]; exact (HM.out.other (by omega) _).set _⟩, (HB.out.setCell (p := ⟨w.heap.size, 0, none⟩) (Nat.le_refl _) _).setCell (p := ⟨w.heap.size + 1, 0, none⟩) (show w.heap.size ≤ w.heap.size + 1 by omega) _⟩
  case done =>
    rintro D ls Wd hD rfl ⟨⟨hX, hM⟩, hB⟩ hK
    have hbd := sumL_bd _ (HALL.out (rowsI H W C top left kk o kk))
    rw [List.length_map] at hbd
    obtain ⟨R0, hR0⟩ : ∃ R0, nearZ (sumL ((rowsI H W C top left kk o kk).map G)) ((rowsI H W C top left kk o kk).length : Int) = R0 := ⟨_, rfl⟩
    have hwr := HR.out
    rw [hR0] at hwr
    generalize sumL ((rowsI H W C top left kk o kk).map G) = s0 at hX hbd hR0
    generalize hml : ((rowsI H W C top left kk o kk).length : Int) = m0 at hM hbd hR0
    have hm9 : 0 ≤ m0 ∧ m0 ≤ 49 := by omega
    obtain ⟨hm1, hm2⟩ := hm9
    have hcx := hX.cell
    have hcm := hM.cell
    have HB := Lib.hid hB
    have HK := Lib.hid hK
    have HD := Lib.hid hD
    have HR0 := Lib.hid hR0
    have hs1 : -4611686018427387904 ≤ s0 := by omega
    have hs2 : s0 ≤ 4611686018427387904 := by omega
    have hm3 : m0 ≤ 9223372036854775807 := by omega
    clear hX hM hB hK hD hbz bX bM hbW hcap hc ht hml hbd hR0 hm1 hm2
    go_wp2_with (go_at_call 56; (refine (near_to s0 m0 hs1 hs2 hm3 R0 HR0.out _).mono ?_); rintro e w1 ⟨rfl, q1, rfl⟩)
    have HK2 : (Wd.drewN q1).heap[D]? = some (.deferred (some [])) := HK.out
    refine ⟨by simp, .inl ⟨_, _, rfl, run_takeDeferred HK2, ?_⟩⟩
    refine ⟨.int .i8 R, ?_, rfl, (Kit.below_drewN HB.out _).trans (belowK_b (w := w) (Nat.le_refl _) _ D _ _ (by have := HD.out; omega) HK2 rfl rfl)⟩
    simp [results, Tryz.f55, go_sem]
  case stop =>
    rintro D c pre W _ _ h _
    exact h.elim
end Go.Proofs.YtoghpoopgkahiaaGreatDoor.CPool
end
