/- LowTop: LowerAll, TopNum, one behind the other. -/
import Derived.Test.YtceejjliboiciaaKit
import Derived.OrdersIn
import Derived.TacticsIn
import Derived.RegionTactic
import Derived.Test.YtceejjliboiciaaPatchAll
import Derived.Test.YtceejjliboiciaaGemmAll
import Derived.Test.YtceejjliboiciaaConvOf
import Derived.RangeFuncBox
import Derived.RangeFuncLeaves
import Derived.RangeFuncCalls
import Derived.RangeFuncNested
import Derived.Shelf.Abstract
import Derived.OwnWalkIn
import Derived.TacticsInMore
import Derived.LoopNIn
import Derived.LoopIn
import Derived.Test.YtceejjliboiciaaBiasNum
import Derived.Test.YtceejjliboiciaaConvBoth
import Derived.Deep.RegionHeld3
import Derived.Test.YtceejjliboiciaaNodeCopy
import Derived.Deep.CutRange
import Derived.Test.YtceejjliboiciaaLaneBoth
namespace Go.Proofs.Ytceejjliboiciaa.Round
open Go
set_option linter.unusedVariables false

section
variable {F : Fence} {n : Nat} {P : Program} {ops : Array Oper} {Q : Exit → Act → World → Prop} {md : Region.Mode}

/-- at a normal end alone. -/
def Norm (Q : Exit → Act → World → Prop) : Exit → Act → World → Prop
  | .normal, a, w => Q .normal a w
  | _, _, _ => False

/-- an operation that enters nothing. -/
def Calm : Result Next → Prop
  | .ok (.enter _ _) _ => False
  | .ok (.row _ _) _ => False
  | .ok (.round _ _ _ _ _) _ => False
  | _ => True
def Still (F : Fence) (P : Program) (o : Oper) : Prop :=
  (∀ c, o.op ≠ .defer c) ∧ ∀ (ρ : Operand → Value) (w : World), (∀ f, o.about P w ρ = some f → F.fn f) ∧ Calm ((execOp ρ o).run P w)

theorem wpAnyIn_of_plain (hst : ∀ (i : Nat) (o : Oper), ops[i]? = some o → Still F P o) : ∀ (fuel : Nat) (listed : Array Bool) (a : Act) (w : World),
    wpAny P md ops (Norm Q) fuel listed a w → wpAnyIn F n P md ops Q fuel listed a w
  | 0, _, _, _, h => h
  | fuel + 1, listed, a, w, h => by
    refine ⟨h.1, fun i hi => ?_⟩
    have hop := h.2 i hi
    unfold wpOp at hop
    unfold wpOpIn
    cases ho : ops[i]? with
    | none =>
      simp only [ho] at hop
      exact wpAnyIn_of_plain hst fuel _ _ _ hop
    | some o =>
      simp only [ho] at hop
      obtain ⟨h1, h2⟩ := hst i o ho
      obtain ⟨h3, h4⟩ := h2 a.eval w
      by_cases hw : Region.wanted o (yielded ops a.tmps) = true
      · simp only [hw, if_true] at hop ⊢
        rcases hop with hop | ⟨_, _, _, hF⟩
        · refine ⟨h3, ?_⟩
          rw [Oper.semAt_eq _ _ _ h1]
          unfold Oper.wp at hop
          generalize (execOp a.eval o).run P w = r at hop h4
          cases r with
          | ok x w' =>
            cases x <;> first
              | exact wpAnyIn_of_plain hst fuel _ _ _ hop
              | exact h4.elim
              | exact (hop : False).elim
          | halt x w' =>
            cases x <;> first | exact hop.elim | exact (hop : False).elim
        · exact hF.elim
      · simp only [hw, if_false, Bool.false_eq_true] at hop ⊢
        exact ⟨h3, wpAnyIn_of_plain hst fuel _ _ _ hop⟩

theorem region_round {id : Nat} {a : Act} {w : World} (hm : P.follows .mixedOrders = true) (hst : ∀ (i : Nat) (o : Oper), ops[i]? = some o → Still F P o)
    (h : wpAny P .any ops (Norm Q) ops.size (Array.replicate ops.size false) a w.drew) : (Code.region id ops true).wpIn F n P Q a w :=
  wpIn_region_any hm (wpAnyIn_of_plain hst _ _ _ _ h)

theorem calm_value (s : Sem Value) (w : World) : Calm ((do pure (.value (← s)) : Sem Next).run P w) := by
  rw [Sem.run_bind]
  cases s.run P w with
  | ok x w' => trivial
  | halt x w' => trivial
theorem calm_unit (s : Sem Unit) (w : World) : Calm ((do s; pure .skip : Sem Next).run P w) := by
  rw [Sem.run_bind]
  cases s.run P w with
  | ok x w' => trivial
  | halt x w' => trivial
theorem calm_then (r : Result Value) : Calm (r.andThen fun a w' => Result.ok (Next.value a) w') := by
  cases r with
  | ok x w' => trivial
  | halt x w' => trivial
theorem still_of_list {l : List Oper} (h : ∀ o ∈ l, Still F P o) : ∀ (i : Nat) (o : Oper), l.toArray[i]? = some o → Still F P o := fun i o ho =>
  h o (List.mem_of_getElem? (by simpa using ho))
theorem still_move (d : Option Tmp) (x : Operand) (t : TypeId) (p : String) (e : Array Edge) (g : Option (Nat × Bool)) : Still F P { dst := d, op := .move x, type := t, pos := p, after := e, guard := g } :=
  ⟨(fun c h => by cases h), fun ρ w => ⟨fun f h => by simp [Oper.about] at h, trivial⟩⟩
theorem still_assign (d : Option Tmp) (x : Operand) (t : TypeId) (p : String) (e : Array Edge) (g : Option (Nat × Bool)) : Still F P { dst := d, op := .assign x, type := t, pos := p, after := e, guard := g } :=
  ⟨(fun c h => by cases h), fun ρ w => ⟨fun f h => by simp [Oper.about] at h, trivial⟩⟩
theorem still_load (d : Option Tmp) (T : TypeId) (x : Operand) (t : TypeId) (p : String) (e : Array Edge) (g : Option (Nat × Bool)) : Still F P { dst := d, op := .load T x, type := t, pos := p, after := e, guard := g } :=
  ⟨(fun c h => by cases h), fun ρ w => ⟨fun f h => by simp [Oper.about] at h, calm_value _ w⟩⟩
theorem still_store (d : Option Tmp) (T : TypeId) (x y : Operand) (t : TypeId) (p : String) (e : Array Edge) (g : Option (Nat × Bool)) : Still F P { dst := d, op := .store T x y, type := t, pos := p, after := e, guard := g } :=
  ⟨(fun c h => by cases h), fun ρ w => ⟨fun f h => by simp [Oper.about] at h, calm_unit _ w⟩⟩
theorem still_builtin_min (d : Option Tmp) (xs : Array Operand) (ts : Array TypeId) (t : TypeId) (p : String) (e : Array Edge) (g : Option (Nat × Bool)) : Still F P { dst := d, op := .call { callee := .builtin .min, args := xs, argTypes := ts }, type := t, pos := p, after := e, guard := g } :=
  ⟨(fun c h => by cases h), fun ρ w => ⟨fun f h => by simp [Oper.about, resolve, go_sem] at h, by
    simp only [execOp, resolve, invoke, builtin, Sem.run_bind, Sem.run_pure, Result.andThen_ok]
    exact calm_then _⟩⟩
theorem still_builtin_max (d : Option Tmp) (xs : Array Operand) (ts : Array TypeId) (t : TypeId) (p : String) (e : Array Edge) (g : Option (Nat × Bool)) : Still F P { dst := d, op := .call { callee := .builtin .max, args := xs, argTypes := ts }, type := t, pos := p, after := e, guard := g } :=
  ⟨(fun c h => by cases h), fun ρ w => ⟨fun f h => by simp [Oper.about, resolve, go_sem] at h, by
    simp only [execOp, resolve, invoke, builtin, Sem.run_bind, Sem.run_pure, Result.andThen_ok]
    exact calm_then _⟩⟩
end
end Go.Proofs.Ytceejjliboiciaa.Round

namespace Go.Proofs.Ytceejjliboiciaa.CLower
open Go Go.ChangeShapes Go.WideShapes Go.ChangeAt Go.RowKit
open Plain CSat CShape CTensor CConv
set_option linter.unusedVariables false

theorem psum_eq (G : Nat → Int) : ∀ n, CGemm.psum G n = psum G n
  | 0 => rfl
  | n + 1 => by show CGemm.psum G n + G n = psum G n + G n; rw [psum_eq G n]
theorem psum_add (G : Nat → Int) (m : Nat) : ∀ k, psum G (m + k) = psum G m + psum (fun j => G (m + j)) k
  | 0 => by simp [psum]
  | k + 1 => by
    show psum G (m + k) + G (m + k) = psum G m + (psum (fun j => G (m + j)) k + G (m + k))
    rw [psum_add G m k]; omega
theorem psum_flat (G : Nat → Int) (b : Nat) : ∀ a, psum G (a * b) = psum (fun i => psum (fun j => G (i * b + j)) b) a
  | 0 => by simp [psum]
  | a + 1 => by
    rw [Nat.add_mul, Nat.one_mul, psum_add, psum_flat G b a]; rfl

theorem parts_of {wd d kk k2 r i j c : Nat} (hk2 : kk * kk = k2) (hwd : k2 * d = wd) (hi : i < kk) (hj : j < kk) (hc : c < d) :
    (i * kk + j) * d + c < wd ∧ (r * wd + ((i * kk + j) * d + c)) / wd = r ∧ (r * wd + ((i * kk + j) * d + c)) % wd = (i * kk + j) * d + c ∧ ((i * kk + j) * d + c) / d = i * kk + j ∧ ((i * kk + j) * d + c) % d = c ∧ (i * kk + j) / kk = i ∧ (i * kk + j) % kk = j := by
  have h1 : i * kk + j < kk * kk := by
    have := Nat.mul_le_mul_right kk (show i + 1 ≤ kk by omega)
    rw [Nat.add_mul, Nat.one_mul] at this; omega
  have h2 : (i * kk + j) * d + c < wd := by
    have := Nat.mul_le_mul_right d (show i * kk + j + 1 ≤ k2 by omega)
    rw [Nat.add_mul, Nat.one_mul, hwd] at this; omega
  have dm : ∀ (x m y : Nat), y < m → (x * m + y) / m = x ∧ (x * m + y) % m = y := fun x m y hy => by
    constructor
    · rw [Nat.mul_comm, Nat.mul_add_div (by omega), Nat.div_eq_of_lt hy]; rfl
    · rw [Nat.mul_comm, Nat.mul_add_mod, Nat.mod_eq_of_lt hy]
  exact ⟨h2, (dm r wd _ h2).1, (dm r wd _ h2).2, (dm _ d c hc).1, (dm _ d c hc).2, (dm i kk j hj).1, (dm i kk j hj).2⟩

theorem low_term (zs ws : List Int) (H W C S P Z : Int) (b kk d k2 wd r o i j c : Nat) (hk2 : kk * kk = k2) (hwd : k2 * d = wd) (hi : i < kk) (hj : j < kk) (hc : c < d) (hW : 0 ≤ W) (hC : C = (d : Int)) :
    CPatch.numF zs H W C S P Z b kk d wd (r * wd + ((i * kk + j) * d + c)) * ws.getD (o * wd + ((i * kk + j) * d + c)) 0 =
      if 0 ≤ ((r / b : Nat) : Int) * S - P + (i : Int) ∧ ((r / b : Nat) : Int) * S - P + (i : Int) < H ∧ 0 ≤ ((r % b : Nat) : Int) * S - P + (j : Int) ∧ ((r % b : Nat) : Int) * S - P + (j : Int) < W then
        termF zs ws (((((r / b : Nat) : Int) * S - P + (i : Int)) * W + (((r % b : Nat) : Int) * S - P + (j : Int))) * C).toNat (((o * kk + i) * kk + j) * d) Z c else 0 := by
  obtain ⟨h0, h1, h2, h3, h4, h5, h6⟩ := parts_of (r := r) hk2 hwd hi hj hc
  unfold CPatch.numF
  rw [h1, h2, h3, h4, h5, h6]
  split
  · rename_i hin
    unfold termF
    have e1 : ((((((r / b : Nat) : Int) * S - P + (i : Int)) * W + (((r % b : Nat) : Int) * S - P + (j : Int))) * C) + ((c : Nat) : Int)).toNat = (((((r / b : Nat) : Int) * S - P + (i : Int)) * W + (((r % b : Nat) : Int) * S - P + (j : Int))) * C).toNat + c := by
      have : 0 ≤ (((((r / b : Nat) : Int) * S - P + (i : Int)) * W + (((r % b : Nat) : Int) * S - P + (j : Int))) * C) :=
        Int.mul_nonneg (Int.add_nonneg (Int.mul_nonneg hin.1 hW) hin.2.2.1) (by omega)
      omega
    have e2 : o * wd + ((i * kk + j) * d + c) = ((o * kk + i) * kk + j) * d + c := by
      have h7 : (o * kk + i) * kk + j = o * (kk * kk) + (i * kk + j) := by rw [Nat.add_mul, Nat.mul_assoc]; omega
      rw [h7, Nat.add_mul (o * (kk * kk)), Nat.mul_assoc o, hk2, hwd]; omega
    rw [e1, e2, Int.mul_comm]
  · rw [Int.zero_mul]

/-- the sum of a row's products is the window's. -/
theorem low_sum (zs ws : List Int) (H W C S P Z : Int) (b kk d k2 wd r o : Nat) (hk2 : kk * kk = k2) (hwd : k2 * d = wd) (hW : 0 ≤ W) (hC : C = (d : Int)) :
    psum (fun k => CPatch.numF zs H W C S P Z b kk d wd (r * wd + k) * ws.getD (o * wd + k) 0) wd = winF zs ws H W C (((r / b : Nat) : Int) * S - P) (((r % b : Nat) : Int) * S - P) d kk o Z := by
  rw [show psum (fun k => CPatch.numF zs H W C S P Z b kk d wd (r * wd + k) * ws.getD (o * wd + k) 0) wd = psum (fun k => CPatch.numF zs H W C S P Z b kk d wd (r * wd + k) * ws.getD (o * wd + k) 0) ((kk * kk) * d) by rw [hk2, hwd], psum_flat, psum_flat]
  unfold winF
  refine psum_congr fun i hi => ?_
  unfold rowF
  refine psum_congr fun j hj => ?_
  unfold placeF
  split
  · rename_i hin
    refine psum_congr fun c hc => ?_
    rw [low_term zs ws H W C S P Z b kk d k2 wd r o i j c hk2 hwd hi hj hc hW hC, if_pos hin]
  · rename_i hin
    refine psum_zero fun c hc => ?_
    rw [low_term zs ws H W C S P Z b kk d k2 wd r o i j c hk2 hwd hi hj hc hW hC, if_neg hin]

/-- a product, and the bias of its channel, is the sum. -/
theorem low_num (zs ws bs : List Int) (H W C S P Z : Int) (b kk d k2 wd oo N1 NN : Nat) (hk2 : kk * kk = k2) (hwd : k2 * d = wd) (hW : 0 ≤ W) (hC : C = (d : Int)) (hNN : N1 * wd = NN) (F : Nat → Int) (hF : F = CPatch.numF zs H W C S P Z b kk d wd)
    (i : Nat) (hi : i < N1 * oo) : IntKind.i32.wrap (CGemm.mulF (CPatch.listF F NN) ws wd oo i + bs.getD (i % oo) 0) = gridF b oo (sumF zs ws bs H W C S P d kk Z) i := by
  have hoo : 0 < oo := by
    rcases Nat.eq_zero_or_pos oo with h | h
    · subst h; omega
    · exact h
  have hr : i / oo < N1 := Nat.div_lt_of_lt_mul (by rw [Nat.mul_comm]; exact hi)
  unfold CGemm.mulF gridF sumF
  rw [psum_eq, wrap32_add, ← low_sum zs ws H W C S P Z b kk d k2 wd (i / oo) (i % oo) hk2 hwd hW hC]
  congr 1
  rw [Int.add_comm]
  congr 1
  refine psum_congr fun k hk => ?_
  congr 1
  rw [List.getD_eq_getElem?_getD, CPatch.listF_at F (by
    have := Nat.mul_le_mul_right wd (show i / oo + 1 ≤ N1 by omega)
    rw [Nat.add_mul, Nat.one_mul, hNN] at this; omega), hF]
  rfl

/-- the first t numbers of one rule, the others of another one. -/
def mixF (T M : Nat → Int) (t i : Nat) : Int := if i < t then T i else M i
theorem mix_zero (T M : Nat → Int) (N : Nat) : CGemm.rowL (mixF T M 0) N = CGemm.rowL M N := CGemm.rowL_congr fun i _ => by unfold mixF; rw [if_neg (by omega)]
theorem mix_all (T M : Nat → Int) (N : Nat) : CGemm.rowL (mixF T M N) N = CGemm.rowL T N := CGemm.rowL_congr fun i hi => by unfold mixF; rw [if_pos hi]
theorem mix_set (T M : Nat → Int) {N t : Nat} (ht : t < N) : (CGemm.rowL (mixF T M t) N).set t (T t) = CGemm.rowL (mixF T M (t + 1)) N := by
  refine CGemm.eq_rowL (by simp [CGemm.rowL_len]) fun i hi => ?_
  rw [List.getElem?_set]
  by_cases e : t = i
  · subst e
    rw [if_pos rfl, if_pos (by rw [CGemm.rowL_len]; exact hi)]
    unfold mixF; rw [if_pos (by omega)]
  · rw [if_neg e, CGemm.rowL_at _ hi]
    unfold mixF
    by_cases h : i < t
    · rw [if_pos h, if_pos (by omega)]
    · rw [if_neg h, if_neg (by omega)]
theorem mix_at (T M : Nat → Int) {N t : Nat} (ht : t < N) : (CGemm.rowL (mixF T M t) N)[t]? = some (M t) := by
  rw [CGemm.rowL_at _ ht]; unfold mixF; rw [if_neg (by omega)]
end Go.Proofs.Ytceejjliboiciaa.CLower

namespace Go.Proofs.Ytceejjliboiciaa.CLower
open Go Go.ChangeShapes Go.WideShapes Go.ChangeAt Go.RowKit Go.Shelf Round
open Plain CSat CShape CTensor CConv
set_option linter.unusedVariables false
attribute [local go_sem] Oper.semAt_some

theorem still_slice {F : Fence} {P : Program} (d : Option Tmp) (T : TypeId) (x : Operand) (a b c : Option Operand) (t : TypeId) (p : String) (e : Array Edge) (g : Option (Nat × Bool)) : Still F P { dst := d, op := .slice T x a b c, type := t, pos := p, after := e, guard := g } :=
  ⟨(fun c h => by cases h), fun ρ w => ⟨fun f h => by simp [Oper.about] at h, calm_value _ w⟩⟩
theorem still_builtin_len {F : Fence} {P : Program} (d : Option Tmp) (xs : Array Operand) (ts : Array TypeId) (t : TypeId) (p : String) (e : Array Edge) (g : Option (Nat × Bool)) : Still F P { dst := d, op := .call { callee := .builtin .len, args := xs, argTypes := ts }, type := t, pos := p, after := e, guard := g } :=
  ⟨(fun c h => by cases h), fun ρ w => ⟨fun f h => by simp [Oper.about, resolve, go_sem] at h, by
    simp only [execOp, resolve, invoke, builtin, Sem.run_bind, Sem.run_pure, Result.andThen_ok]
    exact calm_then _⟩⟩

/-- two boxes stay as they are. -/
def Keep2 (Bs Bn : Nat) (A B : World) : Prop := B.cell? ⟨Bs, 0, none⟩ = A.cell? ⟨Bs, 0, none⟩ ∧ B.cell? ⟨Bn, 0, none⟩ = A.cell? ⟨Bn, 0, none⟩
theorem Keep2.trans {Bs Bn : Nat} {A B C : World} (h : Keep2 Bs Bn A B) (k : Keep2 Bs Bn B C) : Keep2 Bs Bn A C := ⟨k.1.trans h.1, k.2.trans h.2⟩
/-- the piece number x. -/
def piece (g d : Nat) (cap : Nat) (x : Nat) : Array Value := #[.slice (some ⟨g, x * d, none⟩) d d]
def first (k : Nat) : List Nat := List.range k
theorem first_succ (k : Nat) : first (k + 1) = first k ++ [k] := by simp [first, List.range_succ]
theorem first_len (k : Nat) : (first k).length = k := by simp [first]

set_option maxRecDepth 100000 in
set_option maxHeartbeats 4000000 in
theorem chunk_in (F : Fence) (n : Nat) (h8 : F.fn 50) (hro : F.round = none) (hn : 1 ≤ n) (l Bs Bn g d r L cap : Nat) (hd : 1 ≤ d) (hdm : d ≤ 1024) (hL : r * d = L) (hLm : L ≤ 1000000) (hcap : L ≤ cap) (hcm : cap ≤ maxLen) (J Jx : List Nat → World → Prop)
    (hJd : ∀ pre W, J pre W → J pre W.drew)
    (hY : ∀ pre W, J pre W → pre.length < r → YieldAt F (n - 1) Try.prog l (piece g d cap pre.length) W fun e W' =>
      (e = .returned (.bool true) ∧ J (pre ++ [pre.length]) W' ∧ Keep2 Bs Bn W W') ∨ (e = .returned (.bool false) ∧ Jx (pre ++ [pre.length]) W'))
    (W : World) (hBs : W.cell? ⟨Bs, 0, none⟩ = some (.slice (some ⟨g, 0, none⟩) L cap)) (hBn : W.cell? ⟨Bn, 0, none⟩ = some (.int .i64 d)) (h0 : J [] W) :
    CallsIn F n Try.prog 50 #[.func (.yield l) #[] #[], .pointer (some ⟨Bs, 0, none⟩), .pointer (some ⟨Bn, 0, none⟩)] W fun e W' => (∃ v, e = .returned v) ∧
      ((∃ ys, ys = first r ∧ J ys W') ∨ (∃ pre, (∃ k, k ≤ r ∧ pre = first k) ∧ Jx pre W')) := by
  refine callsIn_of_wp Try.func50 rfl h8 ?_ hro
  simp only [Try.ntmps50, List.size_toArray, List.length_cons, List.length_nil, Nat.reduceAdd, Nat.reduceSub, Array.replicate_succ, Array.replicate_zero, List.push_toArray, List.append_toArray, List.nil_append, List.cons_append]
  have HL := Lib.hid hL
  clear hL
  gi_wp2
  gi_loopw [4] (fun i wr => ∃ k : Nat, k ≤ r ∧ i = .int .i64 ((k * d : Nat) : Int) ∧ J (first k) wr ∧ Hid (Keep2 Bs Bn W wr))
    (fun i _ => L - (intOf i).toNat)
  case atStart => exact ⟨0, Nat.zero_le _, by simp, h0, Lib.hid ⟨rfl, rfl⟩⟩
  case round =>
    obtain ⟨k, hk, rfl, hJs, hK⟩ := hrel
    have cs := hK.out.1.trans hBs
    have cn := hK.out.2.trans hBn
    obtain ⟨q, hq⟩ : ∃ q, k * d = q := ⟨_, rfl⟩
    have hqL : q ≤ L := by rw [← hq, ← HL.out]; exact Nat.mul_le_mul_right _ hk
    rw [hq]
    by_cases hlt : k < r
    · have hq1 : q + d ≤ L := by
        have := Nat.mul_le_mul_right d (show k + 1 ≤ r by omega)
        rw [Nat.add_mul, Nat.one_mul, hq, HL.out] at this; exact this
      have hq2 : (k + 1) * d = q + d := by rw [Nat.add_mul, Nat.one_mul, hq]
      have hqI : (q : Int) < (L : Int) := by omega
      have HQ := Lib.hid hq
      have HQ2 := Lib.hid hq2
      have e1 : IntKind.i64.wrap ((q : Int) + (d : Int)) = ((q + d : Nat) : Int) := by rw [IntWalk.i64_in _ (by omega)]; omega
      have hYk := hY _ wr.drew (hJd _ _ hJs) (by rw [first_len]; exact hlt)
      rw [first_len] at hYk
      have HYK := Lib.hid hYk
      clear hq hq2 hYk
      have hq0 : (0 : Int) ≤ (q : Int) := by omega
      have hqL2 : (q : Int) ≤ (L : Int) := by omega
      have hqc : (q : Int) ≤ (cap : Int) := by omega
      have m1 : ¬ ((L : Int) - (q : Int)) < (d : Int) := by omega
      have m2 : ¬ (L - q) < d := by omega
      have m3 : ¬ ((L - q : Nat) : Int) < (d : Int) := by omega
      gi_wp2
      refine region_round (by kernel_rfl) (still_of_list (by simp only [List.forall_mem_cons]; exact ⟨still_load .., still_load .., still_move .., still_slice .., still_builtin_len .., still_builtin_min .., still_assign .., fun _ h => by cases h⟩)) ?_
      have cs2 : wr.drew.cell? ⟨Bs, 0, none⟩ = some (.slice (some ⟨g, 0, none⟩) L cap) := cs
      have cn2 : wr.drew.cell? ⟨Bn, 0, none⟩ = some (.int .i64 d) := cn
      have HK2 : Hid (Keep2 Bs Bn W wr.drew) := hK
      clear cs cn hJs hK
      generalize wr.drew = Wd at cs2 cn2 HK2 HYK ⊢
      refine wpAny_take (i := 2) (oi := ({ dst := some 15, op := Op.move (Operand.tmp 4), type := 3, pos := "iter.go:105", after := #[], guard := none } : Oper)) (v := ?_) rfl (by kernel_rfl) (by kernel_rfl) (by kernel_rfl) (fun _ _ _ h => h) (Or.inl ⟨by rfl, ?_⟩) ?_
      rotate_left
      · intro wS
        first
          | (go_simp; done)
          | (go_simp; with_reducible rfl)
      try simp only [Act.put, List.setIfInBounds_toArray, List.set_cons_zero, List.set_cons_succ]
      refine wpAny_ready (rs := [0, 1]) (by kernel_rfl) (by simp) ?_
      refine AllReady.cons (o := ({ dst := some 13, op := Op.load 3 (Operand.tmp 2), type := 3, pos := "iter.go:105", after := #[], guard := none } : Oper)) rfl (fun K hK => ?_) ?_
      · go_simp
        refine hK _ _ ?_
        clear hK K
        try simp only [Act.put, List.setIfInBounds_toArray, List.set_cons_zero, List.set_cons_succ]
        refine wpAny_ready (rs := [1]) (by kernel_rfl) (by simp) ?_
        refine AllReady.cons (o := ({ dst := some 14, op := Op.load 28 (Operand.tmp 1), type := 28, pos := "iter.go:105", after := #[], guard := none } : Oper)) rfl (fun K hK => ?_) (fun j hj => by cases hj)
        go_simp
        refine hK _ _ ?_
        clear hK K
        try simp only [Act.put, List.setIfInBounds_toArray, List.set_cons_zero, List.set_cons_succ]
        refine wpAny_take (i := 3) (oi := ({ dst := some 16, op := Op.slice 28 (Operand.tmp 14) (some (Operand.tmp 15)) none none, type := 28, pos := "iter.go:105", after := #[{ on := 1, ground := Ground.data }, { on := 2, ground := Ground.data }], guard := none } : Oper)) (v := ?_) rfl (by kernel_rfl) (by kernel_rfl) (by kernel_rfl) (fun _ _ _ h => h) (Or.inl ⟨by rfl, ?_⟩) ?_
        rotate_left
        · intro wS
          first
            | (go_simp; done)
            | (go_simp; with_reducible rfl)
        try simp only [Act.put, List.setIfInBounds_toArray, List.set_cons_zero, List.set_cons_succ]
        refine wpAny_take (i := 4) (oi := ({ dst := some 17, op := Op.call { callee := Callee.builtin Builtin.len, args := #[Operand.tmp 16], argTypes := #[28] }, type := 3, pos := "iter.go:105", after := #[{ on := 3, ground := Ground.data }], guard := none } : Oper)) (v := ?_) rfl (by kernel_rfl) (by kernel_rfl) (by kernel_rfl) (fun _ _ _ h => h) (Or.inl ⟨by rfl, ?_⟩) ?_
        rotate_left
        · intro wS
          first
            | (go_simp; done)
            | (go_simp; with_reducible rfl)
        try simp only [Act.put, List.setIfInBounds_toArray, List.set_cons_zero, List.set_cons_succ]
        refine wpAny_take (i := 5) (oi := ({ dst := some 18, op := Op.call { callee := Callee.builtin Builtin.min, args := #[Operand.tmp 13, Operand.tmp 17], argTypes := #[3, 3] }, type := 3, pos := "iter.go:105", after := #[{ on := 0, ground := Ground.data }, { on := 4, ground := Ground.data }], guard := none } : Oper)) (v := ?_) rfl (by kernel_rfl) (by kernel_rfl) (by kernel_rfl) (fun _ _ _ h => h) (Or.inl ⟨by rfl, ?_⟩) ?_
        rotate_left
        · intro wS
          first
            | (go_simp; done)
            | (go_simp; with_reducible rfl)
        try simp only [Act.put, List.setIfInBounds_toArray, List.set_cons_zero, List.set_cons_succ]
        refine wpAny_take (i := 6) (oi := ({ dst := some 5, op := Op.assign (Operand.tmp 18), type := 3, pos := "iter.go:105", after := #[{ on := 5, ground := Ground.data }, { on := 0, ground := Ground.phase }, { on := 1, ground := Ground.phase }, { on := 2, ground := Ground.phase }, { on := 3, ground := Ground.phase }, { on := 4, ground := Ground.phase }, { on := 5, ground := Ground.phase }], guard := none } : Oper)) (v := ?_) rfl (by kernel_rfl) (by kernel_rfl) (by kernel_rfl) (fun _ _ _ h => h) (Or.inl ⟨by rfl, ?_⟩) ?_
        rotate_left
        · intro wS
          first
            | (go_simp; done)
            | (go_simp; with_reducible rfl)
        try simp only [Act.put, List.setIfInBounds_toArray, List.set_cons_zero, List.set_cons_succ]
        refine wpAny_done (by kernel_rfl) ?_ _
        simp only [Norm]
        obtain ⟨fn, tmps, assign, body, hy, hR⟩ := HYK.out
        unfold piece at hy
        rw [HQ.out] at hy
        gi_wp2
        refine hR.mono ?_
        rintro e W3 (⟨rfl, hJ3, hk3⟩ | ⟨rfl, hJx3⟩)
        · have hK3 := Lib.hid (HK2.out.trans hk3)
          have cn3 := hk3.2.trans cn2
          clear hk3
          gi_wp2
          go_roundw
          case rel => exact ⟨k + 1, by omega, by rw [HQ2.out]; go_num, by rw [first_succ]; exact hJ3, hK3⟩
          case measure => simp [intOf]; omega
        · gi_wp2
          refine bodyPost_ret (results_none rfl _ _ _) rfl ?_
          exact ⟨⟨_, rfl⟩, .inr ⟨_, ⟨k + 1, by omega, (first_succ _).symm⟩, hJx3⟩⟩
      refine AllReady.cons (o := ({ dst := some 14, op := Op.load 28 (Operand.tmp 1), type := 28, pos := "iter.go:105", after := #[], guard := none } : Oper)) rfl (fun K hK => ?_) ?_
      · go_simp
        refine hK _ _ ?_
        clear hK K
        try simp only [Act.put, List.setIfInBounds_toArray, List.set_cons_zero, List.set_cons_succ]
        refine wpAny_take (i := 3) (oi := ({ dst := some 16, op := Op.slice 28 (Operand.tmp 14) (some (Operand.tmp 15)) none none, type := 28, pos := "iter.go:105", after := #[{ on := 1, ground := Ground.data }, { on := 2, ground := Ground.data }], guard := none } : Oper)) (v := ?_) rfl (by kernel_rfl) (by kernel_rfl) (by kernel_rfl) (fun _ _ _ h => h) (Or.inl ⟨by rfl, ?_⟩) ?_
        rotate_left
        · intro wS
          first
            | (go_simp; done)
            | (go_simp; with_reducible rfl)
        try simp only [Act.put, List.setIfInBounds_toArray, List.set_cons_zero, List.set_cons_succ]
        refine wpAny_take (i := 4) (oi := ({ dst := some 17, op := Op.call { callee := Callee.builtin Builtin.len, args := #[Operand.tmp 16], argTypes := #[28] }, type := 3, pos := "iter.go:105", after := #[{ on := 3, ground := Ground.data }], guard := none } : Oper)) (v := ?_) rfl (by kernel_rfl) (by kernel_rfl) (by kernel_rfl) (fun _ _ _ h => h) (Or.inl ⟨by rfl, ?_⟩) ?_
        rotate_left
        · intro wS
          first
            | (go_simp; done)
            | (go_simp; with_reducible rfl)
        try simp only [Act.put, List.setIfInBounds_toArray, List.set_cons_zero, List.set_cons_succ]
        refine wpAny_ready (rs := [0]) (by kernel_rfl) (by simp) ?_
        refine AllReady.cons (o := ({ dst := some 13, op := Op.load 3 (Operand.tmp 2), type := 3, pos := "iter.go:105", after := #[], guard := none } : Oper)) rfl (fun K hK => ?_) (fun j hj => by cases hj)
        go_simp
        refine hK _ _ ?_
        clear hK K
        try simp only [Act.put, List.setIfInBounds_toArray, List.set_cons_zero, List.set_cons_succ]
        refine wpAny_take (i := 5) (oi := ({ dst := some 18, op := Op.call { callee := Callee.builtin Builtin.min, args := #[Operand.tmp 13, Operand.tmp 17], argTypes := #[3, 3] }, type := 3, pos := "iter.go:105", after := #[{ on := 0, ground := Ground.data }, { on := 4, ground := Ground.data }], guard := none } : Oper)) (v := ?_) rfl (by kernel_rfl) (by kernel_rfl) (by kernel_rfl) (fun _ _ _ h => h) (Or.inl ⟨by rfl, ?_⟩) ?_
        rotate_left
        · intro wS
          first
            | (go_simp; done)
            | (go_simp; with_reducible rfl)
        try simp only [Act.put, List.setIfInBounds_toArray, List.set_cons_zero, List.set_cons_succ]
        refine wpAny_take (i := 6) (oi := ({ dst := some 5, op := Op.assign (Operand.tmp 18), type := 3, pos := "iter.go:105", after := #[{ on := 5, ground := Ground.data }, { on := 0, ground := Ground.phase }, { on := 1, ground := Ground.phase }, { on := 2, ground := Ground.phase }, { on := 3, ground := Ground.phase }, { on := 4, ground := Ground.phase }, { on := 5, ground := Ground.phase }], guard := none } : Oper)) (v := ?_) rfl (by kernel_rfl) (by kernel_rfl) (by kernel_rfl) (fun _ _ _ h => h) (Or.inl ⟨by rfl, ?_⟩) ?_
        rotate_left
        · intro wS
          first
            | (go_simp; done)
            | (go_simp; with_reducible rfl)
        try simp only [Act.put, List.setIfInBounds_toArray, List.set_cons_zero, List.set_cons_succ]
        refine wpAny_done (by kernel_rfl) ?_ _
        simp only [Norm]
        obtain ⟨fn, tmps, assign, body, hy, hR⟩ := HYK.out
        unfold piece at hy
        rw [HQ.out] at hy
        gi_wp2
        refine hR.mono ?_
        rintro e W3 (⟨rfl, hJ3, hk3⟩ | ⟨rfl, hJx3⟩)
        · have hK3 := Lib.hid (HK2.out.trans hk3)
          have cn3 := hk3.2.trans cn2
          clear hk3
          gi_wp2
          go_roundw
          case rel => exact ⟨k + 1, by omega, by rw [HQ2.out]; go_num, by rw [first_succ]; exact hJ3, hK3⟩
          case measure => simp [intOf]; omega
        · gi_wp2
          refine bodyPost_ret (results_none rfl _ _ _) rfl ?_
          exact ⟨⟨_, rfl⟩, .inr ⟨_, ⟨k + 1, by omega, (first_succ _).symm⟩, hJx3⟩⟩
      exact fun j hj => by cases hj
    · obtain rfl : k = r := by omega
      rw [HL.out] at hq
      subst hq
      gi_wp2
      go_end0
      exact ⟨⟨_, rfl⟩, .inl ⟨_, rfl, hJs⟩⟩
end Go.Proofs.Ytceejjliboiciaa.CLower

namespace Go.Proofs.Ytceejjliboiciaa.CLower
open Go Go.ChangeShapes Go.WideShapes Go.ChangeAt Go.RowKit Go.Shelf Round
open Plain CSat CShape CTensor CConv
set_option linter.unusedVariables false

theorem own_at {w : World} {base g n cap : Nat} {e : TypeId} {xs : List Value} (h : w.ownsRow base e 1 (.slice (some ⟨g, 0, none⟩) n cap) n xs) (hn : 0 < n) :
    (∀ j u, xs[j]? = some u → w.cell? ⟨g, j, none⟩ = some u) ∧ (∀ j, w.frozen? ⟨g, j, none⟩ = false) ∧ g < w.heap.size := by
  obtain ⟨g', cap', e1, _, h2, _, _, h3, h4⟩ := own_cells h hn
  cases e1
  exact ⟨h3, h4, h2⟩
theorem below_of_grown {w w' : World} {g B : Nat} (h : w.grownBy w' (some g)) (hg : B ≤ g) (hB : B ≤ w.heap.size) : Below B w w' :=
  ⟨h.os, h.tape, h.output, h.size, fun k hk => h.block k (by omega) (by intro e; cases e; omega)⟩
theorem grown_drew (w : World) (r : Option Nat) : w.grownBy w.drew r := ⟨rfl, rfl, rfl, Nat.le_refl _, fun _ _ _ => rfl⟩
theorem grown_self (w : World) (r : Option Nat) : w.grownBy w r := ⟨rfl, rfl, rfl, Nat.le_refl _, fun _ _ _ => rfl⟩
theorem grown_trans {a b c : World} {r : Option Nat} (h : a.grownBy b r) (k : b.grownBy c r) : a.grownBy c r :=
  ⟨k.os.trans h.os, k.tape.trans h.tape, k.output.trans h.output, Nat.le_trans h.size k.size, fun i hi hr => (k.block i (Nat.lt_of_lt_of_le hi h.size) hr).trans (h.block i hi hr)⟩
theorem grown_cell {a b : World} {g : Nat} (h : a.grownBy b (some g)) {p : Addr} (hp : p.block < a.heap.size) (hg : p.block ≠ g) : b.cell? p = a.cell? p :=
  World.cell?_of_block (h.block p.block hp (by intro e; cases e; exact hg rfl))
theorem grown_frozen {a b : World} {g : Nat} (h : a.grownBy b (some g)) {p : Addr} (hp : p.block < a.heap.size) (hg : p.block ≠ g) : b.frozen? p = a.frozen? p :=
  World.frozen?_of_block (h.block p.block hp (by intro e; cases e; exact hg rfl))

set_option maxRecDepth 100000 in
set_option maxHeartbeats 4000000 in
theorem raise_to (g q d N cap base Bb cB B : Nat) (BA : Option Addr) (bs : List Int) (T M : Nat → Int) (hbs : bs.length = d) (hd : 1 ≤ d) (hdm : d ≤ 1024) (hq : q + d ≤ N) (hN : N ≤ 1000000) (hB : B ≤ g) (hbg : Bb ≠ g)
    (hT : ∀ j, j < d → IntKind.i32.wrap (M (q + j) + bs.getD j 0) = T (q + j)) (W : World) (hBs : B ≤ W.heap.size) (ho : W.ownsRow base 21 1 (.slice (some ⟨g, 0, none⟩) N cap) N (I32v (CGemm.rowL (mixF T M q) N)))
    (hcb : W.cell? ⟨Bb, 0, none⟩ = some (.slice BA d cB)) (hbb : Bb < W.heap.size) (hr : Kit.Rd W B BA (I32v bs)) :
    Calls Try.prog 49 #[.slice (some ⟨g, q, none⟩) d d, .pointer (some ⟨Bb, 0, none⟩)] W fun e W' => (∃ v, e = .returned v) ∧ W'.ownsRow base 21 1 (.slice (some ⟨g, 0, none⟩) N cap) N (I32v (CGemm.rowL (mixF T M (q + d)) N)) ∧ W.grownBy W' (some g) := by
  have HT := Lib.hid hT
  have HO := Lib.hid ho
  have HR := Lib.hid hr
  have HBS := Lib.hid hbs
  clear hT ho hr hbs
  go_enter Try.func49, Try.ntmps49
  go_wp2_with fail
  go_loopw [7] (fun i wr => ∃ j : Nat, j ≤ d ∧ i = .int .i64 j ∧ Hid (wr.ownsRow base 21 1 (.slice (some ⟨g, 0, none⟩) N cap) N (I32v (CGemm.rowL (mixF T M (q + j)) N))) ∧ Hid (W.grownBy wr (some g))) (fun i _ => d - (intOf i).toNat)
  case atStart => exact ⟨0, Nat.zero_le _, rfl, HO, Lib.hid (grown_self _ _)⟩
  case round =>
    obtain ⟨j, hj, rfl, hO, hG⟩ := hrel
    by_cases hlt : j < d
    · obtain ⟨bb, ob, rfl, -, hcx⟩ := ints_getD (HR.out.below (below_of_grown hG.out hB hBs)) (j := j) (by have := HBS.out; omega)
      have kb := hcx j (by have := HBS.out; omega)
      obtain ⟨h1, h2, h3⟩ := own_at hO.out (by omega)
      have hjN : q + j < N := by omega
      have ks := h1 (q + j) (.int .i32 (M (q + j))) (by unfold I32v; rw [List.getElem?_map, mix_at T M hjN]; rfl)
      have fs := h2 (q + j)
      have ht := HT.out j hlt
      obtain ⟨b1, hb1⟩ : ∃ b1, bs.getD j 0 = b1 := ⟨_, rfl⟩
      obtain ⟨m1, hm1⟩ : ∃ m1, M (q + j) = m1 := ⟨_, rfl⟩
      obtain ⟨t1, ht1⟩ : ∃ t1, T (q + j) = t1 := ⟨_, rfl⟩
      have HT1 := Lib.hid ht1
      rw [hb1] at kb
      rw [hm1] at ks
      rw [hb1, hm1, ht1] at ht
      have hst := hO.out.stored (q + j) (.int .i32 t1)
      have hset : (I32v (CGemm.rowL (mixF T M (q + j)) N)).set (q + j) (.int .i32 t1) = I32v (CGemm.rowL (mixF T M (q + (j + 1))) N) := by
        unfold I32v
        rw [← List.map_set, ← ht1, mix_set T M hjN]; rfl
      rw [hset] at hst
      have HO2 := Lib.hid hst.1
      have HG2 := Lib.hid (grown_trans hG.out hst.2)
      have hj0 : (0 : Int) ≤ (j : Int) := by omega
      have hjd : (j : Int) < (d : Int) := by omega
      clear hst hset h1 h2 h3 hcx hb1 hm1 ht1
      go_wp2_with fail
      go_roundw
      case rel => exact ⟨j + 1, by omega, by go_num, HO2, HG2⟩
      case measure => simp [intOf]; omega
    · obtain rfl : j = d := by omega
      go_wp2_with fail
      go_end0
      exact ⟨⟨_, rfl⟩, hO.out, hG.out⟩

set_option maxHeartbeats 1000000 in
theorem raising_to (BA : Option Addr) (nB cB : Nat) (w : World) :
    Calls Try.prog 28 #[.slice BA nB cB] w fun e w' => e = .returned (.func (.func 49) #[] #[.pointer (some ⟨w.heap.size, 0, none⟩)]) ∧ w' = w.alloc (.cells #[.slice BA nB cB] 28) := by
  go_enter Try.func28, Try.ntmps28
  go_wp2_with fail
  go_ret
  exact ⟨rfl, rfl⟩
set_option maxHeartbeats 1000000 in
theorem chunks_to (A : Option Addr) (L c : Nat) (d : Nat) (hd : 1 ≤ d) (w : World) :
    Calls Try.prog 29 #[.slice A L c, .int .i64 d] w fun e w' => e = .returned (.func (.func 50) #[] #[.pointer (some ⟨w.heap.size, 0, none⟩), .pointer (some ⟨w.heap.size + 1, 0, none⟩)]) ∧ w' = (w.alloc (.cells #[.slice A L c] 28)).alloc (.cells #[.int .i64 d] 3) := by
  have h1 : ¬ (d : Int) < 1 := by omega
  go_enter Try.func29, Try.ntmps29
  go_wp2_with fail
  go_ret
  exact ⟨rfl, rfl⟩
end Go.Proofs.Ytceejjliboiciaa.CLower

namespace Go.Proofs.Ytceejjliboiciaa.CLower
open Go Go.ChangeShapes Go.WideShapes Go.ChangeAt Go.RowKit Go.Shelf Round
open Plain CSat CShape CTensor CConv
set_option linter.unusedVariables false
attribute [local go_sem] Oper.semAt_some

set_option maxHeartbeats 1000000 in
theorem lOf_bad (H W C : Int) (A : Option Addr) (n c : Nat) (x0 x1 x2 x8 x11 x12 x13 x14 x15 x16 x17 x18 : Value) (K S P O Z : Int) (WA BA : Option Addr) (nW cW nB cB : Nat) (ht : tensB H W C n = false) (w : World) :
    Calls Try.prog 13 #[.agg #[.int .i64 H, .int .i64 W, .int .i64 C, .slice A n c], .agg #[x0, x1, x2, .int .i64 K, .int .i64 S, .int .i64 P, .int .i64 O, .int .i8 Z, x8, .slice WA nW cW, .slice BA nB cB, x11, x12, x13, x14, x15, x16, x17, x18]] w (MadeA w 0 0 0 0 [] (.int .i64 5)) := by
  have HT := Lib.hid ht
  clear ht
  go_enter Try.func13, Try.ntmps13
  go_wp2_with (go_at_call 16; (refine (right_to H W C A n c false HT.out _).mono ?_); (rintro e w1 ⟨rfl, hb⟩; obtain ⟨hcc, hff⟩ := Kit.bcell hb; have hz : w.heap.size + 3 ≤ w1.heap.size := (by have := hb.size; simp at this; omega); have hz2 : w.heap.size + 2 < w1.heap.size := (by omega); have HB := Lib.hid hb; clear hb))
  refine bodyPost_ret (Kit.results_ct rfl _ _ (w.heap.size + 2) 0 [.int .i64 0, .int .i64 0, .int .i64 0, .slice none 0 0] _ rfl (range_4 (by go_cell) (by go_cell) (by go_cell) (by go_cell)) Try.underlying36 rfl (by kernel_rfl)) rfl ?_
  have hB1 : Below w.heap.size w w1 := Below.trans ((((Below.refl _ _).alloc (Nat.le_refl _) _).alloc (by simp) _).alloc (by simp; omega) _) (HB.out.mono (by first | omega | (simp; done) | (simp; omega)))
  exact ⟨_, rfl, World.ownsRow_nil _ _ _ _, (((hB1.setCell (p := ⟨w.heap.size + 2, 0, none⟩) (by simp) _).setCell (p := ⟨w.heap.size + 2, 1, none⟩) (by simp) _).setCell (p := ⟨w.heap.size + 2, 2, none⟩) (by simp) _).setCell (p := ⟨w.heap.size + 2, 3, none⟩) (by simp) _⟩
set_option maxHeartbeats 2000000 in
theorem lOf_err (H W C : Int) (A : Option Addr) (n c : Nat) (x0 x1 x2 x8 x11 x12 x13 x14 x15 x16 x17 x18 : Value) (K S P O Z : Int) (WA BA : Option Addr) (nW cW nB cB : Nat) (ht : tensB H W C n = true) (er : Int) (he : convE H W C K S P O nW nB = er) (h0 : er ≠ 0) (w : World) :
    Calls Try.prog 13 #[.agg #[.int .i64 H, .int .i64 W, .int .i64 C, .slice A n c], .agg #[x0, x1, x2, .int .i64 K, .int .i64 S, .int .i64 P, .int .i64 O, .int .i8 Z, x8, .slice WA nW cW, .slice BA nB cB, x11, x12, x13, x14, x15, x16, x17, x18]] w (MadeA w 0 0 0 0 [] (.int .i64 er)) := by
  have hS : convS H W C K S P O nW nB = #[.int .i64 0, .int .i64 0, .int .i64 0] := by unfold convS; rw [he, if_neg h0]
  have HT := Lib.hid ht
  have HE := Lib.hid he
  have HS := Lib.hid hS
  have h0b : (er != 0) = true := by simpa using h0
  have h0c : (er == 0) = false := by simpa using h0
  clear ht he hS
  go_enter Try.func13, Try.ntmps13
  go_wp2_with (first
    | (go_at_call 16
       have hal : Below w.heap.size w (((w.alloc (.cells #[.int .i64 H, .int .i64 W, .int .i64 C, .slice A n c] 26)).alloc (.cells #[x0, x1, x2, .int .i64 K, .int .i64 S, .int .i64 P, .int .i64 O, .int .i8 Z, x8, .slice WA nW cW, .slice BA nB cB, x11, x12, x13, x14, x15, x16, x17, x18] 32)).alloc (.cells #[.int .i64 0, .int .i64 0, .int .i64 0, .slice none 0 0] 36)) := (((Below.refl _ _).alloc (by first | exact Nat.le_refl _ | (simp; done) | (simp; omega)) _).alloc (by first | exact Nat.le_refl _ | (simp; done) | (simp; omega)) _).alloc (by first | exact Nat.le_refl _ | (simp; done) | (simp; omega)) _
       refine (right_to H W C A n c true HT.out _).mono ?_
       rintro e w1 ⟨rfl, hb⟩
       have hh : Below w.heap.size w w1 := hal.trans (hb.mono hal.size)
       have qTB := (boxNew H W C A n c 26) w
       try simp only [World.size_alloc] at qTB
       have TB := Lib.hid ((qTB.below (B' := w.heap.size + 1) (by omega) ((((Below.refl _ _).alloc (by first | exact Nat.le_refl _ | (simp; done) | (simp; omega)) _).alloc (by first | exact Nat.le_refl _ | (simp; done) | (simp; omega)) _).mono (by simp))).below (by first | (simp; done) | (simp; omega)) hb)
       have yTB : w.heap.size < w1.heap.size := by have := hb.size; simp at this; omega
       clear qTB
       have qTN := (NodeAt.new x0 x1 x2 x8 x11 x12 x13 x14 x15 x16 x17 x18 K S P O Z WA BA nW cW nB cB 32) (w.alloc (.cells #[.int .i64 H, .int .i64 W, .int .i64 C, .slice A n c] 26))
       try simp only [World.size_alloc] at qTN
       have TN := Lib.hid ((qTN.below (B' := w.heap.size + 2) (by omega) (((Below.refl _ _).alloc (by first | exact Nat.le_refl _ | (simp; done) | (simp; omega)) _).mono (by simp))).below (by first | (simp; done) | (simp; omega)) hb)
       have yTN : w.heap.size + 1 < w1.heap.size := by have := hb.size; simp at this; omega
       clear qTN
       have qFR := (freshNew 36) ((w.alloc (.cells #[.int .i64 H, .int .i64 W, .int .i64 C, .slice A n c] 26)).alloc (.cells #[x0, x1, x2, .int .i64 K, .int .i64 S, .int .i64 P, .int .i64 O, .int .i8 Z, x8, .slice WA nW cW, .slice BA nB cB, x11, x12, x13, x14, x15, x16, x17, x18] 32))
       try simp only [World.size_alloc] at qFR
       have FR := Lib.hid (qFR.below (by first | (simp; done) | (simp; omega)) hb)
       have yFR : w.heap.size + 2 < w1.heap.size := by have := hb.size; simp at this; omega
       clear qFR
       have HBW : Hid (Below w.heap.size w w1) := Lib.hid hh
       obtain ⟨tbp0, tbp1, tbp2, tbp3⟩ := TB.out
       clear hb hh hal)
    | (go_at_call 17
       have hal : Below w1.heap.size w1 w1 := Below.refl _ _
       refine (conv_to H W C x0 x1 x2 x8 x11 x12 x13 x14 x15 x16 x17 x18 K S P O Z WA BA nW cW nB cB er _ HE.out HS.out _).mono ?_
       rintro e w2 ⟨rfl, hb⟩
       have hh : Below w1.heap.size w1 w2 := hal.trans (hb.mono hal.size)
       replace TB := Lib.hid (TB.out.below yTB hh)
       replace yTB := Nat.lt_of_lt_of_le yTB hh.size
       replace TN := Lib.hid (TN.out.below yTN hh)
       replace yTN := Nat.lt_of_lt_of_le yTN hh.size
       replace FR := Lib.hid (FR.out.below yFR hh)
       replace yFR := Nat.lt_of_lt_of_le yFR hh.size
       replace HBW := Lib.hid (HBW.out.trans (hh.mono HBW.out.size))
       clear tbp0 tbp1 tbp2 tbp3
       obtain ⟨⟨z0, z1, z2, z3⟩, z4, z5, z6, z7⟩ := FR.out
       obtain ⟨tbp0, tbp1, tbp2, tbp3⟩ := TB.out
       clear hb hh hal)
    | (refine wpList_load_mid rfl 32 (.tmp 3) rfl (w.heap.size + 1) 0 rfl [x0, x1, x2, .int .i64 K, .int .i64 S, .int .i64 P, .int .i64 O, .int .i8 Z, x8, .slice WA nW cW, .slice BA nB cB, x11, x12, x13, x14, x15, x16, x17, x18] _ TN.out Try.underlying32 rfl (by kernel_rfl) ?_))
  obtain ⟨⟨z0, z1, z2, z3⟩, z4, z5, z6, z7⟩ := FR.out
  refine bodyPost_ret (Kit.results_ct rfl _ _ (w.heap.size + 2) 0 [.int .i64 0, .int .i64 0, .int .i64 0, .slice none 0 0] _ rfl (range_4 (by go_cell) (by go_cell) (by go_cell) (by go_cell)) Try.underlying36 rfl (by kernel_rfl)) rfl ?_
  exact ⟨_, rfl, World.ownsRow_nil _ _ _ _, by exact ((((HBW.out.setCell (p := ⟨w.heap.size + 2, 0, none⟩) (by simp) _).setCell (p := ⟨w.heap.size + 2, 1, none⟩) (by simp) _).setCell (p := ⟨w.heap.size + 2, 2, none⟩) (by simp) _).setCell (p := ⟨w.heap.size + 2, 3, none⟩) (by simp) _).alloc (by simp; omega) _⟩

/-- what stands at i behind the pieces that were raised. -/
def cont (M : Nat → Int) (bs : List Int) (d : Nat) (p : List Nat) : Nat → Int :=
  p.foldl (fun F x i => if i / d = x then IntKind.i32.wrap (F i + bs.getD (i % d) 0) else F i) M
theorem cont_more (M : Nat → Int) (bs : List Int) (d : Nat) (p : List Nat) (x : Nat) (i : Nat) : cont M bs d (p ++ [x]) i = if i / d = x then IntKind.i32.wrap (cont M bs d p i + bs.getD (i % d) 0) else cont M bs d p i := by
  unfold cont; rw [List.foldl_append]; rfl
theorem cont_first (M : Nat → Int) (bs : List Int) (d : Nat) (i : Nat) : ∀ k, cont M bs d (first k) i = if i / d < k then IntKind.i32.wrap (M i + bs.getD (i % d) 0) else M i
  | 0 => by rw [if_neg (Nat.not_lt_zero _)]; rfl
  | k + 1 => by
    rw [first_succ, cont_more, cont_first M bs d i k]
    by_cases h : i / d = k
    · rw [if_pos h, if_neg (by omega), if_pos (by omega)]
    · rw [if_neg h]
      by_cases h2 : i / d < k
      · rw [if_pos h2, if_pos (by omega)]
      · rw [if_neg h2, if_neg (by omega)]
/-- one piece more: as a row of which the first numbers are new. -/
def newF (M : Nat → Int) (bs : List Int) (d : Nat) (p : List Nat) (x : Nat) (i : Nat) : Int := if i < x * d then cont M bs d p i else cont M bs d (p ++ [x]) i
theorem new_before (M : Nat → Int) (bs : List Int) (d : Nat) (p : List Nat) (x N : Nat) : CGemm.rowL (mixF (newF M bs d p x) (cont M bs d p) (x * d)) N = CGemm.rowL (cont M bs d p) N := CGemm.rowL_congr fun i _ => by
  unfold mixF newF
  by_cases h : i < x * d
  · rw [if_pos h, if_pos h]
  · rw [if_neg h]
theorem new_behind (M : Nat → Int) (bs : List Int) (d : Nat) (hd : 0 < d) (p : List Nat) (x N : Nat) : CGemm.rowL (mixF (newF M bs d p x) (cont M bs d p) (x * d + d)) N = CGemm.rowL (cont M bs d (p ++ [x])) N := CGemm.rowL_congr fun i _ => by
  unfold mixF newF
  by_cases h : i < x * d + d
  · rw [if_pos h]
    by_cases h2 : i < x * d
    · rw [if_pos h2, cont_more, if_neg (by
        intro e
        have := (Nat.div_lt_iff_lt_mul hd).2 h2; omega)]
    · rw [if_neg h2]
  · rw [if_neg h, cont_more, if_neg (by
      intro e
      have h3 : i < (x + 1) * d := by rw [← Nat.div_lt_iff_lt_mul hd]; omega
      rw [Nat.add_mul, Nat.one_mul] at h3; omega)]
theorem new_at (M : Nat → Int) (bs : List Int) (d : Nat) (p : List Nat) (x j : Nat) (hj : j < d) : IntKind.i32.wrap (cont M bs d p (x * d + j) + bs.getD j 0) = newF M bs d p x (x * d + j) := by
  have h1 : (x * d + j) / d = x := by rw [Nat.mul_comm, Nat.mul_add_div (by omega), Nat.div_eq_of_lt hj]; rfl
  have h2 : (x * d + j) % d = j := by rw [Nat.mul_comm, Nat.mul_add_mod, Nat.mod_eq_of_lt hj]
  unfold newF
  rw [if_neg (by omega), cont_more, if_pos h1, h2]

theorem slide_one {H W C K S P O : Int} (h : slideE H W C K S P O = 0) : slideE H W C K S P 1 = 0 := by
  obtain ⟨a1, a2, a3, a4, a5, a6⟩ := slide_ok h
  obtain ⟨q1, q2, q3, q4, q5, q6, q7⟩ := shapeB_yes a6
  have h6 : shapeB (stepsM H K S P) (stepsM W K S P) 1 = true := by
    unfold shapeB at a6 ⊢
    simp only [decide_eq_true_eq] at a6 ⊢
    have h7 : stepsM H K S P * stepsM W K S P * 1 ≤ stepsM H K S P * stepsM W K S P * O := Int.mul_le_mul_of_nonneg_left (by omega) (Int.mul_nonneg (by omega) (by omega))
    omega
  have e1 : stepsE H K S P = 0 := by unfold stepsE; rw [if_pos a2, if_neg (by omega)]
  have e2 : stepsE W K S P = 0 := by unfold stepsE; rw [if_pos a3, if_neg (by omega)]
  unfold slideE
  rw [a1, e1, e2, h6]; simp
theorem numF_bd (zs : List Int) (H W C S P Z : Int) (b kk d wd : Nat) (hz : I8b zs) (z1 : -128 ≤ Z) (z2 : Z ≤ 127) (t : Nat) : -255 ≤ CPatch.numF zs H W C S P Z b kk d wd t ∧ CPatch.numF zs H W C S P Z b kk d wd t ≤ 255 := by
  unfold CPatch.numF
  split
  · have := hz (((((((t / wd / b : Nat) : Int) * S - P + ((t % wd / d / kk : Nat) : Int)) * W + (((t / wd % b : Nat) : Int) * S - P + ((t % wd / d % kk : Nat) : Int))) * C + ((t % wd % d : Nat) : Int)).toNat))
    omega
  · omega
theorem ownFrom_own {β : Type} (B base g n cap : Nat) (e : TypeId) (hg : g < B) (xs : β → List Value) : OwnFrom B (fun (s : β) (W : World) => W.ownsRow base e 1 (.slice (some ⟨g, 0, none⟩) n cap) n (xs s)) := fun s W W' row hs hgr hr =>
  hs.kept hgr (.inr (by
    intro e1
    have e2 : some g = row := e1
    have := (hr g e2.symm).1
    omega))
theorem ownFrom_grown {β : Type} (W0 : World) (g : Nat) : OwnFrom W0.heap.size (fun (_ : β) W => W0.grownBy W (some g)) := fun s W W' row hs hgr hr =>
  ⟨hgr.os.trans hs.os, hgr.tape.trans hs.tape, hgr.output.trans hs.output, Nat.le_trans hs.size hgr.size, fun k hk hne =>
    (hgr.block k (Nat.lt_of_lt_of_le hk hs.size) (by intro e; have := (hr k e.symm).1; omega)).trans (hs.block k hk hne)⟩
theorem ownFrom_false {β : Type} (B : Nat) : OwnFrom B (fun (_ : β) (_ : World) => False) := fun _ _ _ _ hs _ _ => hs

/-- four variables that are laid one behind the other. -/
theorem four_new (w : World) (v1 v2 v3 v4 : Value) (T1 T2 T3 T4 : TypeId) : ∀ W, W = (((w.alloc (.cells #[v1] T1)).alloc (.cells #[v2] T2)).alloc (.cells #[v3] T3)).alloc (.cells #[v4] T4) →
    W.cell? ⟨w.heap.size, 0, none⟩ = some v1 ∧ W.cell? ⟨w.heap.size + 1, 0, none⟩ = some v2 ∧ W.cell? ⟨w.heap.size + 1 + 1, 0, none⟩ = some v3 ∧ W.cell? ⟨w.heap.size + 1 + 1 + 1, 0, none⟩ = some v4 ∧ Below w.heap.size w W ∧ W.heap.size = w.heap.size + 4 := by
  intro W hW
  obtain ⟨A, hA⟩ : ∃ A, A = w.alloc (.cells #[v1] T1) := ⟨_, rfl⟩
  obtain ⟨B, hB⟩ : ∃ B, B = A.alloc (.cells #[v2] T2) := ⟨_, rfl⟩
  obtain ⟨C, hC⟩ : ∃ C, C = B.alloc (.cells #[v3] T3) := ⟨_, rfl⟩
  rw [← hA, ← hB, ← hC] at hW
  have sA : A.heap.size = w.heap.size + 1 := by rw [hA]; exact World.size_alloc _ _
  have sB : B.heap.size = w.heap.size + 1 + 1 := by rw [hB, ← sA]; exact World.size_alloc _ _
  have sC : C.heap.size = w.heap.size + 1 + 1 + 1 := by rw [hC, ← sB]; exact World.size_alloc _ _
  have sW : W.heap.size = w.heap.size + 1 + 1 + 1 + 1 := by rw [hW, ← sC]; exact World.size_alloc _ _
  have cA : A.cell? ⟨w.heap.size, 0, none⟩ = some v1 := by rw [hA]; exact Kit.new_cell _ _ _ _
  have cB : B.cell? ⟨w.heap.size + 1, 0, none⟩ = some v2 := by rw [hB, ← sA]; exact Kit.new_cell _ _ _ _
  have cC : C.cell? ⟨w.heap.size + 1 + 1, 0, none⟩ = some v3 := by rw [hC, ← sB]; exact Kit.new_cell _ _ _ _
  have cW : W.cell? ⟨w.heap.size + 1 + 1 + 1, 0, none⟩ = some v4 := by rw [hW, ← sC]; exact Kit.new_cell _ _ _ _
  have bA : Below w.heap.size w A := by rw [hA]; exact (Below.refl _ _).alloc (Nat.le_refl _) _
  have bB : Below A.heap.size A B := by rw [hB]; exact (Below.refl _ _).alloc (Nat.le_refl _) _
  have bC : Below B.heap.size B C := by rw [hC]; exact (Below.refl _ _).alloc (Nat.le_refl _) _
  have bW : Below C.heap.size C W := by rw [hW]; exact (Below.refl _ _).alloc (Nat.le_refl _) _
  have bCW := bC.trans (bW.mono bC.size)
  have bBW := bB.trans (bCW.mono bB.size)
  exact ⟨(bBW.cell (p := ⟨w.heap.size, 0, none⟩) (by show w.heap.size < _; omega)).trans cA, (bCW.cell (p := ⟨w.heap.size + 1, 0, none⟩) (by show w.heap.size + 1 < _; omega)).trans cB, (bW.cell (p := ⟨w.heap.size + 1 + 1, 0, none⟩) (by show w.heap.size + 1 + 1 < _; omega)).trans cC, cW, bA.trans (bBW.mono bA.size), sW⟩
theorem range_put {W : World} {b o : Nat} {cs : List Value} (h : W.rangeAt b o cs) {D : Nat} (o' : Obj) (hD : W.heap[D]? = some (.deferred (some []))) : (W.putObj D o').rangeAt b o cs := fun j v hj =>
  cell_kept (W := W) (h j v hj) (grownBy_putObj' _ D o') (fun r e => by cases e; exact ⟨_, hD, rfl⟩)
theorem seq_chunks (F : Fence) (n : Nat) (h8 : F.fn 50) (hro : F.round = none) (hn : 1 ≤ n) (Bs Bn g d r L cap : Nat) (hd : 1 ≤ d) (hdm : d ≤ 1024) (hL : r * d = L) (hLm : L ≤ 1000000) (hcap : L ≤ cap) (hcm : cap ≤ maxLen)
    (W0 : World) (hBs : W0.cell? ⟨Bs, 0, none⟩ = some (.slice (some ⟨g, 0, none⟩) L cap)) (hBn : W0.cell? ⟨Bn, 0, none⟩ = some (.int .i64 d)) (l1 : Bs < W0.heap.size) (l2 : Bn < W0.heap.size) :
    SeqStopsK F n Try.prog 50 #[.pointer (some ⟨Bs, 0, none⟩), .pointer (some ⟨Bn, 0, none⟩)] (fun x : Fin r => #[.slice (some ⟨g, x.val * d, none⟩) d d]) (Keep2 Bs Bn) (fun ys => ys.map Fin.val = first r) (fun _ => True) r W0 := by
  intro l J Jx W hb hJ hJx hY h0
  refine CallsIn.mono (chunk_in F n h8 hro hn l Bs Bn g d r L cap hd hdm hL hLm hcap hcm (fun pre W => ∃ p : List (Fin r), p.map Fin.val = pre ∧ J p W) (fun pre W => ∃ p : List (Fin r), p.map Fin.val = pre ∧ Jx p W) ?_ ?_ W ((hb.cell (p := ⟨Bs, 0, none⟩) l1).trans hBs) ((hb.cell (p := ⟨Bn, 0, none⟩) l2).trans hBn) ⟨[], rfl, h0⟩) ?_
  · rintro pre W1 ⟨p, rfl, hp⟩
    exact ⟨p, rfl, hJ _ _ _ none hp (grown_drew _ _) (fun r e => by cases e)⟩
  · rintro pre W1 ⟨p, rfl, hp⟩ hlt
    have hl : p.length < r := by simpa using hlt
    obtain ⟨fn, tmps, assign, body, h1, h2⟩ := hY p ⟨p.length, hl⟩ W1 hp hl
    rw [show (p.map Fin.val).length = p.length by simp]
    refine ⟨fn, tmps, assign, body, h1, h2.mono ?_⟩
    rintro e W' (⟨he, hj, hk⟩ | ⟨he, hj⟩)
    · exact .inl ⟨he, ⟨_, by simp, hj⟩, hk⟩
    · exact .inr ⟨he, ⟨_, by simp, hj⟩⟩
  · rintro e W' ⟨he, (⟨ys, rfl, p, hp, hj⟩ | ⟨pre, -, p, hp, hj⟩)⟩
    · exact ⟨he, .inl ⟨p, hp, hj⟩⟩
    · exact ⟨he, .inr ⟨p, trivial, hj⟩⟩

set_option maxRecDepth 100000 in
set_option maxHeartbeats 8000000 in
theorem lOf_yes (H W C : Int) (A : Option Addr) (zs : List Int) (n c : Nat) (hn : zs.length = n) (ht : tensB H W C n = true) (hz : I8b zs) (x0 x1 x2 x8 x11 x12 x13 x14 x15 x16 x17 x18 : Value) (K S P Z : Int) (WA BA : Option Addr) (nW cW nB cB : Nat) (ws : List Int) (hws : ws.length = nW) (hwc : nW ≤ cW) (hwm : cW ≤ maxLen) (hwb : I8b ws) (bs : List Int) (hbs : bs.length = nB)
    (oo : Nat) (he : convE H W C K S P (oo : Int) nW nB = 0) (a b d kk : Nat) (ha : stepsM H K S P = (a : Int)) (hb : stepsM W K S P = (b : Int)) (hd : C = (d : Int)) (hk : K = (kk : Int)) (N : Nat) (hN : a * b * oo = N) (z1 : -128 ≤ Z) (z2 : Z ≤ 127)
    (w : World) (hr : Kit.Rd w w.heap.size A (I8s zs)) (hrw : Kit.Rd w w.heap.size WA (I8s ws)) (hrb : Kit.Rd w w.heap.size BA (I32v bs)) :
    Calls Try.prog 13 #[.agg #[.int .i64 H, .int .i64 W, .int .i64 C, .slice A n c], .agg #[x0, x1, x2, .int .i64 K, .int .i64 S, .int .i64 P, .int .i64 (oo : Int), .int .i8 Z, x8, .slice WA nW cW, .slice BA nB cB, x11, x12, x13, x14, x15, x16, x17, x18]] w (MadeA w (a : Int) (b : Int) (oo : Int) N (rowL (gridF b oo (sumF zs ws bs H W C S P d kk Z)) N) (.int .i64 0)) := by
  obtain ⟨hsl, hnW, hn16, hnB⟩ := convE_ok he
  obtain ⟨hs0, har1, har2, -, -, hsr⟩ := slide_ok hsl
  obtain ⟨q1, q2, q3, q4, q5, q6, q7⟩ := shapeB_yes hsr
  obtain ⟨g1, g2, g3, g4, c1, c2, g7⟩ := shapeB_yes hs0
  obtain ⟨-, -, k1, k2', st1, st2, pd1, pd2, -⟩ := argsB_yes har1
  obtain ⟨k2, hk2⟩ : ∃ k2, kk * kk = k2 := ⟨_, rfl⟩
  obtain ⟨wd, hwd⟩ : ∃ wd, k2 * d = wd := ⟨_, rfl⟩
  obtain ⟨N1, hN1⟩ : ∃ N1, a * b = N1 := ⟨_, rfl⟩
  obtain ⟨NN, hNN⟩ : ∃ NN, N1 * wd = NN := ⟨_, rfl⟩
  rw [ha] at q1 q2
  rw [hb] at q3 q4
  have hd1 : 1 ≤ d := by omega
  have hkk1 : 1 ≤ kk := by omega
  have hoo1 : 1 ≤ oo := by omega
  have hk21 : 1 ≤ k2 := by rw [← hk2]; exact Nat.mul_pos hkk1 hkk1
  have hwd1 : 1 ≤ wd := by rw [← hwd]; exact Nat.mul_pos hk21 hd1
  have hN11 : 1 ≤ N1 := by rw [← hN1]; exact Nat.mul_pos (by omega) (by omega)
  have hnWn : nW = oo * wd := by
    have : (nW : Int) = ((oo * wd : Nat) : Int) := by
      rw [hnW, hk, hd, ← hwd, ← hk2]; simp [Int.mul_assoc]
    omega
  have hwd16 : wd ≤ 16384 := by
    have := Nat.le_mul_of_pos_left wd hoo1
    omega
  have hN3 : N1 * oo = N := by rw [← hN1]; exact hN
  have hNle : N ≤ 1024 := by
    have h1 : (N : Int) ≤ 1024 := by
      have : (N : Int) = stepsM H K S P * stepsM W K S P * (oo : Int) := by rw [ha, hb, ← hN]; simp
      omega
    omega
  have hN1le : N1 ≤ 1024 := by
    have := Nat.le_mul_of_pos_right N1 hoo1
    omega
  have hN0 : 1 ≤ N := by rw [← hN3]; exact Nat.mul_pos hN11 hoo1
  have hNNm : NN ≤ 16777216 := by rw [← hNN]; exact Nat.le_trans (Nat.mul_le_mul hN1le hwd16) (by decide)
  obtain ⟨F, hF⟩ : ∃ F, F = CPatch.numF zs H W C S P Z b kk d wd := ⟨_, rfl⟩
  obtain ⟨M, hM⟩ : ∃ M, M = CGemm.mulF (CPatch.listF F NN) ws wd oo := ⟨_, rfl⟩
  have hcv : convS H W C K S P (oo : Int) nW nB = #[.int .i64 (a : Int), .int .i64 (b : Int), .int .i64 (oo : Int)] := by unfold convS; rw [if_pos he, ha, hb]
  have HPO : Hid (∀ (w : World), Kit.Rd w w.heap.size A (I8s zs) → Calls Try.prog 26 #[.agg #[.int .i64 H, .int .i64 W, .int .i64 C, .slice A n c], .agg #[x0, x1, x2, .int .i64 K, .int .i64 S, .int .i64 P, .int .i64 (oo : Int), .int .i8 Z, x8, .slice WA nW cW, .slice BA nB cB, x11, x12, x13, x14, x15, x16, x17, x18]] w (CPatch.MadeR w (N1 : Int) (wd : Int) NN (CPatch.listF F NN) (.int .i64 0))) := Lib.hid (fun w hr =>
    CPatch.pOf_yes H W C A zs n c hn hz x0 x1 x2 x8 x11 x12 x13 x14 x15 x16 x17 x18 K S P (oo : Int) Z WA BA nW cW nB cB z1 z2 ht (slide_one hsl) a b kk d k2 wd N1 NN ha hb hk hd hk2 hwd hN1 hNN F hF w hr)
  have hxb : CGemm.I16b (CPatch.listF F NN) := fun q => by
    rw [List.getD_eq_getElem?_getD]
    by_cases h : q < NN
    · rw [CPatch.listF_at F h, hF]
      have := numF_bd zs H W C S P Z b kk d wd hz z1 z2 q
      show -32768 ≤ CPatch.numF zs H W C S P Z b kk d wd q ∧ CPatch.numF zs H W C S P Z b kk d wd q ≤ 32767
      omega
    · rw [List.getElem?_eq_none (by rw [CPatch.listF_len]; omega)]; decide
  have hh1 : CGemm.holdsB (NN : Int) (N1 : Int) (wd : Int) = true := by unfold CGemm.holdsB; rw [decide_eq_true_eq, ← hNN]; simp; omega
  have hh2 : CGemm.holdsB (nW : Int) (oo : Int) (wd : Int) = true := by unfold CGemm.holdsB; rw [decide_eq_true_eq, hnWn]; simp; omega
  have HGM : Hid (∀ (w : World) (A4 : Option Addr) (c4 : Nat), NN ≤ c4 → c4 ≤ maxLen → Kit.Rd w w.heap.size A4 (CPatch.I16v (CPatch.listF F NN)) → Kit.Rd w w.heap.size WA (I8s ws) → Calls Try.prog 27 #[.slice A4 NN c4, .slice WA nW cW, .int .i64 (N1 : Int), .int .i64 (wd : Int), .int .i64 (oo : Int)] w (CGemm.Owned w 21 N (I32v (CGemm.rowL M N)))) := Lib.hid (fun w A4 c4 hc4 hm4 hra hrb =>
    CGemm.mul_yes A4 WA (CPatch.listF F NN) ws NN nW c4 cW N1 wd oo N (CPatch.listF_len _ _) hws hh1 hh2 hN3 (by omega) hc4 hwc hm4 hwm hxb hwb M hM w hra hrb)
  have HNUM : Hid (∀ i, i < N → IntKind.i32.wrap (M i + bs.getD (i % oo) 0) = gridF b oo (sumF zs ws bs H W C S P d kk Z) i) := Lib.hid (fun i hi => by
    rw [hM]; exact low_num zs ws bs H W C S P Z b kk d k2 wd oo N1 NN hk2 hwd (by omega) hd hNN F hF i (by omega))
  obtain ⟨G, hG⟩ : ∃ G, gridF b oo (sumF zs ws bs H W C S P d kk Z) = G := ⟨_, rfl⟩
  rw [hG] at HNUM ⊢
  have HT := Lib.hid ht
  have HE := Lib.hid he
  have HV := Lib.hid hcv
  have HR := Lib.hid hr
  have HRW := Lib.hid hrw
  have HRB := Lib.hid hrb
  have HRB0 := Lib.hid hrb
  have HBS := Lib.hid hbs
  have HN3 := Lib.hid hN3
  have HNB : Hid (nB = oo) := Lib.hid (by omega)
  clear hn ht hz hws hwb hbs he ha hb hd hk hN hF hM hG hcv hr hrw hrb hsl hs0 har1 har2 hsr g7 q7 hnW hnB hk2 hwd hN1 hNN hxb hh1 hh2 hnWn hN3
  refine (callsIn_wide (n := 5)).1 ?_
  refine callsIn_of_wp_marks Try.func13 rfl trivial ?_ rfl
  simp only [Try.ntmps13, List.size_toArray, List.length_cons, List.length_nil, Nat.reduceAdd, Nat.reduceSub, Array.replicate_succ, Array.replicate_zero, List.push_toArray, List.append_toArray, List.nil_append, List.cons_append]
  refine wpIn_wide.2 ?_
  have hsf : ∀ (l : Array Value) (w : World) (a : Addr) (m : Mode), (store a (.func (.func 49) #[] l) m).run Try.prog w = stored Try.prog w a (.func (.func 49) #[] l) m := fun l w a m => run_store _ w a _ m rfl
  go_wp2_with (first
    | (go_at_call 16
       have hal : Below w.heap.size w (((w.alloc (.cells #[.int .i64 H, .int .i64 W, .int .i64 C, .slice A n c] 26)).alloc (.cells #[x0, x1, x2, .int .i64 K, .int .i64 S, .int .i64 P, .int .i64 (oo : Int), .int .i8 Z, x8, .slice WA nW cW, .slice BA nB cB, x11, x12, x13, x14, x15, x16, x17, x18] 32)).alloc (.cells #[.int .i64 0, .int .i64 0, .int .i64 0, .slice none 0 0] 36)) := (((Below.refl _ _).alloc (by first | exact Nat.le_refl _ | (simp; done) | (simp; omega)) _).alloc (by first | exact Nat.le_refl _ | (simp; done) | (simp; omega)) _).alloc (by first | exact Nat.le_refl _ | (simp; done) | (simp; omega)) _
       refine (right_to H W C A n c true HT.out _).mono ?_
       rintro e w1 ⟨rfl, hb⟩
       have hh : Below w.heap.size w w1 := hal.trans (hb.mono hal.size)
       have qTB := (boxNew H W C A n c 26) w
       try simp only [World.size_alloc] at qTB
       have TB := Lib.hid ((qTB.below (B' := w.heap.size + 1) (by omega) ((((Below.refl _ _).alloc (by first | exact Nat.le_refl _ | (simp; done) | (simp; omega)) _).alloc (by first | exact Nat.le_refl _ | (simp; done) | (simp; omega)) _).mono (by simp))).below (by first | (simp; done) | (simp; omega)) hb)
       have yTB : w.heap.size < w1.heap.size := by have := hb.size; simp at this; omega
       clear qTB
       have qTN := (NodeAt.new x0 x1 x2 x8 x11 x12 x13 x14 x15 x16 x17 x18 K S P (oo : Int) Z WA BA nW cW nB cB 32) (w.alloc (.cells #[.int .i64 H, .int .i64 W, .int .i64 C, .slice A n c] 26))
       try simp only [World.size_alloc] at qTN
       have TN := Lib.hid ((qTN.below (B' := w.heap.size + 2) (by omega) (((Below.refl _ _).alloc (by first | exact Nat.le_refl _ | (simp; done) | (simp; omega)) _).mono (by simp))).below (by first | (simp; done) | (simp; omega)) hb)
       have yTN : w.heap.size + 1 < w1.heap.size := by have := hb.size; simp at this; omega
       clear qTN
       have qFR := (freshNew 36) ((w.alloc (.cells #[.int .i64 H, .int .i64 W, .int .i64 C, .slice A n c] 26)).alloc (.cells #[x0, x1, x2, .int .i64 K, .int .i64 S, .int .i64 P, .int .i64 (oo : Int), .int .i8 Z, x8, .slice WA nW cW, .slice BA nB cB, x11, x12, x13, x14, x15, x16, x17, x18] 32))
       try simp only [World.size_alloc] at qFR
       have FR := Lib.hid (qFR.below (by first | (simp; done) | (simp; omega)) hb)
       have yFR : w.heap.size + 2 < w1.heap.size := by have := hb.size; simp at this; omega
       clear qFR
       replace HR := Lib.hid ((HR.out.below hh).more hh.size)
       replace HRW := Lib.hid ((HRW.out.below hh).more hh.size)
       replace HRB := Lib.hid ((HRB.out.below hh).more hh.size)
       have HBW : Hid (Below w.heap.size w w1) := Lib.hid hh
       obtain ⟨tbp0, tbp1, tbp2, tbp3⟩ := TB.out
       clear hb hh hal)
    | (go_at_call 17
       have hal : Below w1.heap.size w1 w1 := Below.refl _ _
       refine (conv_to H W C x0 x1 x2 x8 x11 x12 x13 x14 x15 x16 x17 x18 K S P (oo : Int) Z WA BA nW cW nB cB 0 _ HE.out HV.out _).mono ?_
       rintro e w2 ⟨rfl, hb⟩
       have hh : Below w1.heap.size w1 w2 := hal.trans (hb.mono hal.size)
       replace TB := Lib.hid (TB.out.below yTB hh)
       replace yTB := Nat.lt_of_lt_of_le yTB hh.size
       replace TN := Lib.hid (TN.out.below yTN hh)
       replace yTN := Nat.lt_of_lt_of_le yTN hh.size
       replace FR := Lib.hid (FR.out.below yFR hh)
       replace yFR := Nat.lt_of_lt_of_le yFR hh.size
       replace HR := Lib.hid ((HR.out.below hh).more hh.size)
       replace HRW := Lib.hid ((HRW.out.below hh).more hh.size)
       replace HRB := Lib.hid ((HRB.out.below hh).more hh.size)
       replace HBW := Lib.hid (HBW.out.trans (hh.mono HBW.out.size))
       clear tbp0 tbp1 tbp2 tbp3
       obtain ⟨tbp0, tbp1, tbp2, tbp3⟩ := TB.out
       have n9 := TN.out.at 9 _ rfl
       have n10 := TN.out.at 10 _ rfl
       clear hb hh hal)
    | (go_at_call 26
       have hal : Below w2.heap.size w2 (w2.alloc (.cells #[.int .i64 (a : Int), .int .i64 (b : Int), .int .i64 (oo : Int)] 23)) := (Below.refl _ _).alloc (by first | exact Nat.le_refl _ | (simp; done) | (simp; omega)) _
       refine (HPO.out _ ((HR.out.below hal).more hal.size)).mono ?_
       rintro e w3 ⟨v3, rfl, ho3, hb⟩
       have hh : Below w2.heap.size w2 w3 := hal.trans (hb.mono hal.size)
       have qTS := (shapeNew (a : Int) (b : Int) (oo : Int) 23) w2
       try simp only [World.size_alloc] at qTS
       have TS := Lib.hid (qTS.below (by first | (simp; done) | (simp; omega)) hb)
       have yTS : w2.heap.size < w3.heap.size := by have := hb.size; simp at this; omega
       clear qTS
       replace TB := Lib.hid (TB.out.below yTB hh)
       replace yTB := Nat.lt_of_lt_of_le yTB hh.size
       replace TN := Lib.hid (TN.out.below yTN hh)
       replace yTN := Nat.lt_of_lt_of_le yTN hh.size
       replace FR := Lib.hid (FR.out.below yFR hh)
       replace yFR := Nat.lt_of_lt_of_le yFR hh.size
       replace HR := Lib.hid ((HR.out.below hh).more hh.size)
       replace HRW := Lib.hid ((HRW.out.below hh).more hh.size)
       replace HRB := Lib.hid ((HRB.out.below hh).more hh.size)
       replace HBW := Lib.hid (HBW.out.trans (hh.mono HBW.out.size))
       clear tbp0 tbp1 tbp2 tbp3 n9 n10
       have hw3 : w.heap.size + 2 < w3.heap.size := yFR
       have hw23 : w2.heap.size < w3.heap.size := yTS
       obtain ⟨A4, c4, rfl, hc4, hm4, hrd4⟩ := Kit.own_rd ho3
       have RA4 := Lib.hid hrd4
       clear ho3 hrd4
       obtain ⟨tbp0, tbp1, tbp2, tbp3⟩ := TB.out
       have n9 := TN.out.at 9 _ rfl
       have n10 := TN.out.at 10 _ rfl
       obtain ⟨tsp0, tsp1, tsp2⟩ := TS.out
       clear hb hh hal)
    | (go_at_call 27
       have hal : Below w3.heap.size w3 (w3.alloc (.cells #[.int .i64 (N1 : Int), .int .i64 (wd : Int), .slice A4 NN c4] 64)) := (Below.refl _ _).alloc (by first | exact Nat.le_refl _ | (simp; done) | (simp; omega)) _
       refine (HGM.out _ A4 c4 hc4 hm4 ((RA4.out.below hal).more hal.size) ((HRW.out.below hal).more hal.size)).mono ?_
       rintro e w4 ⟨v4, rfl, ho4, hb⟩
       have hh : Below w3.heap.size w3 w4 := hal.trans (hb.mono hal.size)
       replace TB := Lib.hid (TB.out.below yTB hh)
       replace yTB := Nat.lt_of_lt_of_le yTB hh.size
       replace TN := Lib.hid (TN.out.below yTN hh)
       replace yTN := Nat.lt_of_lt_of_le yTN hh.size
       replace FR := Lib.hid (FR.out.below yFR hh)
       replace yFR := Nat.lt_of_lt_of_le yFR hh.size
       replace TS := Lib.hid (TS.out.below yTS hh)
       replace yTS := Nat.lt_of_lt_of_le yTS hh.size
       replace HR := Lib.hid ((HR.out.below hh).more hh.size)
       replace HRW := Lib.hid ((HRW.out.below hh).more hh.size)
       replace HRB := Lib.hid ((HRB.out.below hh).more hh.size)
       replace RA4 := Lib.hid ((RA4.out.below hh).more hh.size)
       replace HBW := Lib.hid (HBW.out.trans (hh.mono HBW.out.size))
       clear tbp0 tbp1 tbp2 tbp3 n9 n10 tsp0 tsp1 tsp2
       obtain ⟨g, c5, rfl, hgb, hc5, hcm5, -⟩ := Kit.own_form ho4 hN0
       have HO4 := Lib.hid ho4
       have hgs := Kit.block_lt_of_own ho4
       clear ho4
       obtain ⟨tbp0, tbp1, tbp2, tbp3⟩ := TB.out
       have n9 := TN.out.at 9 _ rfl
       have n10 := TN.out.at 10 _ rfl
       obtain ⟨tsp0, tsp1, tsp2⟩ := TS.out
       clear hb hh hal)
    | (go_at_call 28; (refine (raising_to BA nB cB _).mono ?_); rintro e w5 ⟨rfl, rfl⟩)
    | (go_at_call 29; (refine (chunks_to (some ⟨g, 0, none⟩) N c5 oo hoo1 _).mono ?_); rintro e w6 ⟨rfl, rfl⟩)
    | (refine wpList_load_mid rfl 32 (.tmp 3) rfl (w.heap.size + 1) 0 rfl [x0, x1, x2, .int .i64 K, .int .i64 S, .int .i64 P, .int .i64 (oo : Int), .int .i8 Z, x8, .slice WA nW cW, .slice BA nB cB, x11, x12, x13, x14, x15, x16, x17, x18] _ (TN.out) Try.underlying32 rfl (by kernel_rfl) ?_)
    | (refine wpList_load_mid rfl 32 (.tmp 3) rfl (w.heap.size + 1) 0 rfl [x0, x1, x2, .int .i64 K, .int .i64 S, .int .i64 P, .int .i64 (oo : Int), .int .i8 Z, x8, .slice WA nW cW, .slice BA nB cB, x11, x12, x13, x14, x15, x16, x17, x18] _ (TN.out.below yTN ((Below.refl _ _).alloc (Nat.le_refl _) _)) Try.underlying32 rfl (by kernel_rfl) ?_))
  obtain ⟨k1, k2, k3, k4, hbz, hz5⟩ := four_new w4 (.slice BA nB cB) (.func (.func 49) #[] #[.pointer (some ⟨w4.heap.size, 0, none⟩)]) (.slice (some ⟨g, 0, none⟩) N c5) (.int .i64 (oo : Int)) 28 68 28 3 _ rfl
  have HO5 := Lib.hid ((((HO4.out.alloc (.cells #[.slice BA nB cB] 28)).alloc (.cells #[.func (.func 49) #[] #[.pointer (some ⟨w4.heap.size, 0, none⟩)]] 68)).alloc (.cells #[.slice (some ⟨g, 0, none⟩) N c5] 28)).alloc (.cells #[.int .i64 (oo : Int)] 3))
  obtain ⟨B0, hB0⟩ : ∃ B0, (w3.alloc (.cells #[.int .i64 (N1 : Int), .int .i64 (wd : Int), .slice A4 NN c4] 64)).heap.size = B0 := ⟨_, rfl⟩
  have hB0w : w3.heap.size + 1 = B0 := by rw [← hB0]; exact (World.size_alloc _ _).symm
  rw [hB0] at HO5 hgb
  clear HO4 hB0
  generalize (((w4.alloc (.cells #[.slice BA nB cB] 28)).alloc (.cells #[.func (.func 49) #[] #[.pointer (some ⟨w4.heap.size, 0, none⟩)]] 68)).alloc (.cells #[.slice (some ⟨g, 0, none⟩) N c5] 28)).alloc (.cells #[.int .i64 (oo : Int)] 3) = W5 at k1 k2 k3 k4 hbz hz5 HO5 ⊢
  have HB5 : Hid (Below w.heap.size w W5) := Lib.hid (HBW.out.trans (hbz.mono HBW.out.size))
  have hRI : ∀ (pre : List (Fin N1)) (x : Fin N1) (W : World), W.ownsRow B0 21 1 (.slice (some ⟨g, 0, none⟩) N c5) N (I32v (CGemm.rowL (cont M bs oo (pre.map Fin.val)) N)) → W5.grownBy W (some g) →
      Calls Try.prog 49 #[.slice (some ⟨g, x.val * oo, none⟩) oo oo, .pointer (some ⟨w4.heap.size, 0, none⟩)] W fun e W' => (∃ v, e = .returned v) ∧ W'.ownsRow B0 21 1 (.slice (some ⟨g, 0, none⟩) N c5) N (I32v (CGemm.rowL (cont M bs oo ((pre ++ [x]).map Fin.val)) N)) ∧ W.grownBy W' (some g) := by
    intro pre x W hrow hg
    have hq : x.val * oo + oo ≤ N := by
      have := Nat.mul_le_mul_right oo (show x.val + 1 ≤ N1 from x.isLt)
      rw [Nat.add_mul, Nat.one_mul, HN3.out] at this; exact this
    have hk := (grown_cell hg (p := ⟨w4.heap.size, 0, none⟩) (by show w4.heap.size < _; omega) (by show w4.heap.size ≠ g; omega)).trans k1
    rw [HNB.out] at hk
    have hgs := hg.size
    refine (raise_to g (x.val * oo) oo N c5 B0 w4.heap.size cB w.heap.size BA bs (newF M bs oo (pre.map Fin.val) x.val) (cont M bs oo (pre.map Fin.val)) (HBS.out.trans HNB.out) hoo1 (by have := Nat.le_mul_of_pos_left oo hN11; have := HN3.out; omega) hq (by omega) (by omega) (by omega) (fun j hj => new_at M bs oo _ x.val j hj) W (by have := HB5.out.size; omega) (by rw [new_before]; exact hrow) hk (by omega) (HRB0.out.below (HB5.out.trans (below_of_grown hg (by omega) (by have := HB5.out.size; omega))))).mono ?_
    rintro e W' ⟨h1, h2, h3⟩
    rw [new_behind M bs oo hoo1] at h2
    refine ⟨h1, ?_, h3⟩
    rw [List.map_append]
    exact h2
  have HRI := Lib.hid hRI
  clear hRI
  have hos : oo ≤ 1024 := by have := Nat.le_mul_of_pos_left oo hN11; have := HN3.out; omega
  refine (wpIn_wide (n := 5)).1 ?_
  refine wpIn_rangeFunc_ownG (F := Fence.wide) (n := 5) rfl (by omega) (gf := 50) (lb := #[.pointer (some ⟨w4.heap.size + 1 + 1, 0, none⟩), .pointer (some ⟨w4.heap.size + 1 + 1 + 1, 0, none⟩)]) rfl trivial (enters_of Try.func50 (by kernel_rfl) rfl)
    (seq_chunks Fence.wide (5 - 1) trivial rfl (by omega) (w4.heap.size + 1 + 1) (w4.heap.size + 1 + 1 + 1) g oo N1 N c5 hoo1 hos HN3.out (by omega) hc5 hcm5 W5 k3 k4 (by omega) (by omega)) Keep2.trans
    (fun W l o o' hl ho h1 h2 => ⟨(belowK_b (w := W5) (Nat.le_refl _) W l o o' hl ho h1 h2).cell (p := ⟨w4.heap.size + 1 + 1, 0, none⟩) (by show w4.heap.size + 1 + 1 < _; omega), (belowK_b (w := W5) (Nat.le_refl _) W l o o' hl ho h1 h2).cell (p := ⟨w4.heap.size + 1 + 1 + 1, 0, none⟩) (by show w4.heap.size + 1 + 1 + 1 < _; omega)⟩)
    (Below.refl _ _) (fun _ => rfl)
    (fun p W => W.ownsRow B0 21 1 (.slice (some ⟨g, 0, none⟩) N c5) N (I32v (CGemm.rowL (cont M bs oo (p.map Fin.val)) N)) ∧ W5.grownBy W (some g))
    (fun _ _ _ => False)
    (OwnFrom.and (ownFrom_own W5.heap.size B0 g N c5 21 (by omega) (fun p : List (Fin N1) => I32v (CGemm.rowL (cont M bs oo (p.map Fin.val)) N))) (ownFrom_grown W5 g))
    (fun _ => ownFrom_false _)
    ⟨HO5.out, grown_self _ _⟩
    (fun x => { tmps := #[.agg #[.int .i64 H, .int .i64 W, .int .i64 C, .slice A n c], .agg #[x0, x1, x2, .int .i64 K, .int .i64 S, .int .i64 P, .int .i64 (oo : Int), .int .i8 Z, x8, .slice WA nW cW, .slice BA nB cB, x11, x12, x13, x14, x15, x16, x17, x18], .pointer (some ⟨w.heap.size, 0, none⟩), .pointer (some ⟨w.heap.size + 1, 0, none⟩), .pointer (some ⟨w.heap.size + 1 + 1, 0, none⟩), .int .i64 0, .pointer (some ⟨w2.heap.size, 0, none⟩), .int .i64 0, .pointer (some ⟨w3.heap.size, 0, none⟩), .int .i64 0, .slice (some ⟨g, 0, none⟩) N c5, .pointer (some ⟨w4.heap.size + 1, 0, none⟩), .slice (some ⟨g, x.val * oo, none⟩) oo oo, .agg #[.int .i64 H, .int .i64 W, .int .i64 C, .slice A n c], .bool true, .bool false, undef, .tuple #[.agg #[.int .i64 (a : Int), .int .i64 (b : Int), .int .i64 (oo : Int)], .int .i64 0], .pointer (some ⟨w.heap.size, 0, none⟩), .agg #[.int .i64 H, .int .i64 W, .int .i64 C], .agg #[x0, x1, x2, .int .i64 K, .int .i64 S, .int .i64 P, .int .i64 (oo : Int), .int .i8 Z, x8, .slice WA nW cW, .slice BA nB cB, x11, x12, x13, x14, x15, x16, x17, x18], .tuple #[.agg #[.int .i64 (a : Int), .int .i64 (b : Int), .int .i64 (oo : Int)], .int .i64 0], .agg #[.int .i64 (a : Int), .int .i64 (b : Int), .int .i64 (oo : Int)], .int .i64 0, .int .i64 0, .bool false, undef, undef, .tuple #[.agg #[.int .i64 (N1 : Int), .int .i64 (wd : Int), .slice A4 NN c4], .int .i64 0], .agg #[.int .i64 H, .int .i64 W, .int .i64 C, .slice A n c], .agg #[x0, x1, x2, .int .i64 K, .int .i64 S, .int .i64 P, .int .i64 (oo : Int), .int .i8 Z, x8, .slice WA nW cW, .slice BA nB cB, x11, x12, x13, x14, x15, x16, x17, x18], .tuple #[.agg #[.int .i64 (N1 : Int), .int .i64 (wd : Int), .slice A4 NN c4], .int .i64 0], .agg #[.int .i64 (N1 : Int), .int .i64 (wd : Int), .slice A4 NN c4], .int .i64 0, .pointer (some ⟨w3.heap.size, 2, none⟩), .slice A4 NN c4, .pointer (some ⟨w.heap.size + 1, 9, none⟩), .slice WA nW cW, .pointer (some ⟨w3.heap.size, 0, none⟩), .int .i64 (N1 : Int), .pointer (some ⟨w3.heap.size, 1, none⟩), .int .i64 (wd : Int), .pointer (some ⟨w2.heap.size, 2, none⟩), .int .i64 (oo : Int), .slice (some ⟨g, 0, none⟩) N c5, .pointer (some ⟨w.heap.size + 1, 10, none⟩), .slice BA nB cB, .func (.func 49) #[] #[.pointer (some ⟨w4.heap.size, 0, none⟩)], .slice (some ⟨g, 0, none⟩) N c5, .pointer (some ⟨w2.heap.size, 2, none⟩), .int .i64 (oo : Int), .func (.func 50) #[] #[.pointer (some ⟨w4.heap.size + 1 + 1, 0, none⟩), .pointer (some ⟨w4.heap.size + 1 + 1 + 1, 0, none⟩)], .slice (some ⟨g, x.val * oo, none⟩) oo oo, undef, undef, undef, undef, undef, undef], defers := [] }) ?assign ?body ?done ?stop
  case assign =>
    intro l x W K hK
    gi_wp2
    exact hK
  case body =>
    rintro l pre x W ⟨hrow, hg⟩ hlt
    have k2W := (grown_cell hg (p := ⟨w4.heap.size + 1, 0, none⟩) (by show w4.heap.size + 1 < _; omega) (by show w4.heap.size + 1 ≠ g; omega)).trans k2
    have HROW := Lib.hid hrow
    have HG := Lib.hid hg
    clear hrow hg k1 k2 k3 k4 hbz hlt
    have hwide : ∀ f, Fence.wide.fn f := fun _ => trivial
    gi_wp2_with (gi_at_call 49; refine (CallsIn.inRound l (callsIn_wide.2 (HRI.out pre x W HROW.out HG.out))).mono ?_; rintro e W' ⟨⟨v, rfl⟩, hrow', hg'⟩)
    exact ⟨KeepsFrom.of_grownBy hg' (fun j e => by cases e; omega), ⟨grown_cell hg' (by show w4.heap.size + 1 + 1 < _; have := HG.out.size; omega) (by show w4.heap.size + 1 + 1 ≠ g; omega), grown_cell hg' (by show w4.heap.size + 1 + 1 + 1 < _; have := HG.out.size; omega) (by show w4.heap.size + 1 + 1 + 1 ≠ g; omega)⟩, hrow', grown_trans HG.out hg'⟩
  case done =>
    rintro D ys W hD hys ⟨hrow, hg⟩ hK
    have hcf : CGemm.rowL (cont M bs oo (first N1)) N = rowL G N := CGemm.rowL_congr fun i hi => by
      rw [cont_first, if_pos ((Nat.div_lt_iff_lt_mul hoo1).2 (by rw [HN3.out]; exact hi)), HNUM.out i hi]
    rw [hys, hcf] at hrow
    have HROW := Lib.hid hrow
    have HBD := Lib.hid (HB5.out.trans (below_of_grown hg (show w.heap.size ≤ g by omega) HB5.out.size))
    have hcW : ∀ (b i : Nat), b < w4.heap.size → b ≠ g → W.cell? ⟨b, i, none⟩ = w4.cell? ⟨b, i, none⟩ := fun b i h1 h2 => (grown_cell hg (p := ⟨b, i, none⟩) (by show b < _; omega) h2).trans (hbz.cell (p := ⟨b, i, none⟩) h1)
    have hfW : ∀ (b i : Nat), b < w4.heap.size → b ≠ g → W.frozen? ⟨b, i, none⟩ = w4.frozen? ⟨b, i, none⟩ := fun b i h1 h2 => (grown_frozen hg (p := ⟨b, i, none⟩) (by show b < _; omega) h2).trans (hbz.frozen (p := ⟨b, i, none⟩) h1)
    obtain ⟨⟨z0, z1, z2, z3⟩, z4, z5, z6, z7⟩ := FR.out
    have hyF : w.heap.size + 2 < w4.heap.size := yFR
    have r0 := (hcW (w.heap.size + 2) 0 hyF (by omega)).trans z0
    have r1 := (hcW (w.heap.size + 2) 1 hyF (by omega)).trans z1
    have r2 := (hcW (w.heap.size + 2) 2 hyF (by omega)).trans z2
    have r3 := (hcW (w.heap.size + 2) 3 hyF (by omega)).trans z3
    have r4 := (hfW (w.heap.size + 2) 0 hyF (by omega)).trans z4
    have r5 := (hfW (w.heap.size + 2) 1 hyF (by omega)).trans z5
    have r6 := (hfW (w.heap.size + 2) 2 hyF (by omega)).trans z6
    have r7 := (hfW (w.heap.size + 2) 3 hyF (by omega)).trans z7
    have s0 := (hcW w2.heap.size 0 yTS (by omega)).trans tsp0
    have s1 := (hcW w2.heap.size 1 yTS (by omega)).trans tsp1
    have s2 := (hcW w2.heap.size 2 yTS (by omega)).trans tsp2
    have hW4 : w4.heap.size + 4 ≤ W.heap.size := by have := hg.size; omega
    clear hrow hg hcW hfW z0 z1 z2 z3 z4 z5 z6 z7 k1 k2 k3 k4 hbz tbp0 tbp1 tbp2 tbp3 tsp0 tsp1 tsp2 TB TN FR TS HR HRW HRB RA4 HBW
    have HK := Lib.hid hK
    clear hK
    go_wp2_with fail
    have hk := ((((KeepsOthers.setCell W ⟨w.heap.size + 2, 0, none⟩ (.int .i64 (a : Int))).trans (KeepsOthers.setCell _ ⟨w.heap.size + 2, 1, none⟩ (.int .i64 (b : Int)))).trans (KeepsOthers.setCell _ ⟨w.heap.size + 2, 2, none⟩ (.int .i64 (oo : Int)))).trans (KeepsOthers.setCell _ ⟨w.heap.size + 2, 3, none⟩ (.slice (some ⟨g, 0, none⟩) N c5))).same D _ HK.out rfl
    refine ⟨by simp, .inl ⟨_, _, rfl, run_takeDeferred hk, ?_⟩⟩
    refine ⟨_, Kit.results_ct rfl _ _ (w.heap.size + 2) 0 [.int .i64 (a : Int), .int .i64 (b : Int), .int .i64 (oo : Int), .slice (some ⟨g, 0, none⟩) N c5] _ rfl (range_put (CGemm.range_4 (by go_cell) (by go_cell) (by go_cell) (by go_cell)) _ hk) Try.underlying36 rfl (by kernel_rfl), ?_⟩
    refine ⟨_, rfl, Kit.own_base (ownsRow_putObj (own_set4 HROW.out ?_) _ hk rfl) ?_, ?_⟩
    any_goals (first | omega | (simp; done) | (simp; omega))
    exact ((((HBD.out.setCell (p := ⟨w.heap.size + 2, 0, none⟩) (by simp) _).setCell (p := ⟨w.heap.size + 2, 1, none⟩) (by simp) _).setCell (p := ⟨w.heap.size + 2, 2, none⟩) (by simp) _).setCell (p := ⟨w.heap.size + 2, 3, none⟩) (by simp) _).trans (belowK_b (w := w) (Nat.le_refl _) _ D _ _ (by omega) hk rfl rfl)
  case stop =>
    rintro D c pre W _ _ h _
    exact h.elim
end Go.Proofs.Ytceejjliboiciaa.CLower

namespace Go.Proofs.Ytceejjliboiciaa.CLower
open Go Go.ChangeShapes Go.WideShapes Go.ChangeAt Go.RowKit
open Plain CSat CShape CTensor CConv
set_option linter.unusedVariables false

/-- how many products are added. -/
def workZ (H W C K S P O : Int) (nW nB : Nat) : Int :=
  if convE H W C K S P O nW nB = 0 then elemsZ (stepsM H K S P) (stepsM W K S P) O * K * K * C else 0
theorem work_bd {n K C : Int} (n1 : 0 ≤ n) (n2 : n ≤ 1024) (h1 : 1 ≤ C) (h2 : C ≤ 1024) (h3 : 1 ≤ K) (h4 : K ≤ 7) :
    0 ≤ n * K ∧ n * K ≤ 7168 ∧ 0 ≤ n * K * K ∧ n * K * K ≤ 50176 ∧ 0 ≤ n * K * K * C ∧ n * K * K * C ≤ 51380224 := by
  have a1 : 0 ≤ n * K := Int.mul_nonneg n1 (by omega)
  have a2 : n * K ≤ 1024 * 7 := Int.mul_le_mul n2 h4 (by omega) (by omega)
  have a3 : 0 ≤ n * K * K := Int.mul_nonneg a1 (by omega)
  have a4 : n * K * K ≤ 7168 * 7 := Int.mul_le_mul (by omega) h4 (by omega) (by omega)
  have a5 : 0 ≤ n * K * K * C := Int.mul_nonneg a3 (by omega)
  have a6 : n * K * K * C ≤ 50176 * 1024 := Int.mul_le_mul (by omega) h2 (by omega) (by omega)
  omega

end Go.Proofs.Ytceejjliboiciaa.CLower

namespace Go.Proofs.Ytceejjliboiciaa.CLower
open Go Go.ChangeShapes Go.WideShapes Go.ChangeAt Go.RowKit
open Plain CSat CShape CTensor CConv
set_option linter.unusedVariables false

theorem mk8 (w : World) : (Instr.makeSlice 24 (.int .i64 90) (.int .i64 90)).run Try.prog w = .ok (.slice (some ⟨w.heap.size, 0, none⟩) 90 90) (w.alloc (.cells (List.replicate 90 (.int .i8 0)).toArray 27)) := by kernel_rfl
theorem mk32 (w : World) : (Instr.makeSlice 28 (.int .i64 5) (.int .i64 5)).run Try.prog w = .ok (.slice (some ⟨w.heap.size, 0, none⟩) 5 5) (w.alloc (.cells (List.replicate 5 (.int .i32 0)).toArray 21)) := by kernel_rfl
end Go.Proofs.Ytceejjliboiciaa.CLower

namespace Go.Proofs.Ytceejjliboiciaa.CLower
open Go Go.ChangeShapes Go.WideShapes Go.ChangeAt Go.RowKit Go.Shelf Round
open Plain CSat CShape CTensor CConv
set_option linter.unusedVariables false

theorem lOf_good (H W C : Int) (A : Option Addr) (zs : List Int) (n c : Nat) (hn : zs.length = n) (ht : tensB H W C n = true) (hz : I8b zs) (x0 x1 x2 x8 x11 x12 x13 x14 x15 x16 x17 x18 : Value) (K S P O Z : Int) (WA BA : Option Addr) (nW cW nB cB : Nat) (ws : List Int) (hws : ws.length = nW) (hwc : nW ≤ cW) (hwm : cW ≤ maxLen) (hwb : I8b ws) (bs : List Int) (hbs : bs.length = nB)
    (he : convE H W C K S P O nW nB = 0) (a b oo d kk : Nat) (ha : stepsM H K S P = (a : Int)) (hb : stepsM W K S P = (b : Int)) (hO : O = (oo : Int)) (hd : C = (d : Int)) (hk : K = (kk : Int)) (N : Nat) (hN : a * b * oo = N) (z1 : -128 ≤ Z) (z2 : Z ≤ 127)
    (w : World) (hr : Kit.Rd w w.heap.size A (I8s zs)) (hrw : Kit.Rd w w.heap.size WA (I8s ws)) (hrb : Kit.Rd w w.heap.size BA (I32v bs)) :
    Calls Try.prog 13 #[.agg #[.int .i64 H, .int .i64 W, .int .i64 C, .slice A n c], .agg #[x0, x1, x2, .int .i64 K, .int .i64 S, .int .i64 P, .int .i64 O, .int .i8 Z, x8, .slice WA nW cW, .slice BA nB cB, x11, x12, x13, x14, x15, x16, x17, x18]] w (MadeA w (a : Int) (b : Int) O N (rowL (gridF b oo (sumF zs ws bs H W C S P d kk Z)) N) (.int .i64 0)) := by
  subst hO
  exact lOf_yes H W C A zs n c hn ht hz x0 x1 x2 x8 x11 x12 x13 x14 x15 x16 x17 x18 K S P Z WA BA nW cW nB cB ws hws hwc hwm hwb bs hbs oo he a b d kk ha hb hd hk N hN z1 z2 w hr hrw hrb
theorem lOf_both (H W C : Int) (A : Option Addr) (zs : List Int) (n c : Nat) (hn : zs.length = n) (hz : I8b zs) (x0 x1 x2 x8 x11 x12 x13 x14 x15 x16 x17 x18 : Value) (K S P O Z : Int) (WA BA : Option Addr) (nW cW nB cB : Nat) (ws : List Int) (hws : ws.length = nW) (hwc : nW ≤ cW) (hwm : cW ≤ maxLen) (hwb : I8b ws) (bs : List Int) (hbs : bs.length = nB) (hb32 : ∀ q, -2147483648 ≤ bs.getD q 0 ∧ bs.getD q 0 ≤ 2147483647) (z1 : -128 ≤ Z) (z2 : Z ≤ 127) :
    ∃ (X Y U : Int) (m : Nat) (xs : List Int) (er : Int), xs.length = m ∧ m ≤ 1000000 ∧
      (∀ (w : World), Kit.Rd w w.heap.size A (I8s zs) → Kit.Rd w w.heap.size WA (I8s ws) → Kit.Rd w w.heap.size BA (I32v bs) → Calls Try.prog 13 #[.agg #[.int .i64 H, .int .i64 W, .int .i64 C, .slice A n c], .agg #[x0, x1, x2, .int .i64 K, .int .i64 S, .int .i64 P, .int .i64 O, .int .i8 Z, x8, .slice WA nW cW, .slice BA nB cB, x11, x12, x13, x14, x15, x16, x17, x18]] w (MadeA w X Y U m xs (.int .i64 er))) ∧
      (∀ (w : World), Kit.Rd w w.heap.size A (I8s zs) → Kit.Rd w w.heap.size WA (I8s ws) → Kit.Rd w w.heap.size BA (I32v bs) → Calls Try.prog 8 #[.agg #[.int .i64 H, .int .i64 W, .int .i64 C, .slice A n c], .agg #[x0, x1, x2, .int .i64 K, .int .i64 S, .int .i64 P, .int .i64 O, .int .i8 Z, x8, .slice WA nW cW, .slice BA nB cB, x11, x12, x13, x14, x15, x16, x17, x18]] w (MadeA w X Y U m xs (.int .i64 er))) := by
  cases ht : tensB H W C n
  · exact ⟨0, 0, 0, 0, [], 5, rfl, by omega, fun w _ _ _ => lOf_bad H W C A n c x0 x1 x2 x8 x11 x12 x13 x14 x15 x16 x17 x18 K S P O Z WA BA nW cW nB cB ht w, fun w _ _ _ => refOf_bad H W C A n c x0 x1 x2 x8 x11 x12 x13 x14 x15 x16 x17 x18 K S P O Z WA BA nW cW nB cB ht w⟩
  · by_cases he : convE H W C K S P O nW nB = 0
    · obtain ⟨hsl, hnW, hn16, hnB⟩ := convE_ok he
      obtain ⟨hs0, har1, har2, -, -, hsr⟩ := slide_ok hsl
      obtain ⟨q1, q2, q3, q4, q5, q6, q7⟩ := shapeB_yes hsr
      obtain ⟨-, -, -, -, c1, c2, -⟩ := shapeB_yes hs0
      obtain ⟨-, -, k1, k2, -⟩ := argsB_yes har1
      obtain ⟨a, ha⟩ : ∃ a : Nat, stepsM H K S P = (a : Int) := ⟨(stepsM H K S P).toNat, by omega⟩
      obtain ⟨b, hb⟩ : ∃ b : Nat, stepsM W K S P = (b : Int) := ⟨(stepsM W K S P).toNat, by omega⟩
      obtain ⟨oo, hO⟩ : ∃ oo : Nat, O = (oo : Int) := ⟨O.toNat, by omega⟩
      obtain ⟨d, hd⟩ : ∃ d : Nat, C = (d : Int) := ⟨C.toNat, by omega⟩
      obtain ⟨kk, hk⟩ : ∃ kk : Nat, K = (kk : Int) := ⟨K.toNat, by omega⟩
      have hN : ((a * b * oo : Nat) : Int) ≤ 1024 := by
        have : ((a * b * oo : Nat) : Int) = stepsM H K S P * stepsM W K S P * O := by rw [ha, hb, hO]; simp
        omega
      refine ⟨a, b, O, a * b * oo, rowL (gridF b oo (sumF zs ws bs H W C S P d kk Z)) (a * b * oo), 0, rowL_len _ _, by omega, fun w hr hrw hrb => ?_, fun w hr hrw hrb => ?_⟩
      · exact lOf_good H W C A zs n c hn ht hz x0 x1 x2 x8 x11 x12 x13 x14 x15 x16 x17 x18 K S P O Z WA BA nW cW nB cB ws hws hwc hwm hwb bs hbs he a b oo d kk ha hb hO hd hk _ rfl z1 z2 w hr hrw hrb
      · exact refOf_yes H W C A zs n c hn ht hz x0 x1 x2 x8 x11 x12 x13 x14 x15 x16 x17 x18 K S P O Z WA BA nW cW nB cB ws hws hwc hwb bs hbs hb32 he a b oo d kk ha hb hO hd hk _ rfl z1 z2 w hr hrw hrb
    · exact ⟨0, 0, 0, 0, [], _, rfl, by omega, fun w _ _ _ => lOf_err H W C A n c x0 x1 x2 x8 x11 x12 x13 x14 x15 x16 x17 x18 K S P O Z WA BA nW cW nB cB ht _ rfl he w, fun w _ _ _ => refOf_err H W C A n c x0 x1 x2 x8 x11 x12 x13 x14 x15 x16 x17 x18 K S P O Z WA BA nW cW nB cB ht _ rfl he w⟩
end Go.Proofs.Ytceejjliboiciaa.CLower

namespace Go.Proofs.Ytceejjliboiciaa.CTop
open Go Go.ChangeShapes Go.WideShapes Go.ChangeAt Go.RowKit
open Plain CSat CShape CTensor CConv
set_option linter.unusedVariables false

def negF (l : List Int) (i : Nat) : Int := -(l.getD i 0)
/-- of 32 bits. -/
def negB (l : List Int) (i : Nat) : Int := IntKind.i32.wrap (-(l.getD i 0))
theorem neg_getD (l : List Int) {n : Nat} (hn : l.length = n) (q : Nat) : (rowL (negF l) n).getD q 0 = -(l.getD q 0) := by
  by_cases hq : q < n
  · rw [rowL_getD _ hq]; rfl
  · rw [List.getD_eq_getElem?_getD, List.getElem?_eq_none (by rw [rowL_len]; omega), List.getD_eq_getElem?_getD, List.getElem?_eq_none (by omega)]; rfl
theorem psum_neg {G G' : Nat → Int} (h : ∀ k, G' k = -(G k)) (n : Nat) : psum G' n = -(psum G n) := by
  induction n with
  | zero => rfl
  | succ n ih => simp only [psum]; rw [ih, h]; omega
theorem neg_win (zs ws : List Int) {nW : Nat} (hn : ws.length = nW) (H W C top left : Int) (d kk o : Nat) (Z : Int) : winF zs (rowL (negF ws) nW) H W C top left d kk o Z = -(winF zs ws H W C top left d kk o Z) := by
  unfold winF
  refine psum_neg (fun i => ?_) kk
  unfold rowF
  refine psum_neg (fun j => ?_) kk
  unfold placeF
  split
  · refine psum_neg (fun c => ?_) d
    unfold termF
    rw [neg_getD ws hn, Int.neg_mul]
  · rfl
theorem neg_wrap (b s : Int) : IntKind.i32.wrap (IntKind.i32.wrap (-b) + -s) = IntKind.i32.wrap (-(IntKind.i32.wrap (b + s))) := by
  simp only [IntKind.wrap_i32]; omega
theorem neg_sums (zs ws bs : List Int) {nW nB : Nat} (hw : ws.length = nW) (hb : bs.length = nB) (H W C S P : Int) (d kk b oo : Nat) (Z : Int) (hoB : oo ≤ nB) (ho : 0 < oo) (q : Nat) :
    gridF b oo (sumF zs (rowL (negF ws) nW) (rowL (negB bs) nB) H W C S P d kk Z) q = IntKind.i32.wrap (-(gridF b oo (sumF zs ws bs H W C S P d kk Z) q)) := by
  unfold gridF sumF
  rw [neg_win zs ws hw, rowL_getD _ (show q % oo < nB from Nat.lt_of_lt_of_le (Nat.mod_lt _ ho) hoB)]
  unfold negB
  exact neg_wrap _ _
theorem neg_I8b {ws : List Int} (h : I8b ws) {nW : Nat} (hn : ws.length = nW) (h2 : ∀ j, j < nW → ws.getD j 0 ≠ -128) : I8b (rowL (negF ws) nW) := fun q => by
  rw [neg_getD ws hn]
  have h1 := h q
  by_cases hq : q < nW
  · have := h2 q hq; omega
  · rw [List.getD_eq_getElem?_getD, List.getElem?_eq_none (by omega)]; simp
theorem row8_succ (F : Nat → Int) (k : Nat) (x : Int) (h : F k = x) : I8s (rowL F k) ++ [.int .i8 x] = I8s (rowL F (k + 1)) := by
  simp [I8s, rowL, List.range_succ, h]
theorem info_i8t : (Try.prog.info? 27).map (fun i => (i.zero, i.size, i.bytes)) = some (some (.int .i8 0), 1, 1) := by kernel_rfl
theorem info_i32t : (Try.prog.info? 21).map (fun i => (i.zero, i.size, i.bytes)) = some (some (.int .i32 0), 1, 4) := by kernel_rfl
def Apart (u v : Value) : Prop := ∀ g, u.ownBlock = some g → v.ownBlock ≠ some g
theorem apart_kept {w w' : World} {base : Nat} {T : TypeId} {n : Nat} {u v : Value} {xs : List Value} (h : w.ownsRow base T 1 v n xs) (ha : Apart u v) (hg : w.grownBy w' u.ownBlock) : w'.ownsRow base T 1 v n xs := by
  refine h.kept hg ?_
  cases hu : u.ownBlock with
  | none =>
    cases hv : v.ownBlock with
    | none => exact .inl rfl
    | some g => exact .inr (by simp)
  | some g => exact .inr (ha g hu)
theorem own_lt {w : World} {B0 : Nat} {e : TypeId} {size n : Nat} {v : Value} {xs : List Value} (h : w.ownsRow B0 e size v n xs) {g : Nat} (hg : v.ownBlock = some g) : g < w.heap.size := by
  rcases h.2 with ⟨rfl, _⟩ | ⟨g', cap, cur, rfl, _, hh, _⟩
  · cases hg
  · cases hg
    exact (Array.getElem?_eq_some_iff.1 hh).1
theorem NodeAt.set9' {w : World} {g : Nat} {x0 x1 x2 x8 x11 x12 x13 x14 x15 x16 x17 x18 : Value} {K S P O Z : Int} {WA BA : Option Addr} {nW cW nB cB : Nat} (h : NodeAt g x0 x1 x2 x8 x11 x12 x13 x14 x15 x16 x17 x18 K S P O Z WA BA nW cW nB cB w) (A' : Option Addr) (n' c' : Nat) : NodeAt g x0 x1 x2 x8 x11 x12 x13 x14 x15 x16 x17 x18 K S P O Z A' BA n' c' nB cB (w.setCell ⟨g, 9, none⟩ (.slice A' n' c')) :=
  h.set9 A' n' c'
theorem cof_known (g0 g1 g2 : Nat) (w : World) (r1 : Kit.Rd w w.heap.size (some ⟨g0, 0, none⟩) (I8s [3])) (r2 : Kit.Rd w w.heap.size (some ⟨g1, 0, none⟩) (I8s [0, 0, 0, 0, 2, 0, 0, 0, 0])) (r3 : Kit.Rd w w.heap.size (some ⟨g2, 0, none⟩) (I32v [1])) :
    Calls Try.prog 12 #[.agg #[.int .i64 1, .int .i64 1, .int .i64 1, .slice (some ⟨g0, 0, none⟩) 1 1], .agg #[.int .i64 0, .int .i64 0, .int .i64 0, .int .i64 3, .int .i64 1, .int .i64 1, .int .i64 1, .int .i8 0, .int .i8 0, .slice (some ⟨g1, 0, none⟩) 9 9, .slice (some ⟨g2, 0, none⟩) 1 1, .int .i32 0, .int .i64 0, .int .i8 0, .int .i32 0, .int .i64 0, .int .i8 0, .int .i8 0, .int .i8 0]] w (MadeA w 1 1 1 1 [7] (.int .i64 0)) := by
  have hz : I8b [3] := fun q => by rcases q with _ | q <;> simp
  have hw : I8b [0, 0, 0, 0, 2, 0, 0, 0, 0] := fun q => by rcases q with _ | _ | _ | _ | _ | _ | _ | _ | _ | q <;> simp
  have h11 : rowL (gridF 1 1 (sumF [3] [0, 0, 0, 0, 2, 0, 0, 0, 0] [1] 1 1 1 1 1 1 3 0)) 1 = [7] := by
    simp [rowL, gridF, sumF, winF, rowF, placeF, termF, psum, IntKind.wrap_i32]
  have h := of_yes 1 1 1 (some ⟨g0, 0, none⟩) [3] 1 1 rfl (by decide) hz (.int .i64 0) (.int .i64 0) (.int .i64 0) (.int .i8 0) (.int .i32 0) (.int .i64 0) (.int .i8 0) (.int .i32 0) (.int .i64 0) (.int .i8 0) (.int .i8 0) (.int .i8 0) 3 1 1 1 0 (some ⟨g1, 0, none⟩) (some ⟨g2, 0, none⟩) 9 9 1 1 [0, 0, 0, 0, 2, 0, 0, 0, 0] rfl (Nat.le_refl _) hw [1] rfl (by decide) 1 1 1 1 3 (by decide) (by decide) rfl rfl rfl 1 rfl (by omega) (by omega) w r1 r2 r3
  rw [h11] at h
  exact h
set_option maxRecDepth 100000 in
set_option maxHeartbeats 4000000 in
theorem oneT (w : World) : Calls Try.prog 11 #[] w fun e w' => e = .returned (.bool true) ∧ Below w.heap.size w w' := by
  go_enter Try.func11, Try.ntmps11
  go_wp2_with fail
  go_at_call 12
  obtain ⟨W1, hW1⟩ : ∃ W1, w.alloc (.cells #[.int .i8 3] 27) = W1 := ⟨_, rfl⟩
  have b1 : Below w.heap.size w W1 := by rw [← hW1]; exact (Below.refl _ _).alloc (Nat.le_refl _) _
  have s1 : W1.heap.size = w.heap.size + 1 := by rw [← hW1]; simp
  have r1 : Kit.Rd W1 W1.heap.size (some ⟨w.heap.size, 0, none⟩) (I8s [3]) := by rw [← hW1]; exact (Kit.Rd.new w [.int .i8 3] 27 (Nat.lt_succ_self _)).more (by simp)
  rw [hW1]
  obtain ⟨W2, hW2⟩ : ∃ W2, W1.alloc (.cells #[.int .i8 0, .int .i8 0, .int .i8 0, .int .i8 0, .int .i8 2, .int .i8 0, .int .i8 0, .int .i8 0, .int .i8 0] 27) = W2 := ⟨_, rfl⟩
  have b2 : Below W1.heap.size W1 W2 := by rw [← hW2]; exact (Below.refl _ _).alloc (Nat.le_refl _) _
  have s2 : W2.heap.size = W1.heap.size + 1 := by rw [← hW2]; simp
  have r2 : Kit.Rd W2 W2.heap.size (some ⟨W1.heap.size, 0, none⟩) (I8s [0, 0, 0, 0, 2, 0, 0, 0, 0]) := by rw [← hW2]; exact (Kit.Rd.new W1 [.int .i8 0, .int .i8 0, .int .i8 0, .int .i8 0, .int .i8 2, .int .i8 0, .int .i8 0, .int .i8 0, .int .i8 0] 27 (Nat.lt_succ_self _)).more (by simp)
  rw [hW2]
  obtain ⟨W3, hW3⟩ : ∃ W3, W2.alloc (.cells #[.int .i32 1] 21) = W3 := ⟨_, rfl⟩
  have b3 : Below W2.heap.size W2 W3 := by rw [← hW3]; exact (Below.refl _ _).alloc (Nat.le_refl _) _
  have s3 : W3.heap.size = W2.heap.size + 1 := by rw [← hW3]; simp
  have r3 : Kit.Rd W3 W3.heap.size (some ⟨W2.heap.size, 0, none⟩) (I32v [1]) := by rw [← hW3]; exact (Kit.Rd.new W2 [.int .i32 1] 21 (Nat.lt_succ_self _)).more (by simp)
  rw [hW3]
  rw [s2, s1] at r3
  rw [s1] at r2
  have R1 := Lib.hid ((((r1.below b2).more b2.size).below b3).more b3.size)
  have R2 := Lib.hid ((r2.below b3).more b3.size)
  have R3 := Lib.hid r3
  have HB := Lib.hid (b1.trans ((b2.trans (b3.mono b2.size)).mono b1.size))
  clear r1 r2 r3 b1 b2 b3 s1 s2 s3 hW1 hW2 hW3
  refine (cof_known _ _ _ W3 R1.out R2.out R3.out).mono ?_
  rintro e w1 ⟨v1, rfl, ho1, hb1⟩
  obtain ⟨g1, c1, rfl, hgb, hc1, hcm, -⟩ := Kit.own_form ho1 (by omega)
  have k0 : w1.cell? ⟨g1, 0, none⟩ = some (.int .i32 7) := by rw [ho1.cellAt 0 (by omega)]; rfl
  have hgs := Kit.block_lt_of_own ho1
  replace HB := Lib.hid (HB.out.trans (hb1.mono HB.out.size))
  clear ho1 hb1 R1 R2 R3
  go_wp2_with fail
  go_ret
  exact ⟨rfl, HB.out.alloc HB.out.size _⟩
end Go.Proofs.Ytceejjliboiciaa.CTop

