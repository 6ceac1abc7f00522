/- A region that draws its order, inside a round of a range over a function: as outside, where no operation enters a function. -/
import Derived.Test.YtncknalipjaccaaKit
import Derived.OrdersIn
import Derived.TacticsIn
import Derived.RegionTactic
namespace Go.Proofs.Ytncknalipjaccaa.Round
open Go
set_option linter.unusedVariables false

section
variable {F : Fence} {n : Nat} {P : Program} {ops : Array Oper} {Q : Exit → Act → World → Prop} {md : Region.Mode}

/-- at a normal end alone. -/
def Norm (Q : Exit → Act → World → Prop) : Exit → Act → World → Prop
  | .normal, a, w => Q .normal a w
  | _, _, _ => False

/-- an operation that enters nothing. -/
def Calm : Result Next → Prop
  | .ok (.enter _ _) _ => False
  | .ok (.row _ _) _ => False
  | .ok (.round _ _ _ _ _) _ => False
  | _ => True
def Still (F : Fence) (P : Program) (o : Oper) : Prop :=
  (∀ c, o.op ≠ .defer c) ∧ ∀ (ρ : Operand → Value) (w : World), (∀ f, o.about P w ρ = some f → F.fn f) ∧ Calm ((execOp ρ o).run P w)

theorem wpAnyIn_of_plain (hst : ∀ (i : Nat) (o : Oper), ops[i]? = some o → Still F P o) : ∀ (fuel : Nat) (listed : Array Bool) (a : Act) (w : World),
    wpAny P md ops (Norm Q) fuel listed a w → wpAnyIn F n P md ops Q fuel listed a w
  | 0, _, _, _, h => h
  | fuel + 1, listed, a, w, h => by
    refine ⟨h.1, fun i hi => ?_⟩
    have hop := h.2 i hi
    unfold wpOp at hop
    unfold wpOpIn
    cases ho : ops[i]? with
    | none =>
      simp only [ho] at hop
      exact wpAnyIn_of_plain hst fuel _ _ _ hop
    | some o =>
      simp only [ho] at hop
      obtain ⟨h1, h2⟩ := hst i o ho
      obtain ⟨h3, h4⟩ := h2 a.eval w
      by_cases hw : Region.wanted o (yielded ops a.tmps) = true
      · simp only [hw, if_true] at hop ⊢
        rcases hop with hop | ⟨_, _, _, hF⟩
        · refine ⟨h3, ?_⟩
          rw [Oper.semAt_eq _ _ _ h1]
          unfold Oper.wp at hop
          generalize (execOp a.eval o).run P w = r at hop h4
          cases r with
          | ok x w' =>
            cases x <;> first
              | exact wpAnyIn_of_plain hst fuel _ _ _ hop
              | exact h4.elim
              | exact (hop : False).elim
          | halt x w' =>
            cases x <;> first | exact hop.elim | exact (hop : False).elim
        · exact hF.elim
      · simp only [hw, if_false, Bool.false_eq_true] at hop ⊢
        exact ⟨h3, wpAnyIn_of_plain hst fuel _ _ _ hop⟩

theorem region_round {id : Nat} {a : Act} {w : World} (hm : P.follows .mixedOrders = true) (hst : ∀ (i : Nat) (o : Oper), ops[i]? = some o → Still F P o)
    (h : wpAny P .any ops (Norm Q) ops.size (Array.replicate ops.size false) a w.drew) : (Code.region id ops true).wpIn F n P Q a w :=
  wpIn_region_any hm (wpAnyIn_of_plain hst _ _ _ _ h)

theorem calm_value (s : Sem Value) (w : World) : Calm ((do pure (.value (← s)) : Sem Next).run P w) := by
  rw [Sem.run_bind]
  cases s.run P w with
  | ok x w' => trivial
  | halt x w' => trivial
theorem calm_unit (s : Sem Unit) (w : World) : Calm ((do s; pure .skip : Sem Next).run P w) := by
  rw [Sem.run_bind]
  cases s.run P w with
  | ok x w' => trivial
  | halt x w' => trivial
theorem calm_then (r : Result Value) : Calm (r.andThen fun a w' => Result.ok (Next.value a) w') := by
  cases r with
  | ok x w' => trivial
  | halt x w' => trivial
theorem still_of_list {l : List Oper} (h : ∀ o ∈ l, Still F P o) : ∀ (i : Nat) (o : Oper), l.toArray[i]? = some o → Still F P o := fun i o ho =>
  h o (List.mem_of_getElem? (by simpa using ho))
theorem still_move (d : Option Tmp) (x : Operand) (t : TypeId) (p : String) (e : Array Edge) (g : Option (Nat × Bool)) : Still F P { dst := d, op := .move x, type := t, pos := p, after := e, guard := g } :=
  ⟨(fun c h => by cases h), fun ρ w => ⟨fun f h => by simp [Oper.about] at h, trivial⟩⟩
theorem still_assign (d : Option Tmp) (x : Operand) (t : TypeId) (p : String) (e : Array Edge) (g : Option (Nat × Bool)) : Still F P { dst := d, op := .assign x, type := t, pos := p, after := e, guard := g } :=
  ⟨(fun c h => by cases h), fun ρ w => ⟨fun f h => by simp [Oper.about] at h, trivial⟩⟩
theorem still_load (d : Option Tmp) (T : TypeId) (x : Operand) (t : TypeId) (p : String) (e : Array Edge) (g : Option (Nat × Bool)) : Still F P { dst := d, op := .load T x, type := t, pos := p, after := e, guard := g } :=
  ⟨(fun c h => by cases h), fun ρ w => ⟨fun f h => by simp [Oper.about] at h, calm_value _ w⟩⟩
theorem still_store (d : Option Tmp) (T : TypeId) (x y : Operand) (t : TypeId) (p : String) (e : Array Edge) (g : Option (Nat × Bool)) : Still F P { dst := d, op := .store T x y, type := t, pos := p, after := e, guard := g } :=
  ⟨(fun c h => by cases h), fun ρ w => ⟨fun f h => by simp [Oper.about] at h, calm_unit _ w⟩⟩
theorem still_builtin_min (d : Option Tmp) (xs : Array Operand) (ts : Array TypeId) (t : TypeId) (p : String) (e : Array Edge) (g : Option (Nat × Bool)) : Still F P { dst := d, op := .call { callee := .builtin .min, args := xs, argTypes := ts }, type := t, pos := p, after := e, guard := g } :=
  ⟨(fun c h => by cases h), fun ρ w => ⟨fun f h => by simp [Oper.about, resolve, go_sem] at h, by
    simp only [execOp, resolve, invoke, builtin, Sem.run_bind, Sem.run_pure, Result.andThen_ok]
    exact calm_then _⟩⟩
theorem still_builtin_max (d : Option Tmp) (xs : Array Operand) (ts : Array TypeId) (t : TypeId) (p : String) (e : Array Edge) (g : Option (Nat × Bool)) : Still F P { dst := d, op := .call { callee := .builtin .max, args := xs, argTypes := ts }, type := t, pos := p, after := e, guard := g } :=
  ⟨(fun c h => by cases h), fun ρ w => ⟨fun f h => by simp [Oper.about, resolve, go_sem] at h, by
    simp only [execOp, resolve, invoke, builtin, Sem.run_bind, Sem.run_pure, Result.andThen_ok]
    exact calm_then _⟩⟩
end
end Go.Proofs.Ytncknalipjaccaa.Round
