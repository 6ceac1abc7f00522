/- A region that draws its order, inside a round of a range over a function, over the wide fence: as outside, calls of Go functions too. -/
import Derived.Test.YtncknalipjaccaaRound
import Derived.RangeFuncCalls
import Derived.OrdersHeld
namespace Go.Proofs.Ytncknalipjaccaa.Round
open Go
set_option linter.unusedVariables false

section
variable {l n : Nat} {P : Program} {ops : Array Oper} {Q : Exit → Act → World → Prop} {md : Region.Mode}

theorem rows_wide {row : String} {args : Array Value} {w : World} {R : Value → World → Prop} (h : Rows P row args w R) : RowsIn (Fence.wide.inRound l) n P row args w R := fun c cs _ => by
  obtain ⟨v, w', r, s⟩ := h c cs
  exact ⟨v, w', r, stepsIn_wide.2 s⟩
theorem oper_wide {o : Oper} {a : Act} {w : World} {K K' : Act → World → Prop} (hd : ∀ c, o.op ≠ .defer c) (hK : ∀ a w, K a w → K' a w) (h : o.wp P a w K (Norm Q)) : o.wpIn (Fence.wide.inRound l) n P a w K' Q := by
  refine ⟨fun f _ => trivial, ?_⟩
  rw [Oper.semAt_eq _ _ _ hd]
  unfold Oper.wp at h
  generalize (execOp a.eval o).run P w = r at h
  cases r with
  | ok x w' =>
    cases x with
    | value v => exact hK _ _ h
    | skip => exact hK _ _ h
    | defer d => exact hK _ _ h
    | enter f args =>
      refine ⟨fun h => by simp [Fence.wide] at h, ?_⟩
      refine (CallsIn.inRound l (callsIn_wide.2 h)).mono ?_
      intro e w'' he
      cases e with
      | returned v => exact hK _ _ he
      | panicked c => exact he.elim
      | outgrown => obtain ⟨a, w, h⟩ := he; exact h.elim
    | row row args =>
      refine ⟨fun h => by simp [Fence.wide] at h, ?_⟩
      refine RowsIn.mono (rows_wide h) ?_
      intro v w'' he
      exact hK _ _ he
    | _ => exact (h : False).elim
  | halt x w' =>
    cases x <;> first | exact h.elim | exact (h : False).elim
theorem wpAnyIn_of_wide (hst : ∀ (i : Nat) (o : Oper), ops[i]? = some o → ∀ c, o.op ≠ .defer c) : ∀ (fuel : Nat) (listed : Array Bool) (a : Act) (w : World),
    wpAny P md ops (Norm Q) fuel listed a w → wpAnyIn (Fence.wide.inRound l) n P md ops Q fuel listed a w
  | 0, _, _, _, h => h
  | fuel + 1, listed, a, w, h => by
    refine ⟨h.1, fun i hi => ?_⟩
    have hop := h.2 i hi
    unfold wpOp at hop
    unfold wpOpIn
    cases ho : ops[i]? with
    | none =>
      simp only [ho] at hop
      exact wpAnyIn_of_wide hst fuel _ _ _ hop
    | some o =>
      simp only [ho] at hop
      have h1 := hst i o ho
      by_cases hw : Region.wanted o (yielded ops a.tmps) = true
      · simp only [hw, if_true] at hop ⊢
        rcases hop with hop | ⟨_, _, _, hF⟩
        · exact oper_wide h1 (fun a' w' h' => wpAnyIn_of_wide hst fuel _ _ _ h') hop
        · exact hF.elim
      · simp only [hw, if_false, Bool.false_eq_true] at hop ⊢
        exact ⟨fun f _ => trivial, wpAnyIn_of_wide hst fuel _ _ _ hop⟩
theorem no_defer {lo : List Oper} (h : lo.all (fun o => match o.op with | .defer _ => false | _ => true) = true) : ∀ (i : Nat) (o : Oper), lo.toArray[i]? = some o → ∀ c, o.op ≠ .defer c := fun i o ho c e => by
  have := List.all_eq_true.1 h o (List.mem_of_getElem? (by simpa using ho))
  rw [e] at this
  cases this
/-- the beginning of such a region, with what all its worlds hold. -/
theorem region_held {S : World → Prop} {id : Nat} {lo : List Oper} {a : Act} {w : World} (hm : P.follows .mixedOrders = true) (hst : lo.all (fun o => match o.op with | .defer _ => false | _ => true) = true) (hS : S w.drew)
    (h : S w.drew → wpAnyH P .any lo.toArray (Norm Q) S lo.toArray.size (Array.replicate lo.toArray.size false) a w.drew) : (Code.region id lo.toArray true).wpIn (Fence.wide.inRound l) n P Q a w :=
  wpIn_region_any hm (wpAnyIn_of_wide (no_defer hst) _ _ _ _ (wpAny_of_held _ _ _ _ (h hS)))
end
end Go.Proofs.Ytncknalipjaccaa.Round
