/- Texts of this seat, one behind the other: Tk, FourOf, FourPlus. -/
import Derived.Deep.RegionHeld
import Derived.KernelRfl
import Derived.WalkKit
import Derived.Deep.RegionHeld3
import Derived.Test.YtoghpoopgkahiaaGreatDoorGA6
section
namespace Go.Proofs.YtoghpoopgkahiaaGreatDoor.Tk
open Go
section
variable {P : Program} {ops : Array Oper} {Q : Exit → Act → World → Prop} {md : Region.Mode} {S : World → Prop}
theorem at_ {i : Nat} {o : Oper} {l : List Oper} (h : ops.toList.drop i = o :: l) : ops[i]? = some o := by
  have h1 : (ops.toList.drop i)[0]? = some o := by rw [h]; rfl
  rw [List.getElem?_drop, Nat.add_zero, Array.getElem?_toList] at h1
  exact h1
theorem t (i : Nat) {oi : Oper} {l : List Oper} {v : Value} {fuel : Nat} {listed : Array Bool} {a : Act} {w : World} (hi : ops.toList.drop i = oi :: l)
    (hy : YieldsIf P ops S oi v a) (hS : S w) (h : wpAnyH P md ops Q S fuel (listed.setIfInBounds i true) (a.put oi.dst v) w)
    (hs : Region.noSelect ops = true := by kernel_rfl) (hf : Region.free md ops listed i = true := by kernel_rfl) (hr : (Region.ready md ops listed).contains i = true := by kernel_rfl)
    (hQ : ∀ c a w, Q (.panic c) (a.put oi.dst v) w → Q (.panic c) a w := by exact fun _ _ _ h => h) : wpAnyH P md ops Q S (fuel + 1) listed a w :=
  wpAnyH_take (at_ hi) hs hf hr hQ hy hS h
theorem y (i : Nat) {oi : Oper} {l : List Oper} {v : Value} {fuel : Nat} {listed : Array Bool} {a : Act} {w : World} (hi : ops.toList.drop i = oi :: l)
    (hy : ∀ w, S w → (execOp a.eval oi).run P w = .ok (.value v) w) (h : wpAnyH P md ops Q S fuel (listed.setIfInBounds i true) (a.put oi.dst v) w)
    (hS : S w := by assumption) (hw : Region.wanted oi (yielded ops a.tmps) = true := by rfl) (hs : Region.noSelect ops = true := by kernel_rfl) (hf : Region.free md ops listed i = true := by kernel_rfl) (hr : (Region.ready md ops listed).contains i = true := by kernel_rfl)
    (hQ : ∀ c a w, Q (.panic c) (a.put oi.dst v) w → Q (.panic c) a w := by exact fun _ _ _ h => h) : wpAnyH P md ops Q S (fuel + 1) listed a w :=
  wpAnyH_take (at_ hi) hs hf hr hQ (Or.inl ⟨hw, hy⟩) hS h
theorem x (i : Nat) {oi : Oper} {l : List Oper} {v : Value} {fuel : Nat} {listed : Array Bool} {a : Act} {w : World} (hi : ops.toList.drop i = oi :: l)
    (h : wpAnyH P md ops Q S fuel (listed.setIfInBounds i true) (a.put oi.dst v) w)
    (hy : ∀ w, S w → (execOp a.eval oi).run P w = .ok (.value v) w := by intro wS hSw; first | (go_simp; done) | (go_simp; with_reducible rfl))
    (hS : S w := by assumption) (hw : Region.wanted oi (yielded ops a.tmps) = true := by rfl) (hs : Region.noSelect ops = true := by kernel_rfl) (hf : Region.free md ops listed i = true := by kernel_rfl) (hr : (Region.ready md ops listed).contains i = true := by kernel_rfl)
    (hQ : ∀ c a w, Q (.panic c) (a.put oi.dst v) w → Q (.panic c) a w := by exact fun _ _ _ h => h) : wpAnyH P md ops Q S (fuel + 1) listed a w :=
  wpAnyH_take (at_ hi) hs hf hr hQ (Or.inl ⟨hw, hy⟩) hS h
theorem put : (∀ (a : Act) (v : Value), a.put none v = a) ∧ (∀ (a : Act) (t : Tmp) (v : Value), a.put (some t) v = { a with tmps := a.tmps.setIfInBounds t v }) ∧
    (∀ (l : List Value) (i : Nat) (v : Value), l.toArray.setIfInBounds i v = (l.set i v).toArray) ∧ (∀ (x v : Value) (l : List Value), (x :: l).set 0 v = v :: l) ∧ (∀ (x v : Value) (l : List Value) (i : Nat), (x :: l).set (i + 1) v = x :: l.set i v) ∧
    (∀ (l : List Bool) (i : Nat) (v : Bool), l.toArray.setIfInBounds i v = (l.set i v).toArray) ∧ (∀ (x v : Bool) (l : List Bool), (x :: l).set 0 v = v :: l) ∧ (∀ (x v : Bool) (l : List Bool) (i : Nat), (x :: l).set (i + 1) v = x :: l.set i v) :=
  ⟨fun _ _ => rfl, fun _ _ _ => rfl, fun _ _ _ => by simp, fun _ _ _ => rfl, fun _ _ _ _ => rfl, fun _ _ _ => by simp, fun _ _ _ => rfl, fun _ _ _ _ => rfl⟩
theorem c {fuel : Nat} {listed : Array Bool} {a : Act} {w : World} {i : Nat} {o : Oper} {l : List Oper} {rs : List Nat} (ho : ops.toList.drop i = o :: l)
    (h : ∀ K' : Act → World → Prop, Shut (∀ a w, S w → (S w → wpAnyH P md ops Q S fuel (listed.setIfInBounds i true) a w) → K' a w) → if Region.wanted o (yielded ops a.tmps) = true then Oper.wp P o a w K' Q else K' (a.put o.dst undef) w)
    (hs : AllReadyH P md ops Q S fuel listed a w rs) : AllReadyH P md ops Q S fuel listed a w (i :: rs) := AllReadyH.cons (at_ ho) h hs
theorem s (i : Nat) {fuel : Nat} {listed : Array Bool} {a : Act} {w : World} {o : Oper} {l : List Oper} (ho : ops.toList.drop i = o :: l)
    (h : ∀ K' : Act → World → Prop, Shut (∀ a w, S w → (S w → wpAnyH P md ops Q S fuel (listed.setIfInBounds i true) a w) → K' a w) → if Region.wanted o (yielded ops a.tmps) = true then Oper.wp P o a w K' Q else K' (a.put o.dst undef) w)
    (hr : Region.ready md ops listed = [i] := by kernel_rfl) : wpAnyH P md ops Q S (fuel + 1) listed a w :=
  wpAnyH_ready (rs := [i]) hr (by simp) (AllReadyH.cons (at_ ho) h AllReadyH.nil)
theorem q (i : Nat) {fuel : Nat} {listed : Array Bool} {a : Act} {w : World} {o : Oper} {l : List Oper} (ho : ops.toList.drop i = o :: l)
    (h : ∀ K' : Act → World → Prop, (∀ a w, wpAny P md ops Q fuel (listed.setIfInBounds i true) a w → K' a w) → if Region.wanted o (yielded ops a.tmps) = true then Oper.wp P o a w K' Q else K' (a.put o.dst undef) w)
    (hr : Region.ready md ops listed = [i] := by kernel_rfl) : wpAny P md ops Q (fuel + 1) listed a w :=
  wpAny_ready (rs := [i]) hr (by simp) (AllReady.cons (at_ ho) h (fun j hj => by cases hj))
theorem z (i : Nat) {oi : Oper} {l : List Oper} {v : Value} {fuel : Nat} {listed : Array Bool} {a : Act} {w : World} (hi : ops.toList.drop i = oi :: l)
    (h : wpAny P md ops Q fuel (listed.setIfInBounds i true) (a.put oi.dst v) w)
    (hy : ∀ w, (execOp a.eval oi).run P w = .ok (.value v) w := by intro wS; first | (go_simp; done) | (go_simp; with_reducible rfl))
    (hw : Region.wanted oi (yielded ops a.tmps) = true := by rfl) (hs : Region.noSelect ops = true := by kernel_rfl) (hf : Region.free md ops listed i = true := by kernel_rfl) (hr : (Region.ready md ops listed).contains i = true := by kernel_rfl)
    (hQ : ∀ c a w, Q (.panic c) (a.put oi.dst v) w → Q (.panic c) a w := by exact fun _ _ _ h => h) : wpAny P md ops Q (fuel + 1) listed a w :=
  wpAny_take (at_ hi) hs hf hr hQ (Or.inl ⟨hw, hy⟩) h
theorem d {fuel : Nat} {listed : Array Bool} {a : Act} {w : World} {i : Nat} {o : Oper} {l : List Oper} {rs : List Nat} (ho : ops.toList.drop i = o :: l)
    (h : ∀ K' : Act → World → Prop, (∀ a w, wpAny P md ops Q fuel (listed.setIfInBounds i true) a w → K' a w) → if Region.wanted o (yielded ops a.tmps) = true then Oper.wp P o a w K' Q else K' (a.put o.dst undef) w)
    (hs : AllReady P md ops Q fuel listed a w rs) : AllReady P md ops Q fuel listed a w (i :: rs) := AllReady.cons (at_ ho) h hs
end
end Go.Proofs.YtoghpoopgkahiaaGreatDoor.Tk
end
section
namespace Go.Proofs.YtoghpoopgkahiaaGreatDoor.CFour
open Go Go.ChangeShapes Go.WideShapes Go.ChangeAt Go.RowKit
open FloatNum
set_option linter.unusedVariables false
theorem ixi0 (a b c d : Int) (w : World) : (Instr.index 192 (.agg #[.int .i16 a, .int .i16 b, .int .i16 c, .int .i16 d]) (.int .i64 0)).run Tryz.prog w = .ok (.int .i16 a) w := by kernel_rfl
theorem ixi1 (a b c d : Int) (w : World) : (Instr.index 192 (.agg #[.int .i16 a, .int .i16 b, .int .i16 c, .int .i16 d]) (.int .i64 1)).run Tryz.prog w = .ok (.int .i16 b) w := by kernel_rfl
theorem ixi2 (a b c d : Int) (w : World) : (Instr.index 192 (.agg #[.int .i16 a, .int .i16 b, .int .i16 c, .int .i16 d]) (.int .i64 2)).run Tryz.prog w = .ok (.int .i16 c) w := by kernel_rfl
theorem ixi3 (a b c d : Int) (w : World) : (Instr.index 192 (.agg #[.int .i16 a, .int .i16 b, .int .i16 c, .int .i16 d]) (.int .i64 3)).run Tryz.prog w = .ok (.int .i16 d) w := by kernel_rfl
/-- a whole number as a complex one. -/
theorem isC_int (n : Int) (hn : In16 n) : IsC (.complex .f64 (FloatKind.f64.nearest n) 0) (n, 0) := ⟨_, _, rfl, IsF.ofInt n (by unfold In16 at hn; show n.natAbs < 2 ^ 53; omega), isF_zero⟩
set_option maxHeartbeats 4000000 in
theorem of_to (a b c d : Int) (ha : In16 a) (hb : In16 b) (hc : In16 c) (hd : In16 d) (w : World) :
    Calls Tryz.prog 153 #[.agg #[.int .i16 a, .int .i16 b, .int .i16 c, .int .i16 d]] w fun e' w' => (∃ S, e' = .returned (agg4 S) ∧ ∀ i, i < 4 → IsC (S i) (gpart (lp a b c d) (-1) i 4)) ∧ Below w.heap.size w w' := by
  have HL := Lib.hid (l4_in ha hb hc hd)
  have HP := Lib.hid (lp_bd ha hb hc hd)
  clear ha hb hc hd
  go_enter Tryz.func153, Tryz.ntmps153
  go_wp2_with fail
  go_loopw [7] (fun u wr => ∃ (k : Nat) (S : Nat → Value), k ≤ 4 ∧ u = .int .i64 k ∧ Hid (FillR (lp a b c d) k S) ∧ Hid (Four (w.heap.size + 1 + 1) S wr) ∧ Hid (Four (w.heap.size + 1) (fun _ => z0) wr) ∧ Hid (Below w.heap.size w wr)) (fun u _ => 4 - (intOf u).toNat)
  case atStart =>
    have h2 := Four.new ((w.alloc (.cells #[.int .i16 a, .int .i16 b, .int .i16 c, .int .i16 d] 192)).alloc (.cells #[z0, z0, z0, z0] 179)) z0 179
    have h1 := (Four.new (w.alloc (.cells #[.int .i16 a, .int .i16 b, .int .i16 c, .int .i16 d] 192)) z0 179).below ((Below.refl _ _).alloc (Nat.le_refl _) (.cells #[z0, z0, z0, z0] 179)) (by simp)
    have e2 : ((w.alloc (.cells #[.int .i16 a, .int .i16 b, .int .i16 c, .int .i16 d] 192)).alloc (.cells #[z0, z0, z0, z0] 179)).heap.size = w.heap.size + 1 + 1 := by simp
    have e1 : (w.alloc (.cells #[.int .i16 a, .int .i16 b, .int .i16 c, .int .i16 d] 192)).heap.size = w.heap.size + 1 := by simp
    rw [e2] at h2
    rw [e1] at h1
    exact ⟨0, fun _ => z0, by omega, rfl, Lib.hid (FillR.start _), Lib.hid h2, Lib.hid h1, Lib.hid ((((Below.refl _ _).alloc (Nat.le_refl _) _).alloc (by simp) _).alloc (by simp; omega) _)⟩
  case round =>
    obtain ⟨k, S, hk, rfl, hS, hF, hR, hBw⟩ := hrel
    by_cases hlt : k < 4
    · have hv := isC_int _ (HL.out k)
      have HV : Hid (FillR (lp a b c d) (k + 1) _) := Lib.hid (hS.out.step (v := .complex .f64 (FloatKind.f64.nearest (l4 a b c d k)) 0) hv)
      have HG := Lib.hid (hF.out.set hlt (.complex .f64 (FloatKind.f64.nearest (l4 a b c d k)) 0))
      have HR1 := Lib.hid (hR.out.other (g' := w.heap.size + 1 + 1) (k := k) (.complex .f64 (FloatKind.f64.nearest (l4 a b c d k)) 0) (by omega))
      have HB1 := Lib.hid (hBw.out.setCell (p := ⟨w.heap.size + 1 + 1, k, none⟩) (by show w.heap.size ≤ w.heap.size + 1 + 1; omega) (.complex .f64 (FloatKind.f64.nearest (l4 a b c d k)) 0))
      have hst := fun x => st_c x 0
      have c0 := hF.out.1 0 (by omega)
      have c1 := hF.out.1 1 (by omega)
      have c2 := hF.out.1 2 (by omega)
      have c3 := hF.out.1 3 (by omega)
      have f0 := hF.out.2.1 0 (by omega)
      have f1 := hF.out.2.1 1 (by omega)
      have f2 := hF.out.2.1 2 (by omega)
      have f3 := hF.out.2.1 3 (by omega)
      have x0 := ixi0 a b c d
      have x1 := ixi1 a b c d
      have x2 := ixi2 a b c d
      have x3 := ixi3 a b c d
      clear hv
      obtain rfl | rfl | rfl | rfl := lt4 hlt
      all_goals
        go_wp2
        go_roundw
        case rel => exact ⟨_, _, by omega, by go_num, HV, HG, HR1, HB1⟩
        case measure => simp [intOf]
    · have hk4 : k = 4 := by omega
      subst hk4
      have HX := Lib.hid (fun i (hi : i < 4) => hS.out.all (i := i) hi)
      have hn1 : IsC (.complex .f64 0 13830554455654793216) (0, -1) := ⟨_, _, rfl, isF_zero, isF_neg⟩
      have HN := Lib.hid hn1
      have c0 := hF.out.1 0 (by omega)
      have c1 := hF.out.1 1 (by omega)
      have c2 := hF.out.1 2 (by omega)
      have c3 := hF.out.1 3 (by omega)
      clear hlt hk hn1
      go_wp2_with (go_at_call 158; ((with_reducible refine (turned_to S (lp a b c d) (.complex .f64 0 13830554455654793216) (-1) (.inr rfl) 32768 (by decide) HX.out HP.out HN.out _).mono ?_); rintro e2 w2 ⟨⟨Y, rfl, hAll⟩, hb2⟩; obtain ⟨hcc, hff⟩ := Kit.bcell hb2; have hRR := hR.out.below hb2 hR.out.2.2; have hBx := hBw.out.trans (hb2.mono hBw.out.size); skip))
      have d0 := hRR.1 0 (by omega)
      have d1 := hRR.1 1 (by omega)
      have d2 := hRR.1 2 (by omega)
      have d3 := hRR.1 3 (by omega)
      have f0 := hRR.2.1 0 (by omega)
      have f1 := hRR.2.1 1 (by omega)
      have f2 := hRR.2.1 2 (by omega)
      have f3 := hRR.2.1 3 (by omega)
      obtain ⟨a0, b0, s0, -⟩ := hAll (0 : Nat) (by omega)
      obtain ⟨a1, b1, s1, -⟩ := hAll (1 : Nat) (by omega)
      obtain ⟨a2, b2, s2, -⟩ := hAll (2 : Nat) (by omega)
      obtain ⟨a3, b3, s3, -⟩ := hAll (3 : Nat) (by omega)
      have t0 := st_c a0 b0
      have t1 := st_c a1 b1
      have t2 := st_c a2 b2
      have t3 := st_c a3 b3
      have HA := Lib.hid hAll
      clear hAll
      have HS0 := Lib.hid s0
      have HS1 := Lib.hid s1
      have HS2 := Lib.hid s2
      have HS3 := Lib.hid s3
      go_wp2
      refine bodyPost_ret (Kit.results_c rfl _ _ (w.heap.size + 1) 0 [.complex .f64 a0 b0, .complex .f64 a1 b1, .complex .f64 a2 b2, .complex .f64 a3 b3] _ rfl (range_4 (by go_cell) (by go_cell) (by go_cell) (by go_cell)) Tryz.underlying179 rfl (by kernel_rfl)) rfl ?_
      refine ⟨⟨Y, ?_, HA.out⟩, ?_⟩
      · unfold agg4
        rw [HS0.out, HS1.out, HS2.out, HS3.out]
      · have := hBx
        go_grown
end Go.Proofs.YtoghpoopgkahiaaGreatDoor.CFour
end
section
namespace Go.Proofs.YtoghpoopgkahiaaGreatDoor.CFour
open Go Go.ChangeShapes Go.WideShapes Go.ChangeAt Go.RowKit
open FloatNum
set_option linter.unusedVariables false
set_option maxHeartbeats 4000000 in
theorem plus_to (X Y : Nat → Value) (p q : Nat → G) (A B : Nat) (hAB : A + B < 2 ^ 53) (hX : ∀ i, i < 4 → IsC (X i) (p i)) (hY : ∀ i, i < 4 → IsC (Y i) (q i)) (hp : ∀ i, Bd A (p i)) (hq : ∀ i, Bd B (q i)) (w : World) :
    Calls Tryz.prog 155 #[agg4 X, agg4 Y] w fun e' w' => (∃ S, e' = .returned (agg4 S) ∧ ∀ i, i < 4 → IsC (S i) (gadd (p i) (q i))) ∧ Below w.heap.size w w' := by
  have HX := Lib.hid hX
  have HY := Lib.hid hY
  have HP := Lib.hid hp
  have HQ := Lib.hid hq
  have HAB := Lib.hid hAB
  clear hX hY hp hq hAB
  go_enter Tryz.func155, Tryz.ntmps155
  go_wp2_with fail
  go_loopw [7] (fun u wr => ∃ (k : Nat) (S : Nat → Value), k ≤ 4 ∧ u = .int .i64 k ∧ Hid (FillR (fun i => gadd (p i) (q i)) k S) ∧ Hid (Four (w.heap.size + 1 + 1 + 1) S wr) ∧ Hid (Four (w.heap.size + 1 + 1) (fun _ => z0) wr) ∧ Hid (Four w.heap.size X wr) ∧ Hid (Four (w.heap.size + 1) Y wr) ∧ Hid (Below w.heap.size w wr)) (fun u _ => 4 - (intOf u).toNat)
  case atStart =>
    have h0 := (Four.box w X 179).below ((((Below.refl _ _).alloc (Nat.le_refl _) (.cells #[Y 0, Y 1, Y 2, Y 3] 179)).alloc (by simp) (.cells #[z0, z0, z0, z0] 179)).alloc (by simp) (.cells #[z0, z0, z0, z0] 179)) (by simp)
    have h1 := (Four.box (w.alloc (.cells #[X 0, X 1, X 2, X 3] 179)) Y 179).below (((Below.refl _ _).alloc (Nat.le_refl _) (.cells #[z0, z0, z0, z0] 179)).alloc (by simp) (.cells #[z0, z0, z0, z0] 179)) (by simp)
    have h2 := (Four.new ((w.alloc (.cells #[X 0, X 1, X 2, X 3] 179)).alloc (.cells #[Y 0, Y 1, Y 2, Y 3] 179)) z0 179).below ((Below.refl _ _).alloc (Nat.le_refl _) (.cells #[z0, z0, z0, z0] 179)) (by simp)
    have h3 := Four.new (((w.alloc (.cells #[X 0, X 1, X 2, X 3] 179)).alloc (.cells #[Y 0, Y 1, Y 2, Y 3] 179)).alloc (.cells #[z0, z0, z0, z0] 179)) z0 179
    have e1 : (w.alloc (.cells #[X 0, X 1, X 2, X 3] 179)).heap.size = w.heap.size + 1 := by simp
    have e2 : ((w.alloc (.cells #[X 0, X 1, X 2, X 3] 179)).alloc (.cells #[Y 0, Y 1, Y 2, Y 3] 179)).heap.size = w.heap.size + 1 + 1 := by simp
    have e3 : (((w.alloc (.cells #[X 0, X 1, X 2, X 3] 179)).alloc (.cells #[Y 0, Y 1, Y 2, Y 3] 179)).alloc (.cells #[z0, z0, z0, z0] 179)).heap.size = w.heap.size + 1 + 1 + 1 := by simp
    rw [e1] at h1
    rw [e2] at h2
    rw [e3] at h3
    exact ⟨0, fun _ => z0, by omega, rfl, Lib.hid (FillR.start _), Lib.hid h3, Lib.hid h2, Lib.hid h0, Lib.hid h1, Lib.hid (((((Below.refl _ _).alloc (Nat.le_refl _) _).alloc (by simp) _).alloc (by simp; omega) _).alloc (by simp; omega) _)⟩
  case round =>
    obtain ⟨k, S, hk, rfl, hS, hF, hR, hU, hV, hBw⟩ := hrel
    by_cases hlt : k < 4
    · obtain ⟨x, hx1, hx2⟩ := IsC.add (P := Tryz.prog) (HX.out k hlt) (HY.out k hlt) (HP.out k) (HQ.out k) HAB.out
      have HT := Lib.hid (hS.out.step hx2)
      have HG := Lib.hid (hF.out.set hlt x)
      have HR1 := Lib.hid (hR.out.other (g' := w.heap.size + 1 + 1 + 1) (k := k) x (by omega))
      have HU1 := Lib.hid (hU.out.other (g' := w.heap.size + 1 + 1 + 1) (k := k) x (by omega))
      have HV1 := Lib.hid (hV.out.other (g' := w.heap.size + 1 + 1 + 1) (k := k) x (by omega))
      have HB1 := Lib.hid (hBw.out.setCell (p := ⟨w.heap.size + 1 + 1 + 1, k, none⟩) (by show w.heap.size ≤ w.heap.size + 1 + 1 + 1; omega) x)
      obtain ⟨xa, xb, rfl, -⟩ := hx2
      have hst := st_c xa xb
      have c0 := hU.out.1 0 (by omega)
      have c1 := hU.out.1 1 (by omega)
      have c2 := hU.out.1 2 (by omega)
      have c3 := hU.out.1 3 (by omega)
      have d0 := hV.out.1 0 (by omega)
      have d1 := hV.out.1 1 (by omega)
      have d2 := hV.out.1 2 (by omega)
      have d3 := hV.out.1 3 (by omega)
      have e0 := hF.out.1 0 (by omega)
      have e1 := hF.out.1 1 (by omega)
      have e2 := hF.out.1 2 (by omega)
      have e3 := hF.out.1 3 (by omega)
      have f0 := hF.out.2.1 0 (by omega)
      have f1 := hF.out.2.1 1 (by omega)
      have f2 := hF.out.2.1 2 (by omega)
      have f3 := hF.out.2.1 3 (by omega)
      obtain rfl | rfl | rfl | rfl := lt4 hlt
      all_goals go_wp2
      · go_region_held3 (fun W => W.cell? ⟨w.heap.size, 0, none⟩ = some (X 0) ∧ W.cell? ⟨w.heap.size + 1, 0, none⟩ = some (Y 0)) (first | exact ⟨HU1.out.1 0 (by omega), HV1.out.1 0 (by omega)⟩ | (go_keep; done)) (fail)
        go_wp2
        go_roundw
        case rel => exact ⟨_, _, by omega, by go_num, HT, Lib.hid HG.out.drew, Lib.hid HR1.out.drew, Lib.hid HU1.out.drew, Lib.hid HV1.out.drew, Lib.hid HB1.out.drew⟩
        case measure => simp [intOf]
      · go_region_held3 (fun W => W.cell? ⟨w.heap.size, 1, none⟩ = some (X 1) ∧ W.cell? ⟨w.heap.size + 1, 1, none⟩ = some (Y 1)) (first | exact ⟨HU1.out.1 1 (by omega), HV1.out.1 1 (by omega)⟩ | (go_keep; done)) (fail)
        go_wp2
        go_roundw
        case rel => exact ⟨_, _, by omega, by go_num, HT, Lib.hid HG.out.drew, Lib.hid HR1.out.drew, Lib.hid HU1.out.drew, Lib.hid HV1.out.drew, Lib.hid HB1.out.drew⟩
        case measure => simp [intOf]
      · go_region_held3 (fun W => W.cell? ⟨w.heap.size, 2, none⟩ = some (X 2) ∧ W.cell? ⟨w.heap.size + 1, 2, none⟩ = some (Y 2)) (first | exact ⟨HU1.out.1 2 (by omega), HV1.out.1 2 (by omega)⟩ | (go_keep; done)) (fail)
        go_wp2
        go_roundw
        case rel => exact ⟨_, _, by omega, by go_num, HT, Lib.hid HG.out.drew, Lib.hid HR1.out.drew, Lib.hid HU1.out.drew, Lib.hid HV1.out.drew, Lib.hid HB1.out.drew⟩
        case measure => simp [intOf]
      · go_region_held3 (fun W => W.cell? ⟨w.heap.size, 3, none⟩ = some (X 3) ∧ W.cell? ⟨w.heap.size + 1, 3, none⟩ = some (Y 3)) (first | exact ⟨HU1.out.1 3 (by omega), HV1.out.1 3 (by omega)⟩ | (go_keep; done)) (fail)
        go_wp2
        go_roundw
        case rel => exact ⟨_, _, by omega, by go_num, HT, Lib.hid HG.out.drew, Lib.hid HR1.out.drew, Lib.hid HU1.out.drew, Lib.hid HV1.out.drew, Lib.hid HB1.out.drew⟩
        case measure => simp [intOf]
    · have hk4 : k = 4 := by omega
      subst hk4
      have hAll : ∀ i, i < 4 → IsC (S i) (gadd (p i) (q i)) := fun i (hi : i < 4) => hS.out.all (i := i) hi
      have c0 := hF.out.1 0 (by omega)
      have c1 := hF.out.1 1 (by omega)
      have c2 := hF.out.1 2 (by omega)
      have c3 := hF.out.1 3 (by omega)
      have d0 := hR.out.1 0 (by omega)
      have d1 := hR.out.1 1 (by omega)
      have d2 := hR.out.1 2 (by omega)
      have d3 := hR.out.1 3 (by omega)
      have f0 := hR.out.2.1 0 (by omega)
      have f1 := hR.out.2.1 1 (by omega)
      have f2 := hR.out.2.1 2 (by omega)
      have f3 := hR.out.2.1 3 (by omega)
      clear hlt hk
      obtain ⟨a0, b0, s0, -⟩ := hAll (0 : Nat) (by omega)
      obtain ⟨a1, b1, s1, -⟩ := hAll (1 : Nat) (by omega)
      obtain ⟨a2, b2, s2, -⟩ := hAll (2 : Nat) (by omega)
      obtain ⟨a3, b3, s3, -⟩ := hAll (3 : Nat) (by omega)
      have t0 := st_c a0 b0
      have t1 := st_c a1 b1
      have t2 := st_c a2 b2
      have t3 := st_c a3 b3
      have HA := Lib.hid hAll
      clear hAll
      have HS0 := Lib.hid s0
      have HS1 := Lib.hid s1
      have HS2 := Lib.hid s2
      have HS3 := Lib.hid s3
      go_wp2
      refine bodyPost_ret (Kit.results_c rfl _ _ (w.heap.size + 1 + 1) 0 [.complex .f64 a0 b0, .complex .f64 a1 b1, .complex .f64 a2 b2, .complex .f64 a3 b3] _ rfl (range_4 (by go_cell) (by go_cell) (by go_cell) (by go_cell)) Tryz.underlying179 rfl (by kernel_rfl)) rfl ?_
      refine ⟨⟨S, ?_, HA.out⟩, ?_⟩
      · unfold agg4
        rw [HS0.out, HS1.out, HS2.out, HS3.out]
      · have := hBw.out
        go_grown
set_option maxHeartbeats 4000000 in
theorem times_to (X Y : Nat → Value) (p q : Nat → G) (A B : Nat) (hA : A < 2 ^ 53) (hB : B < 2 ^ 53) (hAB : A * B + A * B < 2 ^ 53) (hX : ∀ i, i < 4 → IsC (X i) (p i)) (hY : ∀ i, i < 4 → IsC (Y i) (q i)) (hp : ∀ i, Bd A (p i)) (hq : ∀ i, Bd B (q i)) (w : World) :
    Calls Tryz.prog 156 #[agg4 X, agg4 Y] w fun e' w' => (∃ S, e' = .returned (agg4 S) ∧ ∀ i, i < 4 → IsC (S i) (gmul (p i) (q i))) ∧ Below w.heap.size w w' := by
  have HX := Lib.hid hX
  have HY := Lib.hid hY
  have HP := Lib.hid hp
  have HQ := Lib.hid hq
  have HAB := Lib.hid hAB
  clear hX hY hp hq hAB
  go_enter Tryz.func156, Tryz.ntmps156
  go_wp2_with fail
  go_loopw [7] (fun u wr => ∃ (k : Nat) (S : Nat → Value), k ≤ 4 ∧ u = .int .i64 k ∧ Hid (FillR (fun i => gmul (p i) (q i)) k S) ∧ Hid (Four (w.heap.size + 1 + 1 + 1) S wr) ∧ Hid (Four (w.heap.size + 1 + 1) (fun _ => z0) wr) ∧ Hid (Four w.heap.size X wr) ∧ Hid (Four (w.heap.size + 1) Y wr) ∧ Hid (Below w.heap.size w wr)) (fun u _ => 4 - (intOf u).toNat)
  case atStart =>
    have h0 := (Four.box w X 179).below ((((Below.refl _ _).alloc (Nat.le_refl _) (.cells #[Y 0, Y 1, Y 2, Y 3] 179)).alloc (by simp) (.cells #[z0, z0, z0, z0] 179)).alloc (by simp) (.cells #[z0, z0, z0, z0] 179)) (by simp)
    have h1 := (Four.box (w.alloc (.cells #[X 0, X 1, X 2, X 3] 179)) Y 179).below (((Below.refl _ _).alloc (Nat.le_refl _) (.cells #[z0, z0, z0, z0] 179)).alloc (by simp) (.cells #[z0, z0, z0, z0] 179)) (by simp)
    have h2 := (Four.new ((w.alloc (.cells #[X 0, X 1, X 2, X 3] 179)).alloc (.cells #[Y 0, Y 1, Y 2, Y 3] 179)) z0 179).below ((Below.refl _ _).alloc (Nat.le_refl _) (.cells #[z0, z0, z0, z0] 179)) (by simp)
    have h3 := Four.new (((w.alloc (.cells #[X 0, X 1, X 2, X 3] 179)).alloc (.cells #[Y 0, Y 1, Y 2, Y 3] 179)).alloc (.cells #[z0, z0, z0, z0] 179)) z0 179
    have e1 : (w.alloc (.cells #[X 0, X 1, X 2, X 3] 179)).heap.size = w.heap.size + 1 := by simp
    have e2 : ((w.alloc (.cells #[X 0, X 1, X 2, X 3] 179)).alloc (.cells #[Y 0, Y 1, Y 2, Y 3] 179)).heap.size = w.heap.size + 1 + 1 := by simp
    have e3 : (((w.alloc (.cells #[X 0, X 1, X 2, X 3] 179)).alloc (.cells #[Y 0, Y 1, Y 2, Y 3] 179)).alloc (.cells #[z0, z0, z0, z0] 179)).heap.size = w.heap.size + 1 + 1 + 1 := by simp
    rw [e1] at h1
    rw [e2] at h2
    rw [e3] at h3
    exact ⟨0, fun _ => z0, by omega, rfl, Lib.hid (FillR.start _), Lib.hid h3, Lib.hid h2, Lib.hid h0, Lib.hid h1, Lib.hid (((((Below.refl _ _).alloc (Nat.le_refl _) _).alloc (by simp) _).alloc (by simp; omega) _).alloc (by simp; omega) _)⟩
  case round =>
    obtain ⟨k, S, hk, rfl, hS, hF, hR, hU, hV, hBw⟩ := hrel
    by_cases hlt : k < 4
    · obtain ⟨x, hx1, hx2⟩ := IsC.mul (P := Tryz.prog) (HX.out k hlt) (HY.out k hlt) (HP.out k) (HQ.out k) hA hB HAB.out
      have HT := Lib.hid (hS.out.step hx2)
      have HG := Lib.hid (hF.out.set hlt x)
      have HR1 := Lib.hid (hR.out.other (g' := w.heap.size + 1 + 1 + 1) (k := k) x (by omega))
      have HU1 := Lib.hid (hU.out.other (g' := w.heap.size + 1 + 1 + 1) (k := k) x (by omega))
      have HV1 := Lib.hid (hV.out.other (g' := w.heap.size + 1 + 1 + 1) (k := k) x (by omega))
      have HB1 := Lib.hid (hBw.out.setCell (p := ⟨w.heap.size + 1 + 1 + 1, k, none⟩) (by show w.heap.size ≤ w.heap.size + 1 + 1 + 1; omega) x)
      obtain ⟨xa, xb, rfl, -⟩ := hx2
      have hst := st_c xa xb
      have c0 := hU.out.1 0 (by omega)
      have c1 := hU.out.1 1 (by omega)
      have c2 := hU.out.1 2 (by omega)
      have c3 := hU.out.1 3 (by omega)
      have d0 := hV.out.1 0 (by omega)
      have d1 := hV.out.1 1 (by omega)
      have d2 := hV.out.1 2 (by omega)
      have d3 := hV.out.1 3 (by omega)
      have e0 := hF.out.1 0 (by omega)
      have e1 := hF.out.1 1 (by omega)
      have e2 := hF.out.1 2 (by omega)
      have e3 := hF.out.1 3 (by omega)
      have f0 := hF.out.2.1 0 (by omega)
      have f1 := hF.out.2.1 1 (by omega)
      have f2 := hF.out.2.1 2 (by omega)
      have f3 := hF.out.2.1 3 (by omega)
      obtain rfl | rfl | rfl | rfl := lt4 hlt
      all_goals go_wp2
      · go_region_held3 (fun W => W.cell? ⟨w.heap.size, 0, none⟩ = some (X 0) ∧ W.cell? ⟨w.heap.size + 1, 0, none⟩ = some (Y 0)) (first | exact ⟨HU1.out.1 0 (by omega), HV1.out.1 0 (by omega)⟩ | (go_keep; done)) (fail)
        go_wp2
        go_roundw
        case rel => exact ⟨_, _, by omega, by go_num, HT, Lib.hid HG.out.drew, Lib.hid HR1.out.drew, Lib.hid HU1.out.drew, Lib.hid HV1.out.drew, Lib.hid HB1.out.drew⟩
        case measure => simp [intOf]
      · go_region_held3 (fun W => W.cell? ⟨w.heap.size, 1, none⟩ = some (X 1) ∧ W.cell? ⟨w.heap.size + 1, 1, none⟩ = some (Y 1)) (first | exact ⟨HU1.out.1 1 (by omega), HV1.out.1 1 (by omega)⟩ | (go_keep; done)) (fail)
        go_wp2
        go_roundw
        case rel => exact ⟨_, _, by omega, by go_num, HT, Lib.hid HG.out.drew, Lib.hid HR1.out.drew, Lib.hid HU1.out.drew, Lib.hid HV1.out.drew, Lib.hid HB1.out.drew⟩
        case measure => simp [intOf]
      · go_region_held3 (fun W => W.cell? ⟨w.heap.size, 2, none⟩ = some (X 2) ∧ W.cell? ⟨w.heap.size + 1, 2, none⟩ = some (Y 2)) (first | exact ⟨HU1.out.1 2 (by omega), HV1.out.1 2 (by omega)⟩ | (go_keep; done)) (fail)
        go_wp2
        go_roundw
        case rel => exact ⟨_, _, by omega, by go_num, HT, Lib.hid HG.out.drew, Lib.hid HR1.out.drew, Lib.hid HU1.out.drew, Lib.hid HV1.out.drew, Lib.hid HB1.out.drew⟩
        case measure => simp [intOf]
      · go_region_held3 (fun W => W.cell? ⟨w.heap.size, 3, none⟩ = some (X 3) ∧ W.cell? ⟨w.heap.size + 1, 3, none⟩ = some (Y 3)) (first | exact ⟨HU1.out.1 3 (by omega), HV1.out.1 3 (by omega)⟩ | (go_keep; done)) (fail)
        go_wp2
        go_roundw
        case rel => exact ⟨_, _, by omega, by go_num, HT, Lib.hid HG.out.drew, Lib.hid HR1.out.drew, Lib.hid HU1.out.drew, Lib.hid HV1.out.drew, Lib.hid HB1.out.drew⟩
        case measure => simp [intOf]
    · have hk4 : k = 4 := by omega
      subst hk4
      have hAll : ∀ i, i < 4 → IsC (S i) (gmul (p i) (q i)) := fun i (hi : i < 4) => hS.out.all (i := i) hi
      have c0 := hF.out.1 0 (by omega)
      have c1 := hF.out.1 1 (by omega)
      have c2 := hF.out.1 2 (by omega)
      have c3 := hF.out.1 3 (by omega)
      have d0 := hR.out.1 0 (by omega)
      have d1 := hR.out.1 1 (by omega)
      have d2 := hR.out.1 2 (by omega)
      have d3 := hR.out.1 3 (by omega)
      have f0 := hR.out.2.1 0 (by omega)
      have f1 := hR.out.2.1 1 (by omega)
      have f2 := hR.out.2.1 2 (by omega)
      have f3 := hR.out.2.1 3 (by omega)
      clear hlt hk
      obtain ⟨a0, b0, s0, -⟩ := hAll (0 : Nat) (by omega)
      obtain ⟨a1, b1, s1, -⟩ := hAll (1 : Nat) (by omega)
      obtain ⟨a2, b2, s2, -⟩ := hAll (2 : Nat) (by omega)
      obtain ⟨a3, b3, s3, -⟩ := hAll (3 : Nat) (by omega)
      have t0 := st_c a0 b0
      have t1 := st_c a1 b1
      have t2 := st_c a2 b2
      have t3 := st_c a3 b3
      have HA := Lib.hid hAll
      clear hAll
      have HS0 := Lib.hid s0
      have HS1 := Lib.hid s1
      have HS2 := Lib.hid s2
      have HS3 := Lib.hid s3
      go_wp2
      refine bodyPost_ret (Kit.results_c rfl _ _ (w.heap.size + 1 + 1) 0 [.complex .f64 a0 b0, .complex .f64 a1 b1, .complex .f64 a2 b2, .complex .f64 a3 b3] _ rfl (range_4 (by go_cell) (by go_cell) (by go_cell) (by go_cell)) Tryz.underlying179 rfl (by kernel_rfl)) rfl ?_
      refine ⟨⟨S, ?_, HA.out⟩, ?_⟩
      · unfold agg4
        rw [HS0.out, HS1.out, HS2.out, HS3.out]
      · have := hBw.out
        go_grown
end Go.Proofs.YtoghpoopgkahiaaGreatDoor.CFour
end
