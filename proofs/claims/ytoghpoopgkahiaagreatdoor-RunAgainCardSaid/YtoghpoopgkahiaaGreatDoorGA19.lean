/- Texts of this seat, one behind the other: KindBox, RunDef, LaneErr. -/
import Derived.Deep.MidRow
import Derived.Deep.CutRange
import Derived.Test.YtoghpoopgkahiaaGreatDoorGA7
import Derived.Test.YtoghpoopgkahiaaGreatDoorGA9
import Derived.Test.YtoghpoopgkahiaaGreatDoorGA13
import Derived.Test.YtoghpoopgkahiaaGreatDoorGA14
import Derived.Test.YtoghpoopgkahiaaGreatDoorGA18
section
namespace Go.Proofs.YtoghpoopgkahiaaGreatDoor.CKind
open Go Go.ChangeShapes Go.WideShapes Go.ChangeAt Go.RowKit Go.Deep
open Plain CSat CShape CTensor CConv
set_option linter.unusedVariables false
set_option linter.unusedSimpArgs false
/-- a node's box that may be written. -/
def NdBox (b : Nat) (x : Nd) (w : World) : Prop := NdAt b x w ∧ w.there b 0 19
theorem NdBox.new (x : Nd) (T : TypeId) (w : World) : NdBox w.heap.size x (w.alloc (.cells x.val T)) := by
  refine ⟨NdAt.new x T w, fun j hj => ?_⟩
  rw [Nat.zero_add]
  constructor
  · rw [Kit.new_cell]
    have : j < x.val.size := hj
    simp [this]
  · unfold World.frozen?; rw [heap_alloc_new]; rfl
theorem NdBox.below {b B : Nat} {x : Nd} {w w' : World} (h : NdBox b x w) (hB : b < B) (hb : Below B w w') : NdBox b x w' :=
  ⟨h.1.below hB hb, fun j hj => ⟨by rw [hb.cell (p := ⟨b, 0 + j, none⟩) hB]; exact (h.2 j hj).1, by rw [hb.frozen (p := ⟨b, 0 + j, none⟩) hB]; exact (h.2 j hj).2⟩⟩
theorem NdBox.set {b : Nat} {x y : Nd} {w : World} (h : NdBox b x w) (i : Nat) (v : Value) (hi : i < 19) (hy : x.val.toList.set i v = y.val.toList) : NdBox b y (w.setCell ⟨b, i, none⟩ v) := by
  have hc := (h.2 i hi).1
  rw [Nat.zero_add] at hc
  refine ⟨fun j u hj => ?_, fun j hj => ⟨?_, ?_⟩⟩
  · rw [Nat.zero_add]
    rw [← hy, List.getElem?_set] at hj
    by_cases e : i = j
    · subst e
      rw [if_pos rfl, if_pos (show i < x.val.toList.length from hi)] at hj
      cases hj
      exact World.cell?_setCell_same' _ _ _ hc
    · rw [if_neg e] at hj
      rw [World.cell?_setCell_other _ _ _ _ (fun hh => e (by injection hh))]
      have := h.1 j u hj
      rwa [Nat.zero_add] at this
  · rw [Nat.zero_add]
    by_cases e : i = j
    · subst e
      rw [World.cell?_setCell_same' _ _ _ hc]; rfl
    · rw [World.cell?_setCell_other _ _ _ _ (fun hh => e (by injection hh))]
      have := (h.2 j hj).1
      rwa [Nat.zero_add] at this
  · rw [World.frozen?_setCell]; exact (h.2 j hj).2
theorem NdBox.fr {b : Nat} {x : Nd} {w : World} (h : NdBox b x w) (i : Nat) (hi : i < 19) : w.frozen? ⟨b, i, none⟩ = false := by
  have := (h.2 i hi).2
  rwa [Nat.zero_add] at this
theorem info_node : (Tryz.prog.info? 28).map (·.size) = some 19 := by kernel_rfl
theorem nd_one (x : Nd) : x.val.all (·.oneCell') = true := by simp [Nd.val, Value.oneCell']
/-- a node is stored whole. -/
theorem nd_store {ops : Array Oper} {rest : List Oper} {op : Oper} {a : Act} {w : World} {Q : Exit → Act → World → Prop} (hgd : op.guard = none) (x y : Operand) (ho : op.op = .store 28 x y)
    (b : Nat) (u v : Nd) (hx : a.eval x = .pointer (some ⟨b, 0, none⟩)) (hy : a.eval y = .agg v.val) (hb : NdBox b u w)
    (h : ∀ w', NdBox b v w' → Below b w w' → w'.heap.size = w.heap.size → wpList Tryz.prog ops Q rest (a.put op.dst undef) w') : wpList Tryz.prog ops Q (op :: rest) a w := by
  refine wpList_store_mid hgd 28 x y ho b 0 v.val hx hy hb.2 info_node (nd_one v) ?_
  have go : ∀ (vs : List Value) (o : Nat) (w : World), Below b w (w.setCells b o vs) ∧ (w.setCells b o vs).heap.size = w.heap.size := by
    intro vs
    induction vs with
    | nil => intro o w; exact ⟨Below.refl _ _, rfl⟩
    | cons v vs ih => intro o w; exact ⟨((Below.refl b w).setCell (p := ⟨b, o, none⟩) (Nat.le_refl _) v).trans (ih (o + 1) _).1, (ih (o + 1) (w.setCell ⟨b, o, none⟩ v)).2.trans (by simp [World.setCell])⟩
  exact h _ ⟨World.rangeAt_setCells_same _ _ _ _ hb.2, World.there_setCells hb.2 _ _ _⟩ (go _ _ _).1 (go _ _ _).2
/-- a node is loaded whole. -/
theorem nd_load {ops : Array Oper} {rest : List Oper} {op : Oper} {a : Act} {w : World} {Q : Exit → Act → World → Prop} (hgd : op.guard = none) (x : Operand) (ho : op.op = .load 28 x)
    (b : Nat) (u : Nd) (hx : a.eval x = .pointer (some ⟨b, 0, none⟩)) (hb : NdAt b u w)
    (h : wpList Tryz.prog ops Q rest (a.put op.dst (.agg u.val)) w) : wpList Tryz.prog ops Q (op :: rest) a w :=
  wpList_load_mid hgd 28 x ho b 0 hx u.val.toList _ hb Tryz.underlying28 rfl (by kernel_rfl) h
/-- a node handed back by value. -/
theorem nd_result {fn : Func} {p : Tmp} (h : fn.results = #[.cell p 28]) (tmps : Array Value) (w : World) (b : Nat) (x : Nd) (hp : tmps.getD p undef = .pointer (some ⟨b, 0, none⟩)) (hb : NdAt b x w) :
    (results fn tmps).run Tryz.prog w = .ok (.agg x.val) w :=
  Kit.results_c h tmps w b 0 x.val.toList _ hp hb Tryz.underlying28 rfl (by kernel_rfl)
end Go.Proofs.YtoghpoopgkahiaaGreatDoor.CKind
end
section
namespace Go.Proofs.YtoghpoopgkahiaaGreatDoor.CRun
set_option maxRecDepth 100000
open Go Go.ChangeShapes Go.WideShapes Go.ChangeAt Go.RowKit Go.Deep
open Plain CSat CShape CTensor CConv CKind
set_option linter.unusedVariables false
set_option linter.unusedSimpArgs false
/-- what is made: a shape, so many numbers, or an error. -/
structure Res where
  (X Y U : Int)
  (m : Nat)
  (xs : List Int)
  (er : Int)
def Res.bad (e : Int) : Res := ⟨0, 0, 0, 0, [], e⟩
/-- sums of the call's own. -/
def MAcc (w : World) (r : Res) (e : Ending) (w' : World) : Prop :=
  ∃ v, e = .returned (.tuple #[.agg #[.int .i64 r.X, .int .i64 r.Y, .int .i64 r.U, v], .int .i64 r.er]) ∧ w'.ownsRow w.heap.size 21 1 v r.m (I32v r.xs) ∧ Below w.heap.size w w'
/-- numbers of the call's own. -/
def MTen (w : World) (r : Res) (e : Ending) (w' : World) : Prop :=
  ∃ v, e = .returned (.tuple #[.agg #[.int .i64 r.X, .int .i64 r.Y, .int .i64 r.U, v], .int .i64 r.er]) ∧ w'.ownsRow w.heap.size 22 1 v r.m (I8s r.xs) ∧ Below w.heap.size w w'
theorem own_none {w : World} (T : TypeId) (B : Nat) : w.ownsRow B T 1 (.slice none 0 0) 0 [] := ⟨rfl, .inl ⟨rfl, rfl⟩⟩
theorem range_4r {w : World} {b : Nat} {x y z u : Value} (h0 : w.cell? ⟨b, 0, none⟩ = some x) (h1 : w.cell? ⟨b, 1, none⟩ = some y) (h2 : w.cell? ⟨b, 2, none⟩ = some z) (h3 : w.cell? ⟨b, 3, none⟩ = some u) : w.rangeAt b 0 [x, y, z, u] := by
  intro j v hj
  match j, hj with
  | 0, hj => simpa [← hj] using h0
  | 1, hj => simpa [← hj] using h1
  | 2, hj => simpa [← hj] using h2
  | 3, hj => simpa [← hj] using h3
  | j + 4, hj => simp at hj
theorem nd_k0 {g : Nat} {x : Nd} {w : World} {k : Int} (h : NdAt g x w) (hk : x.kd = k) : w.cell? ⟨g, 0, none⟩ = some (.int .i64 k) := h.at 0 _ (by show some (Value.int .i64 x.kd) = _; rw [hk])
theorem ent1 (x : Nd) (H W C : Int) (A : Option Addr) (n c : Nat) (T : TypeId) (w : World) : ∃ W0, W0 = (((w.alloc (.cells x.val 28)).alloc (.cells #[.int .i64 H, .int .i64 W, .int .i64 C, .slice A n c] 32)).alloc (.cells #[.int .i64 0, .int .i64 0, .int .i64 0, .slice none 0 0] T)) ∧
    Hid (NdAt w.heap.size x W0) ∧ Hid (Below w.heap.size w W0) ∧ w.heap.size + 2 < W0.heap.size ∧ Hid (BoxAt (w.heap.size + 1) H W C A n c W0) ∧ Hid (FreshT (w.heap.size + 2) W0) := by
  have hT := boxNew H W C A n c 32 (w.alloc (.cells x.val 28))
  have hF := freshNew T ((w.alloc (.cells x.val 28)).alloc (.cells #[.int .i64 H, .int .i64 W, .int .i64 C, .slice A n c] 32))
  simp only [World.size_alloc] at hT hF
  exact ⟨_, rfl, Lib.hid ((NdAt.new x _ w).below (B := w.heap.size + 1) (by omega) (((Below.refl _ _).alloc (by simp) _).alloc (by first | (simp; done) | (simp; omega)) _)), Lib.hid ((((Below.refl _ _).alloc (Nat.le_refl _) _).alloc (by first | (simp; done) | (simp; omega)) _).alloc (by first | (simp; done) | (simp; omega)) _), by simp, Lib.hid (hT.below (Nat.lt_succ_self _) ((Below.refl _ _).alloc (by simp) _)), Lib.hid hF⟩
theorem ent2 (x : Nd) (H W C H2 W2 C2 : Int) (A B : Option Addr) (n c m d : Nat) (T : TypeId) (w : World) : ∃ W0, W0 = ((((w.alloc (.cells x.val 28)).alloc (.cells #[.int .i64 H, .int .i64 W, .int .i64 C, .slice A n c] 32)).alloc (.cells #[.int .i64 H2, .int .i64 W2, .int .i64 C2, .slice B m d] 32)).alloc (.cells #[.int .i64 0, .int .i64 0, .int .i64 0, .slice none 0 0] T)) ∧
    Hid (NdAt w.heap.size x W0) ∧ Hid (Below w.heap.size w W0) ∧ w.heap.size + 3 < W0.heap.size ∧ Hid (BoxAt (w.heap.size + 1) H W C A n c W0) ∧ Hid (BoxAt (w.heap.size + 2) H2 W2 C2 B m d W0) ∧ Hid (FreshT (w.heap.size + 3) W0) := by
  have hT := boxNew H W C A n c 32 (w.alloc (.cells x.val 28))
  have hU := boxNew H2 W2 C2 B m d 32 ((w.alloc (.cells x.val 28)).alloc (.cells #[.int .i64 H, .int .i64 W, .int .i64 C, .slice A n c] 32))
  have hF := freshNew T (((w.alloc (.cells x.val 28)).alloc (.cells #[.int .i64 H, .int .i64 W, .int .i64 C, .slice A n c] 32)).alloc (.cells #[.int .i64 H2, .int .i64 W2, .int .i64 C2, .slice B m d] 32))
  simp only [World.size_alloc] at hT hU hF
  exact ⟨_, rfl, Lib.hid ((NdAt.new x _ w).below (B := w.heap.size + 1) (by omega) ((((Below.refl _ _).alloc (by simp) _).alloc (by first | (simp; done) | (simp; omega)) _).alloc (by first | (simp; done) | (simp; omega)) _)), Lib.hid (((((Below.refl _ _).alloc (Nat.le_refl _) _).alloc (by first | (simp; done) | (simp; omega)) _).alloc (by first | (simp; done) | (simp; omega)) _).alloc (by first | (simp; done) | (simp; omega)) _), by simp, Lib.hid (hT.below (Nat.lt_succ_self _) (((Below.refl _ _).alloc (by simp) _).alloc (by first | (simp; done) | (simp; omega)) _)), Lib.hid (hU.below (Nat.lt_succ_self _) ((Below.refl _ _).alloc (by simp) _)), Lib.hid hF⟩
end Go.Proofs.YtoghpoopgkahiaaGreatDoor.CRun
end
section
namespace Go.Proofs.YtoghpoopgkahiaaGreatDoor.CLane
open Go Go.ChangeShapes Go.WideShapes Go.ChangeAt Go.RowKit
open Plain CSat CShape CTensor CConv FloatNum CFour CWheel
set_option linter.unusedVariables false
theorem fits_to (x0 x1 x2 x8 x11 x12 x13 x14 x15 x16 x17 x18 : Value) (K S P O Z : Int) (WA BA : Option Addr) (nW cW nB cB : Nat) (b : Bool) (hb : (decide (K = 3) && decide (S = 1)) = b) (w : World) :
    Calls Tryz.prog 32 #[.agg #[x0, x1, x2, .int .i64 K, .int .i64 S, .int .i64 P, .int .i64 O, .int .i8 Z, x8, .slice WA nW cW, .slice BA nB cB, x11, x12, x13, x14, x15, x16, x17, x18]] w fun e w' => e = .returned (.bool b) ∧ Below w.heap.size w w' := by
  have hn := NodeAt.new x0 x1 x2 x8 x11 x12 x13 x14 x15 x16 x17 x18 K S P O Z WA BA nW cW nB cB 28 w
  have n3 := hn.at 3 _ rfl
  have n4 := hn.at 4 _ rfl
  have hB : Below w.heap.size w (w.alloc (.cells #[x0, x1, x2, .int .i64 K, .int .i64 S, .int .i64 P, .int .i64 O, .int .i8 Z, x8, .slice WA nW cW, .slice BA nB cB, x11, x12, x13, x14, x15, x16, x17, x18] 28)) := (Below.refl _ _).alloc (Nat.le_refl _) _
  have HB := Lib.hid hB
  clear hn hB
  by_cases h3 : K = 3
  · have h3b : (K == 3) = true := by simpa using h3
    by_cases h1 : S = 1
    · have h1b : (S == 1) = true := by simpa using h1
      obtain rfl : b = true := by rw [← hb, decide_eq_true h3, decide_eq_true h1]; rfl
      clear hb h3 h1
      go_enter Tryz.func32, Tryz.ntmps32
      go_upto_region 1 with fail
      generalize w.alloc (.cells #[x0, x1, x2, .int .i64 K, .int .i64 S, .int .i64 P, .int .i64 O, .int .i8 Z, x8, .slice WA nW cW, .slice BA nB cB, x11, x12, x13, x14, x15, x16, x17, x18] 28) = w1 at n3 n4 HB ⊢
      go_wp2_with fail
      go_ret
      exact ⟨rfl, HB.out⟩
    · have h1b : (S == 1) = false := by simpa using h1
      obtain rfl : b = false := by rw [← hb, decide_eq_false h1, Bool.and_false]
      clear hb h3 h1
      go_enter Tryz.func32, Tryz.ntmps32
      go_upto_region 1 with fail
      generalize w.alloc (.cells #[x0, x1, x2, .int .i64 K, .int .i64 S, .int .i64 P, .int .i64 O, .int .i8 Z, x8, .slice WA nW cW, .slice BA nB cB, x11, x12, x13, x14, x15, x16, x17, x18] 28) = w1 at n3 n4 HB ⊢
      go_wp2_with fail
      go_ret
      exact ⟨rfl, HB.out⟩
  · have h3b : (K == 3) = false := by simpa using h3
    obtain rfl : b = false := by rw [← hb, decide_eq_false h3, Bool.false_and]
    clear hb h3
    go_enter Tryz.func32, Tryz.ntmps32
    go_upto_region 1 with fail
    generalize w.alloc (.cells #[x0, x1, x2, .int .i64 K, .int .i64 S, .int .i64 P, .int .i64 O, .int .i8 Z, x8, .slice WA nW cW, .slice BA nB cB, x11, x12, x13, x14, x15, x16, x17, x18] 28) = w1 at n3 n4 HB ⊢
    go_wp2_with fail
    go_ret
    exact ⟨rfl, HB.out⟩
set_option maxHeartbeats 1000000 in
theorem lof_bad (H W C : Int) (A : Option Addr) (n c : Nat) (x0 x1 x2 x8 x11 x12 x13 x14 x15 x16 x17 x18 : Value) (K S P O Z : Int) (WA BA : Option Addr) (nW cW nB cB : Nat) (ht : tensB H W C n = false) (w : World) :
    Calls Tryz.prog 33 #[.agg #[.int .i64 H, .int .i64 W, .int .i64 C, .slice A n c], .agg #[x0, x1, x2, .int .i64 K, .int .i64 S, .int .i64 P, .int .i64 O, .int .i8 Z, x8, .slice WA nW cW, .slice BA nB cB, x11, x12, x13, x14, x15, x16, x17, x18]] w (MadeA w 0 0 0 0 [] (.int .i64 5)) := by
  have HT := Lib.hid ht
  clear ht
  go_enter Tryz.func33, Tryz.ntmps33
  go_wp2_with (go_at_call 17; (refine (right_to H W C A n c false HT.out _).mono ?_); (rintro e w1 ⟨rfl, hb⟩; obtain ⟨hcc, hff⟩ := Kit.bcell hb; have hz : w.heap.size + 3 ≤ w1.heap.size := (by have := hb.size; simp at this; omega); have hz2 : w.heap.size + 2 < w1.heap.size := (by omega); have HB := Lib.hid hb; clear hb))
  refine bodyPost_ret (Kit.results_ct rfl _ _ (w.heap.size + 2) 0 [.int .i64 0, .int .i64 0, .int .i64 0, .slice none 0 0] _ rfl (CTensor.range_4 (by go_cell) (by go_cell) (by go_cell) (by go_cell)) Tryz.underlying41 rfl (by kernel_rfl)) rfl ?_
  have hB1 : Below w.heap.size w w1 := Below.trans ((((Below.refl _ _).alloc (Nat.le_refl _) _).alloc (by simp) _).alloc (by simp; omega) _) (HB.out.mono (by first | omega | (simp; done) | (simp; omega)))
  exact ⟨_, rfl, World.ownsRow_nil _ _ _ _, (((hB1.setCell (p := ⟨w.heap.size + 2, 0, none⟩) (by simp) _).setCell (p := ⟨w.heap.size + 2, 1, none⟩) (by simp) _).setCell (p := ⟨w.heap.size + 2, 2, none⟩) (by simp) _).setCell (p := ⟨w.heap.size + 2, 3, none⟩) (by simp) _⟩
set_option maxHeartbeats 2000000 in
theorem lof_err (H W C : Int) (A : Option Addr) (n c : Nat) (x0 x1 x2 x8 x11 x12 x13 x14 x15 x16 x17 x18 : Value) (K S P O Z : Int) (WA BA : Option Addr) (nW cW nB cB : Nat) (ht : tensB H W C n = true) (er : Int) (he : convE H W C K S P O nW nB = er) (h0 : er ≠ 0) (w : World) :
    Calls Tryz.prog 33 #[.agg #[.int .i64 H, .int .i64 W, .int .i64 C, .slice A n c], .agg #[x0, x1, x2, .int .i64 K, .int .i64 S, .int .i64 P, .int .i64 O, .int .i8 Z, x8, .slice WA nW cW, .slice BA nB cB, x11, x12, x13, x14, x15, x16, x17, x18]] w (MadeA w 0 0 0 0 [] (.int .i64 er)) := by
  have hS : convS H W C K S P O nW nB = #[.int .i64 0, .int .i64 0, .int .i64 0] := by unfold convS; rw [he, if_neg h0]
  have HT := Lib.hid ht
  have HE := Lib.hid he
  have HS := Lib.hid hS
  have h0b : (er != 0) = true := by simpa using h0
  have h0c : (er == 0) = false := by simpa using h0
  clear ht he hS
  go_enter Tryz.func33, Tryz.ntmps33
  go_wp2_with (first
    | (go_at_call 17
       have hal : Below w.heap.size w (((w.alloc (.cells #[.int .i64 H, .int .i64 W, .int .i64 C, .slice A n c] 32)).alloc (.cells #[x0, x1, x2, .int .i64 K, .int .i64 S, .int .i64 P, .int .i64 O, .int .i8 Z, x8, .slice WA nW cW, .slice BA nB cB, x11, x12, x13, x14, x15, x16, x17, x18] 28)).alloc (.cells #[.int .i64 0, .int .i64 0, .int .i64 0, .slice none 0 0] 41)) := (((Below.refl _ _).alloc (by first | exact Nat.le_refl _ | (simp; done) | (simp; omega)) _).alloc (by first | exact Nat.le_refl _ | (simp; done) | (simp; omega)) _).alloc (by first | exact Nat.le_refl _ | (simp; done) | (simp; omega)) _
       refine (right_to H W C A n c true HT.out _).mono ?_
       rintro e w1 ⟨rfl, hb⟩
       have hh : Below w.heap.size w w1 := hal.trans (hb.mono hal.size)
       have qTB := (boxNew H W C A n c 32) w
       try simp only [World.size_alloc] at qTB
       have TB := Lib.hid ((qTB.below (B' := w.heap.size + 1) (by omega) ((((Below.refl _ _).alloc (by first | exact Nat.le_refl _ | (simp; done) | (simp; omega)) _).alloc (by first | exact Nat.le_refl _ | (simp; done) | (simp; omega)) _).mono (by simp))).below (by first | (simp; done) | (simp; omega)) hb)
       have yTB : w.heap.size < w1.heap.size := by have := hb.size; simp at this; omega
       clear qTB
       have qTN := (NodeAt.new x0 x1 x2 x8 x11 x12 x13 x14 x15 x16 x17 x18 K S P O Z WA BA nW cW nB cB 28) (w.alloc (.cells #[.int .i64 H, .int .i64 W, .int .i64 C, .slice A n c] 32))
       try simp only [World.size_alloc] at qTN
       have TN := Lib.hid ((qTN.below (B' := w.heap.size + 2) (by omega) (((Below.refl _ _).alloc (by first | exact Nat.le_refl _ | (simp; done) | (simp; omega)) _).mono (by simp))).below (by first | (simp; done) | (simp; omega)) hb)
       have yTN : w.heap.size + 1 < w1.heap.size := by have := hb.size; simp at this; omega
       clear qTN
       have qFR := (freshNew 41) ((w.alloc (.cells #[.int .i64 H, .int .i64 W, .int .i64 C, .slice A n c] 32)).alloc (.cells #[x0, x1, x2, .int .i64 K, .int .i64 S, .int .i64 P, .int .i64 O, .int .i8 Z, x8, .slice WA nW cW, .slice BA nB cB, x11, x12, x13, x14, x15, x16, x17, x18] 28))
       try simp only [World.size_alloc] at qFR
       have FR := Lib.hid (qFR.below (by first | (simp; done) | (simp; omega)) hb)
       have yFR : w.heap.size + 2 < w1.heap.size := by have := hb.size; simp at this; omega
       clear qFR
       have HBW : Hid (Below w.heap.size w w1) := Lib.hid hh
       obtain ⟨tbp0, tbp1, tbp2, tbp3⟩ := TB.out
       clear hb hh hal)
    | (go_at_call 80
       have hal : Below w1.heap.size w1 w1 := Below.refl _ _
       refine (conv_to H W C x0 x1 x2 x8 x11 x12 x13 x14 x15 x16 x17 x18 K S P O Z WA BA nW cW nB cB er _ HE.out HS.out _).mono ?_
       rintro e w2 ⟨rfl, hb⟩
       have hh : Below w1.heap.size w1 w2 := hal.trans (hb.mono hal.size)
       replace TB := Lib.hid (TB.out.below yTB hh)
       replace yTB := Nat.lt_of_lt_of_le yTB hh.size
       replace TN := Lib.hid (TN.out.below yTN hh)
       replace yTN := Nat.lt_of_lt_of_le yTN hh.size
       replace FR := Lib.hid (FR.out.below yFR hh)
       replace yFR := Nat.lt_of_lt_of_le yFR hh.size
       replace HBW := Lib.hid (HBW.out.trans (hh.mono HBW.out.size))
       clear tbp0 tbp1 tbp2 tbp3
       obtain ⟨⟨z0, z1, z2, z3⟩, z4, z5, z6, z7⟩ := FR.out
       obtain ⟨tbp0, tbp1, tbp2, tbp3⟩ := TB.out
       clear hb hh hal)
    | (refine wpList_load_mid rfl 28 (.tmp 3) rfl (w.heap.size + 1) 0 rfl [x0, x1, x2, .int .i64 K, .int .i64 S, .int .i64 P, .int .i64 O, .int .i8 Z, x8, .slice WA nW cW, .slice BA nB cB, x11, x12, x13, x14, x15, x16, x17, x18] _ (TN.out) Tryz.underlying28 rfl (by kernel_rfl) ?_))
  obtain ⟨⟨z0, z1, z2, z3⟩, z4, z5, z6, z7⟩ := FR.out
  refine bodyPost_ret (Kit.results_ct rfl _ _ (w.heap.size + 2) 0 [.int .i64 0, .int .i64 0, .int .i64 0, .slice none 0 0] _ rfl (CTensor.range_4 (by go_cell) (by go_cell) (by go_cell) (by go_cell)) Tryz.underlying41 rfl (by kernel_rfl)) rfl ?_
  exact ⟨_, rfl, World.ownsRow_nil _ _ _ _, by exact ((((HBW.out.setCell (p := ⟨w.heap.size + 2, 0, none⟩) (by simp) _).setCell (p := ⟨w.heap.size + 2, 1, none⟩) (by simp) _).setCell (p := ⟨w.heap.size + 2, 2, none⟩) (by simp) _).setCell (p := ⟨w.heap.size + 2, 3, none⟩) (by simp) _).alloc (by simp; omega) _⟩
end Go.Proofs.YtoghpoopgkahiaaGreatDoor.CLane
end
