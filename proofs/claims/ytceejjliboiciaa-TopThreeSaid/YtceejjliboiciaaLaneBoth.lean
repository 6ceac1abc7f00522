/- Layer 16 (lane): lane.Of beside the document. -/
import Derived.Test.YtceejjliboiciaaLaneOf
import Derived.Test.YtceejjliboiciaaConvBoth
import Derived.Test.YtceejjliboiciaaNodeCopy
namespace Go.Proofs.Ytceejjliboiciaa.CLane
open Go Go.ChangeShapes Go.WideShapes Go.ChangeAt Go.RowKit
open Plain CSat CShape CTensor CConv FloatNum CFour CWheel
set_option linter.unusedVariables false

theorem lane_both (H W C : Int) (A : Option Addr) (zs : List Int) (n c : Nat) (hn : zs.length = n) (hz : I8b zs) (x0 x1 x2 x8 x11 x12 x13 x14 x15 x16 x17 x18 : Value) (K S P O Z : Int) (WA BA : Option Addr) (nW cW nB cB : Nat) (ws : List Int) (hws : ws.length = nW) (hwc : nW ≤ cW) (hwm : cW ≤ maxLen) (hwb : I8b ws) (bs : List Int) (hbs : bs.length = nB) (hb32 : ∀ q, -2147483648 ≤ bs.getD q 0 ∧ bs.getD q 0 ≤ 2147483647) (z1 : -128 ≤ Z) (z2 : Z ≤ 127) :
    ∃ (X Y U : Int) (m : Nat) (xs : List Int) (er : Int), xs.length = m ∧ m ≤ 1000000 ∧
      (∀ (w : World), Kit.Rd w w.heap.size A (I8s zs) → Kit.Rd w w.heap.size WA (I8s ws) → Kit.Rd w w.heap.size BA (I32v bs) → Calls Try.prog 8 #[.agg #[.int .i64 H, .int .i64 W, .int .i64 C, .slice A n c], .agg #[x0, x1, x2, .int .i64 K, .int .i64 S, .int .i64 P, .int .i64 O, .int .i8 Z, x8, .slice WA nW cW, .slice BA nB cB, x11, x12, x13, x14, x15, x16, x17, x18]] w (MadeA w X Y U m xs (.int .i64 er))) ∧
      ((¬ (er = 0 ∧ (decide (K = 3) && decide (S = 1)) = false)) → ∀ (w : World), Kit.Rd w w.heap.size A (I8s zs) → Kit.Rd w w.heap.size WA (I8s ws) → Kit.Rd w w.heap.size BA (I32v bs) → Calls Try.prog 7 #[.agg #[.int .i64 H, .int .i64 W, .int .i64 C, .slice A n c], .agg #[x0, x1, x2, .int .i64 K, .int .i64 S, .int .i64 P, .int .i64 O, .int .i8 Z, x8, .slice WA nW cW, .slice BA nB cB, x11, x12, x13, x14, x15, x16, x17, x18]] w (MadeA w X Y U m xs (.int .i64 er))) ∧
      ((er = 0 ∧ (decide (K = 3) && decide (S = 1)) = false) → ∀ (w : World), Kit.Rd w w.heap.size A (I8s zs) → Kit.Rd w w.heap.size WA (I8s ws) → Kit.Rd w w.heap.size BA (I32v bs) → Calls Try.prog 7 #[.agg #[.int .i64 H, .int .i64 W, .int .i64 C, .slice A n c], .agg #[x0, x1, x2, .int .i64 K, .int .i64 S, .int .i64 P, .int .i64 O, .int .i8 Z, x8, .slice WA nW cW, .slice BA nB cB, x11, x12, x13, x14, x15, x16, x17, x18]] w (MadeA w 0 0 0 0 [] (.int .i64 2))) := by
  cases ht : tensB H W C n
  · exact ⟨0, 0, 0, 0, [], 5, rfl, by omega, fun w _ _ _ => refOf_bad H W C A n c x0 x1 x2 x8 x11 x12 x13 x14 x15 x16 x17 x18 K S P O Z WA BA nW cW nB cB ht w, fun _ w _ _ _ => lof_bad H W C A n c x0 x1 x2 x8 x11 x12 x13 x14 x15 x16 x17 x18 K S P O Z WA BA nW cW nB cB ht w, fun h => by omega⟩
  · by_cases he : convE H W C K S P O nW nB = 0
    · obtain ⟨hsl, hnW, hn16, hnB⟩ := convE_ok he
      obtain ⟨hs0, har1, har2, -, -, hsr⟩ := slide_ok hsl
      obtain ⟨q1, q2, q3, q4, q5, q6, q7⟩ := shapeB_yes hsr
      obtain ⟨-, -, -, -, c1, c2, -⟩ := shapeB_yes hs0
      obtain ⟨-, -, k1, k2, -⟩ := argsB_yes har1
      obtain ⟨a, ha⟩ : ∃ a : Nat, stepsM H K S P = (a : Int) := ⟨(stepsM H K S P).toNat, by omega⟩
      obtain ⟨b, hb⟩ : ∃ b : Nat, stepsM W K S P = (b : Int) := ⟨(stepsM W K S P).toNat, by omega⟩
      obtain ⟨oo, hO⟩ : ∃ oo : Nat, O = (oo : Int) := ⟨O.toNat, by omega⟩
      obtain ⟨d, hd⟩ : ∃ d : Nat, C = (d : Int) := ⟨C.toNat, by omega⟩
      obtain ⟨kk, hk⟩ : ∃ kk : Nat, K = (kk : Int) := ⟨K.toNat, by omega⟩
      have hN : ((a * b * oo : Nat) : Int) ≤ 1024 := by
        have : ((a * b * oo : Nat) : Int) = stepsM H K S P * stepsM W K S P * O := by rw [ha, hb, hO]; simp
        omega
      refine ⟨a, b, O, a * b * oo, rowL (gridF b oo (sumF zs ws bs H W C S P d kk Z)) (a * b * oo), 0, rowL_len _ _, by omega, fun w hr hrw hrb => ?_, fun hf w hr hrw hrb => ?_, fun hf w hr hrw hrb => ?_⟩
      · exact refOf_yes H W C A zs n c hn ht hz x0 x1 x2 x8 x11 x12 x13 x14 x15 x16 x17 x18 K S P O Z WA BA nW cW nB cB ws hws hwc hwb bs hbs hb32 he a b oo d kk ha hb hO hd hk _ rfl z1 z2 w hr hrw hrb
      · have hf2 : (decide (K = 3) && decide (S = 1)) = true := by
          cases h : (decide (K = 3) && decide (S = 1))
          · exact absurd ⟨rfl, h⟩ hf
          · rfl
        simp only [Bool.and_eq_true, decide_eq_true_eq] at hf2
        obtain rfl : kk = 3 := by omega
        exact lof_yes H W C A zs n c hn ht hz x0 x1 x2 x8 x11 x12 x13 x14 x15 x16 x17 x18 K S P O Z WA BA nW cW nB cB ws hws hwc hwm hwb bs hbs he hf2.1 hf2.2 a b oo d ha hb hO hd _ rfl z1 z2 w hr hrw hrb
      · exact lof_arg H W C A n c x0 x1 x2 x8 x11 x12 x13 x14 x15 x16 x17 x18 K S P O Z WA BA nW cW nB cB ht he hf.2 w
    · exact ⟨0, 0, 0, 0, [], _, rfl, by omega, fun w _ _ _ => refOf_err H W C A n c x0 x1 x2 x8 x11 x12 x13 x14 x15 x16 x17 x18 K S P O Z WA BA nW cW nB cB ht _ rfl he w, fun _ w _ _ _ => lof_err H W C A n c x0 x1 x2 x8 x11 x12 x13 x14 x15 x16 x17 x18 K S P O Z WA BA nW cW nB cB ht _ rfl he w, fun h => absurd h.1 he⟩
theorem load_mid_g {P : Program} {ops : Array Oper} {rest : List Oper} {op : Oper} {a : Act} {w : World} {Q : Exit → Act → World → Prop} (hw : Region.wanted op (yielded ops a.tmps) = true) (ty : TypeId) (x : Operand) (ho : op.op = .load ty x)
    (b o : Nat) (hx : a.eval x = .pointer (some ⟨b, o, none⟩)) (cs : List Value) (d : TypeDesc) (hc : w.rangeAt b o cs)
    (hu : P.underlying ty = some d) (hd : d.isRow = true) (hi : (P.info? ty).map (·.size) = some cs.length)
    (h : wpList P ops Q rest (a.put op.dst (.agg cs.toArray)) w) : wpList P ops Q (op :: rest) a w :=
  wpList_step fun K hK => by rw [if_pos hw]; exact wp_load_mid ty x ho b o hx cs d hc hu hd hi (hK _ _ h)
theorem lof_known (g0 g1 g2 : Nat) (w : World) (r1 : Kit.Rd w w.heap.size (some ⟨g0, 0, none⟩) (I8s [3])) (r2 : Kit.Rd w w.heap.size (some ⟨g1, 0, none⟩) (I8s [0, 0, 0, 0, 2, 0, 0, 0, 0])) (r3 : Kit.Rd w w.heap.size (some ⟨g2, 0, none⟩) (I32v [5])) :
    Calls Try.prog 7 #[.agg #[.int .i64 1, .int .i64 1, .int .i64 1, .slice (some ⟨g0, 0, none⟩) 1 1], .agg #[.int .i64 0, .int .i64 0, .int .i64 0, .int .i64 3, .int .i64 1, .int .i64 1, .int .i64 1, .int .i8 0, .int .i8 0, .slice (some ⟨g1, 0, none⟩) 9 9, .slice (some ⟨g2, 0, none⟩) 1 1, .int .i32 0, .int .i64 0, .int .i8 0, .int .i32 0, .int .i64 0, .int .i8 0, .int .i8 0, .int .i8 0]] w (MadeA w 1 1 1 1 [11] (.int .i64 0)) := by
  have hz : I8b [3] := fun q => by rcases q with _ | q <;> simp
  have hw : I8b [0, 0, 0, 0, 2, 0, 0, 0, 0] := fun q => by rcases q with _ | _ | _ | _ | _ | _ | _ | _ | _ | q <;> simp
  have h11 : rowL (gridF 1 1 (sumF [3] [0, 0, 0, 0, 2, 0, 0, 0, 0] [5] 1 1 1 1 1 1 3 0)) 1 = [11] := by
    simp [rowL, gridF, sumF, winF, rowF, placeF, termF, psum, IntKind.wrap_i32]
  have h := lof_yes 1 1 1 (some ⟨g0, 0, none⟩) [3] 1 1 rfl (by decide) hz (.int .i64 0) (.int .i64 0) (.int .i64 0) (.int .i8 0) (.int .i32 0) (.int .i64 0) (.int .i8 0) (.int .i32 0) (.int .i64 0) (.int .i8 0) (.int .i8 0) (.int .i8 0) 3 1 1 1 0 (some ⟨g1, 0, none⟩) (some ⟨g2, 0, none⟩) 9 9 1 1 [0, 0, 0, 0, 2, 0, 0, 0, 0] rfl (Nat.le_refl _) (by unfold maxLen; omega) hw [5] rfl (by decide) rfl rfl 1 1 1 1 (by decide) (by decide) rfl rfl 1 rfl (by omega) (by omega) w r1 r2 r3
  rw [h11] at h
  exact h
set_option maxRecDepth 100000 in
set_option maxHeartbeats 4000000 in
theorem known16 (w : World) : Calls Try.prog 6 #[] w fun e w' => e = .returned (.bool true) ∧ Below w.heap.size w w' := by
  have hz : I8b [3] := fun q => by rcases q with _ | q <;> simp
  have hw : I8b [0, 0, 0, 0, 2, 0, 0, 0, 0] := fun q => by rcases q with _ | _ | _ | _ | _ | _ | _ | _ | _ | q <;> simp
  have he : convE 1 1 1 3 1 1 1 9 1 = 0 := by decide
  have ht : tensB 1 1 1 1 = true := by decide
  have h11 : I32v (rowL (gridF 1 1 (sumF [3] [0, 0, 0, 0, 2, 0, 0, 0, 0] [5] 1 1 1 1 1 1 3 0)) 1) = [.int .i32 11] := by
    simp [I32v, rowL, gridF, sumF, winF, rowF, placeF, termF, psum, IntKind.wrap_i32]
  have HZ := Lib.hid hz
  have HW := Lib.hid hw
  have HE := Lib.hid he
  have HT := Lib.hid ht
  have H11 := Lib.hid h11
  clear hz hw he ht h11
  go_enter Try.func6, Try.ntmps6
  go_upto_region 1 with fail
  have hw9 : Kit.Rd ((w.alloc (.cells #[.int .i8 0, .int .i8 0, .int .i8 0, .int .i8 0, .int .i8 2, .int .i8 0, .int .i8 0, .int .i8 0, .int .i8 0] 27)).alloc (.cells #[.int .i32 5] 21)) (w.heap.size + 2) (some ⟨w.heap.size, 0, none⟩) (I8s [0, 0, 0, 0, 2, 0, 0, 0, 0]) := ((Kit.Rd.new w [.int .i8 0, .int .i8 0, .int .i8 0, .int .i8 0, .int .i8 2, .int .i8 0, .int .i8 0, .int .i8 0, .int .i8 0] 27 (Nat.lt_succ_self _)).alloc (by simp) _).more (by omega)
  have hb1 : Kit.Rd ((w.alloc (.cells #[.int .i8 0, .int .i8 0, .int .i8 0, .int .i8 0, .int .i8 2, .int .i8 0, .int .i8 0, .int .i8 0, .int .i8 0] 27)).alloc (.cells #[.int .i32 5] 21)) (w.heap.size + 2) (some ⟨w.heap.size + 1, 0, none⟩) (I32v [5]) := by
    have h := Kit.Rd.new (w.alloc (.cells #[.int .i8 0, .int .i8 0, .int .i8 0, .int .i8 0, .int .i8 2, .int .i8 0, .int .i8 0, .int .i8 0, .int .i8 0] 27)) [.int .i32 5] 21 (B := w.heap.size + 2) (by simp)
    rw [World.size_alloc] at h
    exact h
  have hB2 : Below w.heap.size w ((w.alloc (.cells #[.int .i8 0, .int .i8 0, .int .i8 0, .int .i8 0, .int .i8 2, .int .i8 0, .int .i8 0, .int .i8 0, .int .i8 0] 27)).alloc (.cells #[.int .i32 5] 21)) := ((Below.refl _ _).alloc (Nat.le_refl _) _).alloc (by simp) _
  have hsz : ((w.alloc (.cells #[.int .i8 0, .int .i8 0, .int .i8 0, .int .i8 0, .int .i8 2, .int .i8 0, .int .i8 0, .int .i8 0, .int .i8 0] 27)).alloc (.cells #[.int .i32 5] 21)).heap.size = w.heap.size + 2 := by simp
  have hth := Kit.there_new ((w.alloc (.cells #[.int .i8 0, .int .i8 0, .int .i8 0, .int .i8 0, .int .i8 2, .int .i8 0, .int .i8 0, .int .i8 0, .int .i8 0] 27)).alloc (.cells #[.int .i32 5] 21)) (cs := #[.int .i64 0, .int .i64 0, .int .i64 0, .int .i64 0, .int .i64 0, .int .i64 0, .int .i64 0, .int .i8 0, .int .i8 0, .slice none 0 0, .slice none 0 0, .int .i32 0, .int .i64 0, .int .i8 0, .int .i32 0, .int .i64 0, .int .i8 0, .int .i8 0, .int .i8 0]) 32 (n := 19) rfl
  have e9 : ((w.alloc (.cells #[.int .i8 0, .int .i8 0, .int .i8 0, .int .i8 0, .int .i8 2, .int .i8 0, .int .i8 0, .int .i8 0, .int .i8 0] 27)).alloc (.cells #[.int .i32 5] 21)).heap.size = w.heap.size + 1 + 1 := by simp
  rw [e9] at hth
  have HTH := Lib.hid hth
  clear hth
  go_upto_region 2 with (refine wpList_store_mid rfl 32 (.tmp 1) (.tmp 6) rfl (w.heap.size + 1 + 1) 0 #[.int .i64 0, .int .i64 0, .int .i64 0, .int .i64 3, .int .i64 1, .int .i64 1, .int .i64 1, .int .i8 0, .int .i8 0, .slice (some ⟨w.heap.size, 0, none⟩) 9 9, .slice (some ⟨w.heap.size + 1, 0, none⟩) 1 1, .int .i32 0, .int .i64 0, .int .i8 0, .int .i32 0, .int .i64 0, .int .i8 0, .int .i8 0, .int .i8 0] rfl rfl HTH.out (by kernel_rfl) (all_oneCell_toArray (cs := [.int .i64 0, .int .i64 0, .int .i64 0, .int .i64 3, .int .i64 1, .int .i64 1, .int .i64 1, .int .i8 0, .int .i8 0, .slice (some ⟨w.heap.size, 0, none⟩) 9 9, .slice (some ⟨w.heap.size + 1, 0, none⟩) 1 1, .int .i32 0, .int .i64 0, .int .i8 0, .int .i32 0, .int .i64 0, .int .i8 0, .int .i8 0, .int .i8 0]) (by simp [Value.oneCell'])) ?_)
  have TN := Lib.hid (NodeAt.stored HTH.out (.int .i64 0) (.int .i64 0) (.int .i64 0) (.int .i8 0) (.int .i32 0) (.int .i64 0) (.int .i8 0) (.int .i32 0) (.int .i64 0) (.int .i8 0) (.int .i8 0) (.int .i8 0) 3 1 1 1 0 (some ⟨w.heap.size, 0, none⟩) (some ⟨w.heap.size + 1, 0, none⟩) 9 9 1 1)
  have hB3 : Below (w.heap.size + 1 + 1) ((w.alloc (.cells #[.int .i8 0, .int .i8 0, .int .i8 0, .int .i8 0, .int .i8 2, .int .i8 0, .int .i8 0, .int .i8 0, .int .i8 0] 27)).alloc (.cells #[.int .i32 5] 21)) ((((w.alloc (.cells #[.int .i8 0, .int .i8 0, .int .i8 0, .int .i8 0, .int .i8 2, .int .i8 0, .int .i8 0, .int .i8 0, .int .i8 0] 27)).alloc (.cells #[.int .i32 5] 21)).alloc (.cells #[.int .i64 0, .int .i64 0, .int .i64 0, .int .i64 0, .int .i64 0, .int .i64 0, .int .i64 0, .int .i8 0, .int .i8 0, .slice none 0 0, .slice none 0 0, .int .i32 0, .int .i64 0, .int .i8 0, .int .i32 0, .int .i64 0, .int .i8 0, .int .i8 0, .int .i8 0] 32)).setCells (w.heap.size + 1 + 1) 0 [.int .i64 0, .int .i64 0, .int .i64 0, .int .i64 3, .int .i64 1, .int .i64 1, .int .i64 1, .int .i8 0, .int .i8 0, .slice (some ⟨w.heap.size, 0, none⟩) 9 9, .slice (some ⟨w.heap.size + 1, 0, none⟩) 1 1, .int .i32 0, .int .i64 0, .int .i8 0, .int .i32 0, .int .i64 0, .int .i8 0, .int .i8 0, .int .i8 0]) := Kit.below_cells (Nat.le_refl _) _ _ _ ((Below.refl _ _).alloc (by rw [e9]; exact Nat.le_refl _) _)
  have yTN : w.heap.size + 1 + 1 < ((((w.alloc (.cells #[.int .i8 0, .int .i8 0, .int .i8 0, .int .i8 0, .int .i8 2, .int .i8 0, .int .i8 0, .int .i8 0, .int .i8 0] 27)).alloc (.cells #[.int .i32 5] 21)).alloc (.cells #[.int .i64 0, .int .i64 0, .int .i64 0, .int .i64 0, .int .i64 0, .int .i64 0, .int .i64 0, .int .i8 0, .int .i8 0, .slice none 0 0, .slice none 0 0, .int .i32 0, .int .i64 0, .int .i8 0, .int .i32 0, .int .i64 0, .int .i8 0, .int .i8 0, .int .i8 0] 32)).setCells (w.heap.size + 1 + 1) 0 [.int .i64 0, .int .i64 0, .int .i64 0, .int .i64 3, .int .i64 1, .int .i64 1, .int .i64 1, .int .i8 0, .int .i8 0, .slice (some ⟨w.heap.size, 0, none⟩) 9 9, .slice (some ⟨w.heap.size + 1, 0, none⟩) 1 1, .int .i32 0, .int .i64 0, .int .i8 0, .int .i32 0, .int .i64 0, .int .i8 0, .int .i8 0, .int .i8 0]).heap.size := by rw [Kit.size_cells]; simp
  have hw2 := hw9.below hB3
  have hb2 := hb1.below hB3
  have hB4 := hB2.trans (hB3.mono (by omega))
  clear hB3 hB2 hw9 hb1 HTH
  generalize hwn : ((((w.alloc (.cells #[.int .i8 0, .int .i8 0, .int .i8 0, .int .i8 0, .int .i8 2, .int .i8 0, .int .i8 0, .int .i8 0, .int .i8 0] 27)).alloc (.cells #[.int .i32 5] 21)).alloc (.cells #[.int .i64 0, .int .i64 0, .int .i64 0, .int .i64 0, .int .i64 0, .int .i64 0, .int .i64 0, .int .i8 0, .int .i8 0, .slice none 0 0, .slice none 0 0, .int .i32 0, .int .i64 0, .int .i8 0, .int .i32 0, .int .i64 0, .int .i8 0, .int .i8 0, .int .i8 0] 32)).setCells (w.heap.size + 1 + 1) 0 [.int .i64 0, .int .i64 0, .int .i64 0, .int .i64 3, .int .i64 1, .int .i64 1, .int .i64 1, .int .i8 0, .int .i8 0, .slice (some ⟨w.heap.size, 0, none⟩) 9 9, .slice (some ⟨w.heap.size + 1, 0, none⟩) 1 1, .int .i32 0, .int .i64 0, .int .i8 0, .int .i32 0, .int .i64 0, .int .i8 0, .int .i8 0, .int .i8 0]) = w3 at TN yTN hw2 hb2 hB4 ⊢
  clear hwn
  clear e9 hsz
  generalize hgN : w.heap.size + 1 + 1 = gN at TN yTN ⊢
  have hsz : w.heap.size + 2 ≤ gN := by omega
  clear hgN
  have HW2 := Lib.hid hw2
  have HB2 := Lib.hid hb2
  have HB4 := Lib.hid hB4
  clear hw2 hb2 hB4
  have hal : Below w3.heap.size w3 (w3.alloc (.cells #[.int .i8 3] 27)) := (Below.refl w3.heap.size w3).alloc (Nat.le_refl _) _
  have r1 : Kit.Rd (w3.alloc (.cells #[.int .i8 3] 27)) (w3.alloc (.cells #[.int .i8 3] 27)).heap.size (some ⟨w3.heap.size, 0, none⟩) (I8s [3]) := (Kit.Rd.new w3 [.int .i8 3] 27 (Nat.lt_succ_self _)).more (by simp)
  have r2 := (HW2.out.below (hal.mono (by omega))).more (B' := (w3.alloc (.cells #[.int .i8 3] 27)).heap.size) (by simp; omega)
  have r3 := (HB2.out.below (hal.mono (by omega))).more (B' := (w3.alloc (.cells #[.int .i8 3] 27)).heap.size) (by simp; omega)
  have hlof := lof_known w3.heap.size w.heap.size (w.heap.size + 1) _ r1 r2 r3
  have HLOF := Lib.hid hlof
  have HAL := Lib.hid hal
  clear r1 r2 r3 hlof hal
  go_upto_region 3 with (first
    | (refine wpList_load_mid rfl 32 (.tmp 1) rfl gN 0 rfl [.int .i64 0, .int .i64 0, .int .i64 0, .int .i64 3, .int .i64 1, .int .i64 1, .int .i64 1, .int .i8 0, .int .i8 0, .slice (some ⟨w.heap.size, 0, none⟩) 9 9, .slice (some ⟨w.heap.size + 1, 0, none⟩) 1 1, .int .i32 0, .int .i64 0, .int .i8 0, .int .i32 0, .int .i64 0, .int .i8 0, .int .i8 0, .int .i8 0] _ (TN.out.below yTN ((Below.refl _ _).alloc (Nat.le_refl _) _)) Try.underlying32 rfl (by kernel_rfl) ?_)
    | (go_at_call 7; have hal := HAL.out; refine HLOF.out.mono ?_; rintro e w4 ⟨v1, rfl, ho1, hb1⟩; obtain ⟨g1, c1, rfl, hgb, hc1, hcm, -⟩ := Kit.own_form ho1 (by omega); have k0 : w4.cell? ⟨g1, 0, none⟩ = some (.int .i32 11) := (by rw [ho1.cellAt 0 (by omega)]; rfl); have hgs := Kit.block_lt_of_own ho1; replace TN := Lib.hid ((TN.out.below yTN hal).below (B' := (w3.alloc (.cells #[.int .i8 3] 27)).heap.size) (by simp; omega) hb1); replace yTN : gN < w4.heap.size := (by have := hb1.size; simp at this; omega); replace HB4 := Lib.hid ((HB4.out.trans (hal.mono HB4.out.size)).trans (hb1.mono (by have := HB4.out.size; simp; omega))); clear ho1 hb1 hal))
  go_wp2_with (first
    | (refine load_mid_g (by rfl) 32 (.tmp 1) rfl gN 0 rfl [.int .i64 0, .int .i64 0, .int .i64 0, .int .i64 3, .int .i64 1, .int .i64 1, .int .i64 1, .int .i8 0, .int .i8 0, .slice (some ⟨w.heap.size, 0, none⟩) 9 9, .slice (some ⟨w.heap.size + 1, 0, none⟩) 1 1, .int .i32 0, .int .i64 0, .int .i8 0, .int .i32 0, .int .i64 0, .int .i8 0, .int .i8 0, .int .i8 0] _ (TN.out.below yTN ((Below.refl _ _).alloc (Nat.le_refl _) _)) Try.underlying32 rfl (by kernel_rfl) ?_)
    | (go_at_call 15; refine (fits_to _ _ _ _ _ _ _ _ _ _ _ _ _ _ _ _ _ _ _ _ _ _ _ _ rfl _).mono ?_; rintro e w5 ⟨rfl, hb5⟩; have HB5 : Hid (Below w.heap.size w w5) := Lib.hid (by first | exact HB5.out.trans (hb5.mono HB5.out.size) | exact (HB4.out.alloc HB4.out.size _).trans (hb5.mono (by have := HB4.out.size; first | (simp; done) | (simp; omega)))); clear hb5))
  go_ret
  exact ⟨rfl, HB5.out⟩
end Go.Proofs.Ytceejjliboiciaa.CLane
