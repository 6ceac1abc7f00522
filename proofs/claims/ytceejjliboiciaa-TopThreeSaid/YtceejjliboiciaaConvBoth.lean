/- Layer 10: what conv makes, and the document beside it; likeness; the fixed call. -/
import Derived.Test.YtceejjliboiciaaConvRef
import Derived.Test.YtceejjliboiciaaTensorSame
namespace Go.Proofs.Ytceejjliboiciaa.CConv
open Go Go.ChangeShapes Go.WideShapes Go.ChangeAt Go.RowKit
open Plain CSat CShape CTensor
set_option linter.unusedVariables false

theorem fsame32_yes (A B : Option Addr) (zs : List Int) (n c d : Nat) (hn : n = zs.length) (hl : n ≤ 1000000) (w : World) {B1 B2 : Nat} (ha : Kit.Rd w B1 A (zs.map (.int .i32))) (hb : Kit.Rd w B2 B (zs.map (.int .i32))) :
    Calls Try.prog 30 #[.slice A n c, .slice B n d] w fun e w' => e = .returned (.bool true) ∧ ∃ m, w' = w.drewN m := by
  subst hn
  have HA := Lib.hid ha
  have HB := Lib.hid hb
  clear ha hb
  go_enter Try.func30, Try.ntmps30
  go_wp2_with fail
  go_loopw [5] (fun i wr => ∃ k nq : Nat, k ≤ zs.length ∧ i = .int .i64 k ∧ Hid (wr = w.drewN nq)) (fun i _ => zs.length - (intOf i).toNat)
  case atStart => exact ⟨0, 0, Nat.zero_le _, rfl, Lib.hid rfl⟩
  case round =>
    obtain ⟨k, nq, hk, rfl, hw⟩ := hrel
    obtain rfl := hw.out
    clear hw
    by_cases hlt : k < zs.length
    · obtain ⟨b, off, rfl, _, hx⟩ := HA.out.ints hlt
      obtain ⟨b2, off2, rfl, _, hy⟩ := HB.out.ints hlt
      generalize zs[k] = x at hx hy
      have h0 : (0 : Int) ≤ (k : Int) := by omega
      have h1 : (k : Int) < (zs.length : Int) := by omega
      go_wp2_with fail
      go_quiet (fail)
      go_wp2
      go_roundw
      case rel => exact ⟨k + 1, _, by omega, by go_num, Lib.hid rfl⟩
      case measure => simp [intOf]; omega
    · go_wp2_with fail
      go_ret
      exact ⟨rfl, nq, rfl⟩


theorem sameA_to (H W C : Int) (A B : Option Addr) (xs : List Int) (n c d : Nat) (hx : xs.length = n) (hl : n ≤ 1000000) (w : World) {B1 B2 : Nat} (h1 : B1 ≤ w.heap.size) (h2 : B2 ≤ w.heap.size) (ha : Kit.Rd w B1 A (I32v xs)) (hb : Kit.Rd w B2 B (I32v xs)) :
    Calls Try.prog 14 #[.agg #[.int .i64 H, .int .i64 W, .int .i64 C, .slice A n c], .agg #[.int .i64 H, .int .i64 W, .int .i64 C, .slice B n d]] w fun e w' => e = .returned (.bool true) ∧ Below w.heap.size w w' := by
  have HA := Lib.hid ha
  have HB := Lib.hid hb
  have HX := Lib.hid hx
  clear ha hb hx
  have HE := eqShape H W C H W C
  have hg := Try.eqGuardType23
  go_enter Try.func14, Try.ntmps14
  go_wp2_with (go_at_call 30; ((refine (fsame32_yes A B xs n c d HX.out.symm hl _ ((HA.out.alloc h1 _).alloc (by simp; omega) _) ((HB.out.alloc h2 _).alloc (by simp; omega) _)).mono ?_); (rintro e w3 ⟨rfl, m, rfl⟩)))
  go_ret
  exact ⟨rfl, Kit.below_drewN (((Below.refl _ _).alloc (Nat.le_refl _) _).alloc (by simp) _) m⟩
theorem few_yes (H W C : Int) (A : Option Addr) (n c : Nat) (x0 x1 x2 x8 x11 x12 x13 x14 x15 x16 x17 x18 : Value) (K S P O Z : Int) (WA BA : Option Addr) (nW cW nB cB : Nat) (h1 : n ≤ 1024) (h2 : nW ≤ 2000) (h3 : nB ≤ 200) (w : World) :
    Calls Try.prog 5 #[.agg #[.int .i64 H, .int .i64 W, .int .i64 C, .slice A n c], .agg #[x0, x1, x2, .int .i64 K, .int .i64 S, .int .i64 P, .int .i64 O, .int .i8 Z, x8, .slice WA nW cW, .slice BA nB cB, x11, x12, x13, x14, x15, x16, x17, x18]] w fun e w' => e = .returned (.bool true) ∧ Below w.heap.size w w' := by
  have i1 : (n : Int) ≤ 1024 := by omega
  have i2 : (nW : Int) ≤ 2000 := by omega
  have i3 : (nB : Int) ≤ 200 := by omega
  go_enter Try.func5, Try.ntmps5
  go_wp2_with fail
  go_ret
  exact ⟨rfl, ((Below.refl _ _).alloc (Nat.le_refl _) _).alloc (by simp) _⟩
theorem few_no (H W C : Int) (A : Option Addr) (n c : Nat) (x0 x1 x2 x8 x11 x12 x13 x14 x15 x16 x17 x18 : Value) (K S P O Z : Int) (WA BA : Option Addr) (nW cW nB cB : Nat) (h : ¬ (n ≤ 1024 ∧ nW ≤ 2000 ∧ nB ≤ 200)) (w : World) :
    Calls Try.prog 5 #[.agg #[.int .i64 H, .int .i64 W, .int .i64 C, .slice A n c], .agg #[x0, x1, x2, .int .i64 K, .int .i64 S, .int .i64 P, .int .i64 O, .int .i8 Z, x8, .slice WA nW cW, .slice BA nB cB, x11, x12, x13, x14, x15, x16, x17, x18]] w fun e w' => e = .returned (.bool false) ∧ Below w.heap.size w w' := by
  rcases (show (1024 : Int) < n ∨ ((n : Int) ≤ 1024 ∧ (2000 : Int) < nW) ∨ ((n : Int) ≤ 1024 ∧ (nW : Int) ≤ 2000 ∧ (200 : Int) < nB) by omega) with i1 | ⟨i1, i2⟩ | ⟨i1, i2, i3⟩
  all_goals
    clear h
    go_enter Try.func5, Try.ntmps5
    go_wp2_with fail
    go_ret
    exact ⟨by first | rfl | exact congrArg (fun b => Ending.returned (Value.bool b)) (decide_eq_false (by omega)), ((Below.refl _ _).alloc (Nat.le_refl _) _).alloc (by simp) _⟩
theorem convS_three (H W C K S P O : Int) (nW nB : Nat) : ∃ s1 s2 s3 : Int, convS H W C K S P O nW nB = #[.int .i64 s1, .int .i64 s2, .int .i64 s3] := by
  unfold convS
  split
  · exact ⟨_, _, _, rfl⟩
  · exact ⟨_, _, _, rfl⟩
theorem of_both (H W C : Int) (A : Option Addr) (zs : List Int) (n c : Nat) (hn : zs.length = n) (hz : I8b zs) (x0 x1 x2 x8 x11 x12 x13 x14 x15 x16 x17 x18 : Value) (K S P O Z : Int) (WA BA : Option Addr) (nW cW nB cB : Nat) (ws : List Int) (hws : ws.length = nW) (hwc : nW ≤ cW) (hwb : I8b ws) (bs : List Int) (hbs : bs.length = nB) (hb32 : ∀ q, -2147483648 ≤ bs.getD q 0 ∧ bs.getD q 0 ≤ 2147483647) (z1 : -128 ≤ Z) (z2 : Z ≤ 127) :
    ∃ (X Y U : Int) (m : Nat) (xs : List Int) (er : Int), xs.length = m ∧ m ≤ 1000000 ∧
      (∀ (w : World), Kit.Rd w w.heap.size A (I8s zs) → Kit.Rd w w.heap.size WA (I8s ws) → Kit.Rd w w.heap.size BA (I32v bs) → Calls Try.prog 12 #[.agg #[.int .i64 H, .int .i64 W, .int .i64 C, .slice A n c], .agg #[x0, x1, x2, .int .i64 K, .int .i64 S, .int .i64 P, .int .i64 O, .int .i8 Z, x8, .slice WA nW cW, .slice BA nB cB, x11, x12, x13, x14, x15, x16, x17, x18]] w (MadeA w X Y U m xs (.int .i64 er))) ∧
      (∀ (w : World), Kit.Rd w w.heap.size A (I8s zs) → Kit.Rd w w.heap.size WA (I8s ws) → Kit.Rd w w.heap.size BA (I32v bs) → Calls Try.prog 8 #[.agg #[.int .i64 H, .int .i64 W, .int .i64 C, .slice A n c], .agg #[x0, x1, x2, .int .i64 K, .int .i64 S, .int .i64 P, .int .i64 O, .int .i8 Z, x8, .slice WA nW cW, .slice BA nB cB, x11, x12, x13, x14, x15, x16, x17, x18]] w (MadeA w X Y U m xs (.int .i64 er))) := by
  cases ht : tensB H W C n
  · exact ⟨0, 0, 0, 0, [], 5, rfl, by omega, fun w _ _ _ => of_bad H W C A n c x0 x1 x2 x8 x11 x12 x13 x14 x15 x16 x17 x18 K S P O Z WA BA nW cW nB cB ht w, fun w _ _ _ => refOf_bad H W C A n c x0 x1 x2 x8 x11 x12 x13 x14 x15 x16 x17 x18 K S P O Z WA BA nW cW nB cB ht w⟩
  · by_cases he : convE H W C K S P O nW nB = 0
    · obtain ⟨hsl, hnW, hn16, hnB⟩ := convE_ok he
      obtain ⟨hs0, har1, har2, -, -, hsr⟩ := slide_ok hsl
      obtain ⟨q1, q2, q3, q4, q5, q6, q7⟩ := shapeB_yes hsr
      obtain ⟨-, -, -, -, c1, c2, -⟩ := shapeB_yes hs0
      obtain ⟨-, -, k1, k2, -⟩ := argsB_yes har1
      obtain ⟨a, ha⟩ : ∃ a : Nat, stepsM H K S P = (a : Int) := ⟨(stepsM H K S P).toNat, by omega⟩
      obtain ⟨b, hb⟩ : ∃ b : Nat, stepsM W K S P = (b : Int) := ⟨(stepsM W K S P).toNat, by omega⟩
      obtain ⟨oo, hO⟩ : ∃ oo : Nat, O = (oo : Int) := ⟨O.toNat, by omega⟩
      obtain ⟨d, hd⟩ : ∃ d : Nat, C = (d : Int) := ⟨C.toNat, by omega⟩
      obtain ⟨kk, hk⟩ : ∃ kk : Nat, K = (kk : Int) := ⟨K.toNat, by omega⟩
      have hN : ((a * b * oo : Nat) : Int) ≤ 1024 := by
        have : ((a * b * oo : Nat) : Int) = stepsM H K S P * stepsM W K S P * O := by rw [ha, hb, hO]; simp
        omega
      refine ⟨a, b, O, a * b * oo, rowL (gridF b oo (sumF zs ws bs H W C S P d kk Z)) (a * b * oo), 0, rowL_len _ _, by omega, fun w hr hrw hrb => ?_, fun w hr hrw hrb => ?_⟩
      · exact of_yes H W C A zs n c hn ht hz x0 x1 x2 x8 x11 x12 x13 x14 x15 x16 x17 x18 K S P O Z WA BA nW cW nB cB ws hws hwc hwb bs hbs he a b oo d kk ha hb hO hd hk _ rfl z1 z2 w hr hrw hrb
      · exact refOf_yes H W C A zs n c hn ht hz x0 x1 x2 x8 x11 x12 x13 x14 x15 x16 x17 x18 K S P O Z WA BA nW cW nB cB ws hws hwc hwb bs hbs hb32 he a b oo d kk ha hb hO hd hk _ rfl z1 z2 w hr hrw hrb
    · exact ⟨0, 0, 0, 0, [], _, rfl, by omega, fun w _ _ _ => of_err H W C A n c x0 x1 x2 x8 x11 x12 x13 x14 x15 x16 x17 x18 K S P O Z WA BA nW cW nB cB ht _ rfl he w, fun w _ _ _ => refOf_err H W C A n c x0 x1 x2 x8 x11 x12 x13 x14 x15 x16 x17 x18 K S P O Z WA BA nW cW nB cB ht _ rfl he w⟩
theorem I8b_of {zs : List Int} (h : ∀ n ∈ zs, (Lit.int .i8 n).wf = true) : I8b zs := fun q => by
  rw [List.getD_eq_getElem?_getD]
  cases hq : zs[q]? with
  | none => simp
  | some x =>
    have hx := h x (List.mem_of_getElem? hq)
    have ⟨a, b⟩ : -128 ≤ x ∧ x ≤ 127 := by simpa [Lit.wf, IntKind.min, IntKind.max, IntKind.signed, IntKind.bits] using hx
    exact ⟨a, b⟩
theorem I32b_of {zs : List Int} (h : ∀ n ∈ zs, (Lit.int .i32 n).wf = true) : ∀ q, -2147483648 ≤ zs.getD q 0 ∧ zs.getD q 0 ≤ 2147483647 := fun q => by
  rw [List.getD_eq_getElem?_getD]
  cases hq : zs[q]? with
  | none => simp
  | some x =>
    have hx := h x (List.mem_of_getElem? hq)
    have ⟨a, b⟩ : -2147483648 ≤ x ∧ x ≤ 2147483647 := by simpa [Lit.wf, IntKind.min, IntKind.max, IntKind.signed, IntKind.bits] using hx
    exact ⟨a, b⟩
end Go.Proofs.Ytceejjliboiciaa.CConv
