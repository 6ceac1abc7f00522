/- Layer 13 (lower): the program's sums and the document's, together. -/
import Derived.Test.YtoobpjdbdikbiaaLowerOf
import Derived.Test.YtoobpjdbdikbiaaLowerKnown
namespace Go.Proofs.Ytoobpjdbdikbiaa.CLower
open Go Go.ChangeShapes Go.WideShapes Go.ChangeAt Go.RowKit Go.Shelf Round
open Plain CSat CShape CTensor CConv
set_option linter.unusedVariables false

theorem lOf_good (H W C : Int) (A : Option Addr) (zs : List Int) (n c : Nat) (hn : zs.length = n) (ht : tensB H W C n = true) (hz : I8b zs) (x0 x1 x2 x8 x11 x12 x13 x14 x15 x16 x17 x18 : Value) (K S P O Z : Int) (WA BA : Option Addr) (nW cW nB cB : Nat) (ws : List Int) (hws : ws.length = nW) (hwc : nW ≤ cW) (hwm : cW ≤ maxLen) (hwb : I8b ws) (bs : List Int) (hbs : bs.length = nB)
    (he : convE H W C K S P O nW nB = 0) (a b oo d kk : Nat) (ha : stepsM H K S P = (a : Int)) (hb : stepsM W K S P = (b : Int)) (hO : O = (oo : Int)) (hd : C = (d : Int)) (hk : K = (kk : Int)) (N : Nat) (hN : a * b * oo = N) (z1 : -128 ≤ Z) (z2 : Z ≤ 127)
    (w : World) (hr : Kit.Rd w w.heap.size A (I8s zs)) (hrw : Kit.Rd w w.heap.size WA (I8s ws)) (hrb : Kit.Rd w w.heap.size BA (I32v bs)) :
    Calls Try.prog 12 #[.agg #[.int .i64 H, .int .i64 W, .int .i64 C, .slice A n c], .agg #[x0, x1, x2, .int .i64 K, .int .i64 S, .int .i64 P, .int .i64 O, .int .i8 Z, x8, .slice WA nW cW, .slice BA nB cB, x11, x12, x13, x14, x15, x16, x17, x18]] w (MadeA w (a : Int) (b : Int) O N (rowL (gridF b oo (sumF zs ws bs H W C S P d kk Z)) N) (.int .i64 0)) := by
  subst hO
  exact lOf_yes H W C A zs n c hn ht hz x0 x1 x2 x8 x11 x12 x13 x14 x15 x16 x17 x18 K S P Z WA BA nW cW nB cB ws hws hwc hwm hwb bs hbs oo he a b d kk ha hb hd hk N hN z1 z2 w hr hrw hrb
theorem lOf_both (H W C : Int) (A : Option Addr) (zs : List Int) (n c : Nat) (hn : zs.length = n) (hz : I8b zs) (x0 x1 x2 x8 x11 x12 x13 x14 x15 x16 x17 x18 : Value) (K S P O Z : Int) (WA BA : Option Addr) (nW cW nB cB : Nat) (ws : List Int) (hws : ws.length = nW) (hwc : nW ≤ cW) (hwm : cW ≤ maxLen) (hwb : I8b ws) (bs : List Int) (hbs : bs.length = nB) (hb32 : ∀ q, -2147483648 ≤ bs.getD q 0 ∧ bs.getD q 0 ≤ 2147483647) (z1 : -128 ≤ Z) (z2 : Z ≤ 127) :
    ∃ (X Y U : Int) (m : Nat) (xs : List Int) (er : Int), xs.length = m ∧ m ≤ 1000000 ∧
      (∀ (w : World), Kit.Rd w w.heap.size A (I8s zs) → Kit.Rd w w.heap.size WA (I8s ws) → Kit.Rd w w.heap.size BA (I32v bs) → Calls Try.prog 12 #[.agg #[.int .i64 H, .int .i64 W, .int .i64 C, .slice A n c], .agg #[x0, x1, x2, .int .i64 K, .int .i64 S, .int .i64 P, .int .i64 O, .int .i8 Z, x8, .slice WA nW cW, .slice BA nB cB, x11, x12, x13, x14, x15, x16, x17, x18]] w (MadeA w X Y U m xs (.int .i64 er))) ∧
      (∀ (w : World), Kit.Rd w w.heap.size A (I8s zs) → Kit.Rd w w.heap.size WA (I8s ws) → Kit.Rd w w.heap.size BA (I32v bs) → Calls Try.prog 10 #[.agg #[.int .i64 H, .int .i64 W, .int .i64 C, .slice A n c], .agg #[x0, x1, x2, .int .i64 K, .int .i64 S, .int .i64 P, .int .i64 O, .int .i8 Z, x8, .slice WA nW cW, .slice BA nB cB, x11, x12, x13, x14, x15, x16, x17, x18]] w (MadeA w X Y U m xs (.int .i64 er))) := by
  cases ht : tensB H W C n
  · exact ⟨0, 0, 0, 0, [], 5, rfl, by omega, fun w _ _ _ => lOf_bad H W C A n c x0 x1 x2 x8 x11 x12 x13 x14 x15 x16 x17 x18 K S P O Z WA BA nW cW nB cB ht w, fun w _ _ _ => refOf_bad H W C A n c x0 x1 x2 x8 x11 x12 x13 x14 x15 x16 x17 x18 K S P O Z WA BA nW cW nB cB ht w⟩
  · by_cases he : convE H W C K S P O nW nB = 0
    · obtain ⟨hsl, hnW, hn16, hnB⟩ := convE_ok he
      obtain ⟨hs0, har1, har2, -, -, hsr⟩ := slide_ok hsl
      obtain ⟨q1, q2, q3, q4, q5, q6, q7⟩ := shapeB_yes hsr
      obtain ⟨-, -, -, -, c1, c2, -⟩ := shapeB_yes hs0
      obtain ⟨-, -, k1, k2, -⟩ := argsB_yes har1
      obtain ⟨a, ha⟩ : ∃ a : Nat, stepsM H K S P = (a : Int) := ⟨(stepsM H K S P).toNat, by omega⟩
      obtain ⟨b, hb⟩ : ∃ b : Nat, stepsM W K S P = (b : Int) := ⟨(stepsM W K S P).toNat, by omega⟩
      obtain ⟨oo, hO⟩ : ∃ oo : Nat, O = (oo : Int) := ⟨O.toNat, by omega⟩
      obtain ⟨d, hd⟩ : ∃ d : Nat, C = (d : Int) := ⟨C.toNat, by omega⟩
      obtain ⟨kk, hk⟩ : ∃ kk : Nat, K = (kk : Int) := ⟨K.toNat, by omega⟩
      have hN : ((a * b * oo : Nat) : Int) ≤ 1024 := by
        have : ((a * b * oo : Nat) : Int) = stepsM H K S P * stepsM W K S P * O := by rw [ha, hb, hO]; simp
        omega
      refine ⟨a, b, O, a * b * oo, rowL (gridF b oo (sumF zs ws bs H W C S P d kk Z)) (a * b * oo), 0, rowL_len _ _, by omega, fun w hr hrw hrb => ?_, fun w hr hrw hrb => ?_⟩
      · exact lOf_good H W C A zs n c hn ht hz x0 x1 x2 x8 x11 x12 x13 x14 x15 x16 x17 x18 K S P O Z WA BA nW cW nB cB ws hws hwc hwm hwb bs hbs he a b oo d kk ha hb hO hd hk _ rfl z1 z2 w hr hrw hrb
      · exact refOf_yes H W C A zs n c hn ht hz x0 x1 x2 x8 x11 x12 x13 x14 x15 x16 x17 x18 K S P O Z WA BA nW cW nB cB ws hws hwc hwb bs hbs hb32 he a b oo d kk ha hb hO hd hk _ rfl z1 z2 w hr hrw hrb
    · exact ⟨0, 0, 0, 0, [], _, rfl, by omega, fun w _ _ _ => lOf_err H W C A n c x0 x1 x2 x8 x11 x12 x13 x14 x15 x16 x17 x18 K S P O Z WA BA nW cW nB cB ht _ rfl he w, fun w _ _ _ => refOf_err H W C A n c x0 x1 x2 x8 x11 x12 x13 x14 x15 x16 x17 x18 K S P O Z WA BA nW cW nB cB ht _ rfl he w⟩
end Go.Proofs.Ytoobpjdbdikbiaa.CLower
