/- Layer 10: what conv makes of a tensor without its first rows, beside what it makes of the whole. -/
import Derived.Test.YtmgaanojkkdabaaConvBoth
import Derived.Test.YtmgaanojkkdabaaConvShift
namespace Go.Proofs.Ytmgaanojkkdabaa.CConv
open Go Go.ChangeShapes Go.WideShapes Go.ChangeAt Go.RowKit
open Plain CSat CShape CTensor
set_option linter.unusedVariables false

theorem rowL_getD (F : Nat → Int) (m q : Nat) (h : q < m) : (rowL F m).getD q 0 = F q := by simp [rowL, List.getD_eq_getElem?_getD, h]
theorem line_lt {a L h i : Nat} (hh : h < a) (hi : i < L) : h * L + i < a * L := by
  have := Nat.mul_le_mul_right L (show h + 1 ≤ a from hh)
  rw [Nat.add_mul, Nat.one_mul] at this
  omega
theorem of_less (H W C : Int) (zs : List Int) (n : Nat) (hn : zs.length = n) (ht : tensB H W C n = true) (hz : I8b zs) (x0 x1 x2 x8 x11 x12 x13 x14 x15 x16 x17 x18 : Value) (K S P O Z : Int) (WA BA : Option Addr) (nW cW nB cB : Nat) (ws : List Int) (hws : ws.length = nW) (hwc : nW ≤ cW) (hwb : I8b ws) (bs : List Int) (hbs : bs.length = nB)
    (he : convE H W C K S P O nW nB = 0) (hSH : S < H) (a b oo d kk : Nat) (ha : stepsM H K S P = (a : Int)) (hb : stepsM W K S P = (b : Int)) (hO : O = (oo : Int)) (hd : C = (d : Int)) (hk : K = (kk : Int)) (N : Nat) (hN : a * b * oo = N) (z1 : -128 ≤ Z) (z2 : Z ≤ 127)
    (sn : Nat) (hsn : S * W * C = (sn : Int)) (F1 : Nat → Int) (hF1 : F1 = gridF b oo (sumF zs ws bs H W C S P d kk Z)) :
    ∃ (X1 Y1 U1 : Int) (m1 : Nat) (ys : List Int) (er1 : Int), ys.length = m1 ∧ m1 ≤ 1024 ∧
      (∀ (w : World) (A4 : Option Addr) (c4 : Nat), Kit.Rd w w.heap.size A4 (I8s (zs.drop sn)) → Kit.Rd w w.heap.size WA (I8s ws) → Kit.Rd w w.heap.size BA (I32v bs) → Calls Try.prog 7 #[.agg #[.int .i64 (H - S), .int .i64 W, .int .i64 C, .slice A4 (n - sn) c4], .agg #[x0, x1, x2, .int .i64 K, .int .i64 S, .int .i64 P, .int .i64 O, .int .i8 Z, x8, .slice WA nW cW, .slice BA nB cB, x11, x12, x13, x14, x15, x16, x17, x18]] w (MadeA w X1 Y1 U1 m1 ys (.int .i64 er1))) ∧
      ((er1 ≠ 0 ∧ m1 = 0) ∨ (er1 = 0 ∧ ∃ a1 : Nat, X1 = (a1 : Int) ∧ a = a1 + 1 ∧ m1 = a1 * (b * oo) ∧ ∀ h i : Nat, h < a1 → i < b * oo → P ≤ (h : Int) * S → ys.getD (h * (b * oo) + i) 0 = (rowL F1 N).getD ((h + 1) * (b * oo) + i) 0)) := by
  obtain ⟨hsl, hnW, hn16, hnB⟩ := convE_ok he
  obtain ⟨hs0, har1, har2, hr1, hr2, hsr⟩ := slide_ok hsl
  obtain ⟨g1, g2, g3, g4, c1, c2, g7⟩ := shapeB_yes hs0
  obtain ⟨-, -, k1, k2, st1, st2, pd1, pd2, -⟩ := argsB_yes har1
  obtain ⟨htu, hsnn⟩ := tens_drop ht st1 hSH hsn
  have hlu : (zs.drop sn).length = n - sn := by rw [List.length_drop, hn]
  by_cases h0 : convE (H - S) W C K S P O nW nB = 0
  · obtain ⟨hsl2, -, -, -⟩ := convE_ok h0
    obtain ⟨hs02, har12, -, hr12, -, hsr2⟩ := slide_ok hsl2
    obtain ⟨-, hst⟩ := stepsM_shift har1 (by omega) hr12
    obtain ⟨q1, q2, q3, q4, q5, q6, q7⟩ := shapeB_yes hsr2
    obtain ⟨a1, ha1⟩ : ∃ a1 : Nat, stepsM (H - S) K S P = (a1 : Int) := ⟨(stepsM (H - S) K S P).toNat, by omega⟩
    have haa : a = a1 + 1 := by omega
    have hm1 : ((a1 * b * oo : Nat) : Int) ≤ 1024 := by
      have : ((a1 * b * oo : Nat) : Int) = stepsM (H - S) K S P * stepsM W K S P * O := by rw [ha1, hb, hO]; simp
      omega
    refine ⟨a1, b, O, a1 * b * oo, rowL (gridF b oo (sumF (zs.drop sn) ws bs (H - S) W C S P d kk Z)) (a1 * b * oo), 0, rowL_len _ _, by omega, fun w A4 c4 hr hrw hrb => ?_, .inr ⟨rfl, a1, rfl, haa, Nat.mul_assoc _ _ _, fun h i hh hi hP => ?_⟩⟩
    · exact of_yes (H - S) W C A4 (zs.drop sn) (n - sn) c4 hlu htu (drop_I8b hz sn) x0 x1 x2 x8 x11 x12 x13 x14 x15 x16 x17 x18 K S P O Z WA BA nW cW nB cB ws hws hwc hwb bs hbs h0 a1 b oo d kk ha1 hb hO hd hk _ rfl z1 z2 w hr hrw hrb
    · have e1 : h * (b * oo) + i < a1 * b * oo := by rw [Nat.mul_assoc]; exact line_lt hh hi
      have e2 : (h + 1) * (b * oo) + i < N := by rw [← hN, Nat.mul_assoc, haa]; exact line_lt (by omega) hi
      rw [rowL_getD _ _ _ e1, rowL_getD _ _ _ e2, hF1, grid_line b oo _ hi, grid_line b oo _ hi]
      exact sumF_shift zs ws bs d kk Z h _ _ sn hsn st1 (by omega) (by omega) hP
  · exact ⟨0, 0, 0, 0, [], _, rfl, by omega, fun w A4 c4 _ _ _ => of_err (H - S) W C A4 (n - sn) c4 x0 x1 x2 x8 x11 x12 x13 x14 x15 x16 x17 x18 K S P O Z WA BA nW cW nB cB htu _ rfl h0 w, .inl ⟨h0, rfl⟩⟩
end Go.Proofs.Ytmgaanojkkdabaa.CConv
