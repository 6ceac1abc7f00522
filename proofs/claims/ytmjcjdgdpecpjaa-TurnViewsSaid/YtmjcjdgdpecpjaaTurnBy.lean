/- Layer 23 (turn), the document: turned by any quarters. -/
import Derived.Test.YtmjcjdgdpecpjaaTurnNum
import Derived.Deep.CutRange
namespace Go.Proofs.Ytmjcjdgdpecpjaa.CTurn
open Go Go.ChangeShapes Go.WideShapes Go.ChangeAt Go.RowKit
open Plain CSat CShape CTensor CPad
set_option linter.unusedVariables false

theorem tens_nat {a b d n : Nat} (ht : tensB (a : Int) (b : Int) (d : Int) n = true) : a * b * d = n ∧ 1 ≤ a ∧ a ≤ 16 ∧ 1 ≤ b ∧ b ≤ 16 ∧ 1 ≤ d ∧ d ≤ 1024 ∧ n ≤ 1024 := by
  simp only [tensB, Bool.and_eq_true, decide_eq_true_eq] at ht
  obtain ⟨hs, hn⟩ := ht
  obtain ⟨g1, g2, g3, g4, g5, g6, g7⟩ := shapeB_yes hs
  have e : ((a * b * d : Nat) : Int) = (a : Int) * b * d := by simp
  omega
theorem ronce_T {a b d n : Nat} (A : Option Addr) (zs : List Int) (c : Nat) (hn : zs.length = n) (ht : tensB (a : Int) (b : Int) (d : Int) n = true) {B : Nat} (w : World) (hB : B ≤ w.heap.size) (hr : Kit.Rd w B A (I8s zs)) :
    Calls Try.prog 20 #[.agg #[.int .i64 (a : Int), .int .i64 (b : Int), .int .i64 (d : Int), .slice A n c]] w (MadeU w (b : Int) (a : Int) (d : Int) n (onceL zs a b d)) := by
  obtain ⟨h1, h2, h3, h4, h5, h6, h7, h8⟩ := tens_nat ht
  have hm : b * a * d = n := by rw [Nat.mul_comm b a]; exact h1
  have h := ronce_to (a : Int) (b : Int) (d : Int) A zs n c hn ht b a d rfl rfl rfl h5 h3 h7 n hm h8 (onceF zs a b d) (fun i j k hi hj hk => by
    obtain ⟨q, hq⟩ : ∃ q : Nat, b - 1 - i = q := ⟨_, rfl⟩
    have e1 : (b : Int) - 1 - (i : Int) = (q : Int) := by omega
    have e2 : ((((j : Int) * (b : Int) + (q : Int)) * (d : Int) + (k : Int)).toNat) = (j * b + q) * d + k := by
      have : (((j * b + q) * d + k : Nat) : Int) = ((j : Int) * (b : Int) + (q : Int)) * (d : Int) + (k : Int) := by simp
      omega
    obtain ⟨p1, p2, p3⟩ := place_of (i := i) hj hk
    rw [e1, e2]
    unfold onceF
    rw [p1, p2, p3, hq]) w hB hr
  unfold onceL
  rw [hm]
  exact h
theorem rover_T {a b d n : Nat} (A : Option Addr) (zs : List Int) (c : Nat) (hn : zs.length = n) (ht : tensB (a : Int) (b : Int) (d : Int) n = true) {B : Nat} (w : World) (hB : B ≤ w.heap.size) (hr : Kit.Rd w B A (I8s zs)) :
    Calls Try.prog 12 #[.agg #[.int .i64 (a : Int), .int .i64 (b : Int), .int .i64 (d : Int), .slice A n c]] w (MadeU w (a : Int) (b : Int) (d : Int) n (overL zs a b d)) := by
  obtain ⟨h1, h2, h3, h4, h5, h6, h7, h8⟩ := tens_nat ht
  have h := rover_to (a : Int) (b : Int) (d : Int) A zs n c hn ht a b d rfl rfl rfl h3 h5 h7 n h1 h8 (overF zs a b d) (fun i j k hi hj hk => by
    obtain ⟨q, hq⟩ : ∃ q : Nat, b - 1 - j = q := ⟨_, rfl⟩
    have e1 : (b : Int) - 1 - (j : Int) = (q : Int) := by omega
    have e2 : ((((i : Int) * (b : Int) + (q : Int)) * (d : Int) + (k : Int)).toNat) = (i * b + q) * d + k := by
      have : (((i * b + q) * d + k : Nat) : Int) = ((i : Int) * (b : Int) + (q : Int)) * (d : Int) + (k : Int) := by simp
      omega
    obtain ⟨p1, p2, p3⟩ := place_of (i := i) hj hk
    rw [e1, e2]
    unfold overF
    rw [p1, p2, p3, hq]) w hB hr
  unfold overL
  rw [h1]
  exact h
/-- a tensor's box that may be written. -/
def BoxW (g : Nat) (H W C : Int) (A : Option Addr) (n c : Nat) (w : World) : Prop := BoxAt g H W C A n c w ∧ ∀ j, w.frozen? ⟨g, j, none⟩ = false
theorem BoxW.below {g B : Nat} {H W C : Int} {A : Option Addr} {n c : Nat} {w w' : World} (h : BoxW g H W C A n c w) (hB : g < B) (hb : Below B w w') : BoxW g H W C A n c w' :=
  ⟨h.1.below hB hb, fun j => (hb.frozen (p := ⟨g, j, none⟩) hB).trans (h.2 j)⟩
theorem BoxW.new (H W C : Int) (A : Option Addr) (n c : Nat) (T : TypeId) (w : World) : BoxW w.heap.size H W C A n c (w.alloc (.cells #[.int .i64 H, .int .i64 W, .int .i64 C, .slice A n c] T)) :=
  ⟨⟨Kit.new_cell _ _ _ _, Kit.new_cell _ _ _ _, Kit.new_cell _ _ _ _, Kit.new_cell _ _ _ _⟩, fun j => World.frozen?_alloc_at _ _ _ _ rfl⟩
theorem BoxW.set4 {g : Nat} {H W C H' W' C' : Int} {A A' : Option Addr} {n c n' c' : Nat} {w : World} (h : BoxW g H W C A n c w) :
    BoxW g H' W' C' A' n' c' ((((w.setCell ⟨g, 0, none⟩ (.int .i64 H')).setCell ⟨g, 1, none⟩ (.int .i64 W')).setCell ⟨g, 2, none⟩ (.int .i64 C')).setCell ⟨g, 3, none⟩ (.slice A' n' c')) := by
  obtain ⟨⟨h0, h1, h2, h3⟩, hf⟩ := h
  have k : ∀ (w : World) (i j : Nat) (u : Value), i ≠ j → (w.setCell ⟨g, j, none⟩ u).cell? ⟨g, i, none⟩ = w.cell? ⟨g, i, none⟩ := fun w i j u hne => World.cell?_setCell_other _ _ _ _ (fun e => by injection e; omega)
  refine ⟨⟨?_, ?_, ?_, ?_⟩, fun j => ?_⟩
  · rw [k _ _ _ _ (by omega), k _ _ _ _ (by omega), k _ _ _ _ (by omega)]
    exact World.cell?_setCell_same _ _ _ h0
  · rw [k _ _ _ _ (by omega), k _ _ _ _ (by omega)]
    exact World.cell?_setCell_same _ _ _ ((k _ _ _ _ (by omega)).trans h1)
  · rw [k _ _ _ _ (by omega)]
    exact World.cell?_setCell_same _ _ _ ((k _ _ _ _ (by omega)).trans ((k _ _ _ _ (by omega)).trans h2))
  · exact World.cell?_setCell_same _ _ _ ((k _ _ _ _ (by omega)).trans ((k _ _ _ _ (by omega)).trans ((k _ _ _ _ (by omega)).trans h3)))
  · rw [World.frozen?_setCell, World.frozen?_setCell, World.frozen?_setCell, World.frozen?_setCell]; exact hf j
/-- a row that reads, and lies in neither of two blocks. -/
def RowT (w : World) (g : Nat) (A : Option Addr) (xs : List Value) : Prop := ∀ (j : Nat) (u : Value), xs[j]? = some u → ∃ ad : Addr, A = some ad ∧ (ad.block < g ∨ g + 2 ≤ ad.block) ∧ ad.block < w.heap.size ∧ w.cell? (ad.add j) = some u
theorem RowT.rd {w : World} {g : Nat} {A : Option Addr} {xs : List Value} (h : RowT w g A xs) : Kit.Rd w w.heap.size A xs := fun j u hu => by
  obtain ⟨ad, e, _, hb, hc⟩ := h j u hu
  exact ⟨ad, e, hb, hc⟩
theorem RowT.of_rd {w w' : World} {A : Option Addr} {xs : List Value} (h : Kit.Rd w w.heap.size A xs) (hb : Below w.heap.size w w') : RowT w' w.heap.size A xs := fun j u hu => by
  obtain ⟨ad, e, hl, hc⟩ := h j u hu
  have := hb.size
  exact ⟨ad, e, by omega, by omega, (hb.cell (p := ad.add j) (by rw [Kit.add_block]; exact hl)).trans hc⟩
theorem RowT.of_own {w : World} {base T g n c : Nat} {A : Option Addr} {xs : List Value} (h : w.ownsRow base T 1 (.slice A n c) n xs) (hg : g + 2 ≤ base) : RowT w g A xs := fun j u hu => by
  obtain ⟨A', c', e, _, _, hr⟩ := Kit.own_rd h
  cases e
  obtain ⟨ad, rfl, hl, hc⟩ := hr j u hu
  have := Kit.own_block_ge h ad.block rfl
  exact ⟨ad, rfl, by omega, hl, hc⟩
theorem RowT.set {w : World} {g b o : Nat} {A : Option Addr} {xs : List Value} (h : RowT w g A xs) (hb : b = g ∨ b = g + 1) (u : Value) : RowT (w.setCell ⟨b, o, none⟩ u) g A xs := fun j v hv => by
  obtain ⟨ad, e, hn, hl, hc⟩ := h j v hv
  refine ⟨ad, e, hn, by simpa using hl, (World.cell?_setCell_other _ _ _ _ (fun e2 => ?_)).trans hc⟩
  have : (ad.add j).block = b := by rw [← e2]
  rw [Kit.add_block] at this
  omega
theorem RowT.set4 {w : World} {g b : Nat} {A : Option Addr} {xs : List Value} (h : RowT w g A xs) (hb : b = g ∨ b = g + 1) (x y z u : Value) : RowT ((((w.setCell ⟨b, 0, none⟩ x).setCell ⟨b, 1, none⟩ y).setCell ⟨b, 2, none⟩ z).setCell ⟨b, 3, none⟩ u) g A xs := (((h.set hb x).set hb y).set hb z).set hb u
theorem FreshT.set4o {w : World} {g : Nat} (h : FreshT (g + 1) w) (x y z u : Value) : FreshT (g + 1) ((((w.setCell ⟨g, 0, none⟩ x).setCell ⟨g, 1, none⟩ y).setCell ⟨g, 2, none⟩ z).setCell ⟨g, 3, none⟩ u) := by
  have k : ∀ (w : World) (i j : Nat) (u : Value), (w.setCell ⟨g, j, none⟩ u).cell? ⟨g + 1, i, none⟩ = w.cell? ⟨g + 1, i, none⟩ := fun w i j u => World.cell?_setCell_other _ _ _ _ (fun e => by injection e; omega)
  have f : ∀ (w : World) (i j : Nat) (u : Value), (w.setCell ⟨g, j, none⟩ u).frozen? ⟨g + 1, i, none⟩ = w.frozen? ⟨g + 1, i, none⟩ := fun w i j u => World.frozen?_setCell _ _ _ _
  obtain ⟨⟨z0, z1, z2, z3⟩, z4, z5, z6, z7⟩ := h
  refine ⟨⟨?_, ?_, ?_, ?_⟩, ?_, ?_, ?_, ?_⟩
  all_goals first | (rw [k, k, k, k]; assumption) | (rw [f, f, f, f]; assumption)
/-- a tensor that reads, of the call's own or not. -/
def MadeR (w : World) (H W C : Int) (n : Nat) (zs : List Int) (e : Ending) (w' : World) : Prop :=
  ∃ A c, e = .returned (.agg #[.int .i64 H, .int .i64 W, .int .i64 C, .slice A n c]) ∧ Kit.Rd w' w'.heap.size A (I8s zs) ∧ Below w.heap.size w w'
theorem tens_turn {a b d n r : Nat} {zs : List Int} (ht : tensB (a : Int) (b : Int) (d : Int) n = true) : tensB ((itT d r (a, b, zs)).1 : Int) ((itT d r (a, b, zs)).2.1 : Int) (d : Int) n = true := by
  rcases itT_dims (d := d) (r := r) (t := (a, b, zs)) with ⟨h1, h2⟩ | ⟨h1, h2⟩
  · rw [h1, h2]; exact ht
  · rw [h1, h2]
    obtain ⟨g1, g2, g3, g4, g5, g6, g7, g8⟩ := tens_nat ht
    simp only [tensB, Bool.and_eq_true, decide_eq_true_eq] at ht ⊢
    obtain ⟨hs, hn⟩ := ht
    refine ⟨?_, by rw [hn, Int.mul_comm (a : Int) (b : Int)]⟩
    simp only [shapeB, decide_eq_true_eq] at hs ⊢
    have e : (b : Int) * a * d = a * b * d := by rw [Int.mul_comm (b : Int) a]
    omega
set_option maxRecDepth 100000 in
set_option maxHeartbeats 4000000 in
theorem rby_to {a b d n : Nat} (A : Option Addr) (zs : List Int) (c : Nat) (hn : zs.length = n) (ht : tensB (a : Int) (b : Int) (d : Int) n = true) (N : Int) (N1 : -9223372036854775808 ≤ N) (N2 : N ≤ 9223372036854775807) (P Q : Int) (ys : List Int)
    (hP : ((itT d (turnsN N) (a, b, zs)).1 : Int) = P) (hQ : ((itT d (turnsN N) (a, b, zs)).2.1 : Int) = Q) (hy : (itT d (turnsN N) (a, b, zs)).2.2 = ys) (w : World) (hr : Kit.Rd w w.heap.size A (I8s zs)) :
    Calls Try.prog 11 #[.agg #[.int .i64 (a : Int), .int .i64 (b : Int), .int .i64 (d : Int), .slice A n c], .int .i64 N] w (MadeR w P Q (d : Int) n ys) := by
  obtain ⟨t1, t2, t3, t4⟩ := turnsN_go N
  obtain ⟨q0, hq0⟩ : ∃ q0, N.tmod 4 = q0 := ⟨_, rfl⟩
  rw [hq0] at t1 t2 t3
  have hal : Below w.heap.size w ((w.alloc (.cells #[.int .i64 (a : Int), .int .i64 (b : Int), .int .i64 (d : Int), .slice A n c] 26)).alloc (.cells #[.int .i64 0, .int .i64 0, .int .i64 0, .slice none 0 0] 26)) := ((Below.refl _ _).alloc (Nat.le_refl _) _).alloc (by simp) _
  have bx := (BoxW.new (a : Int) (b : Int) (d : Int) A n c 26 w).below (Nat.lt_succ_self _) ((Below.refl _ _).alloc (by simp) (.cells #[.int .i64 0, .int .i64 0, .int .i64 0, .slice none 0 0] 26))
  have fr : FreshT (w.heap.size + 1) ((w.alloc (.cells #[.int .i64 (a : Int), .int .i64 (b : Int), .int .i64 (d : Int), .slice A n c] 26)).alloc (.cells #[.int .i64 0, .int .i64 0, .int .i64 0, .slice none 0 0] 26)) :=
    FreshT.new 26 (w.alloc (.cells #[.int .i64 (a : Int), .int .i64 (b : Int), .int .i64 (d : Int), .slice A n c] 26)) (w.heap.size + 1) (by simp)
  have ro := RowT.of_rd hr hal
  have HB0 := Lib.hid hal
  have BX0 := Lib.hid bx
  have FR0 := Lib.hid fr
  have RO0 := Lib.hid ro
  have hs0 : ((w.alloc (.cells #[.int .i64 (a : Int), .int .i64 (b : Int), .int .i64 (d : Int), .slice A n c] 26)).alloc (.cells #[.int .i64 0, .int .i64 0, .int .i64 0, .slice none 0 0] 26)).heap.size = w.heap.size + 2 := by simp
  have HT := Lib.hid ht
  have HFIT : Hid (Fits d n (a, b, zs)) := Lib.hid ⟨(tens_nat ht).1, hn⟩
  have HP := Lib.hid hP
  have HQ := Lib.hid hQ
  have HY := Lib.hid hy
  obtain ⟨r, hrr⟩ : ∃ r, turnsN N = r := ⟨_, rfl⟩
  rw [hrr] at t1 t4 HP HQ HY
  have e1 : IntKind.i64.wrap q0 = q0 := IntWalk.i64_in _ (by omega)
  have e2 : IntKind.i64.wrap (q0 + 4) = q0 + 4 := IntWalk.i64_in _ (by omega)
  have e3 : IntKind.i64.wrap (r : Int) = (r : Int) := IntWalk.i64_in _ (by omega)
  clear hal bx fr ro hr hrr hn ht hP hQ hy
  go_enter Try.func11, Try.ntmps11
  go_wp2_with fail
  clear e1 e2 e3 t1 hq0
  generalize (w.alloc (.cells #[.int .i64 (a : Int), .int .i64 (b : Int), .int .i64 (d : Int), .slice A n c] 26)).alloc (.cells #[.int .i64 0, .int .i64 0, .int .i64 0, .slice none 0 0] 26) = W0 at HB0 BX0 FR0 RO0 hs0 ⊢
  go_loopw [5] (fun u wr => ∃ (i : Nat) (A' : Option Addr) (c' : Nat), i ≤ r ∧ u = .int .i64 i ∧ Hid (BoxW w.heap.size ((itT d i (a, b, zs)).1 : Int) ((itT d i (a, b, zs)).2.1 : Int) (d : Int) A' n c' wr) ∧ Hid (RowT wr w.heap.size A' (I8s (itT d i (a, b, zs)).2.2)) ∧ Hid (FreshT (w.heap.size + 1) wr) ∧ Hid (Below w.heap.size w wr) ∧ Hid (w.heap.size + 2 ≤ wr.heap.size)) (fun u _ => r - (intOf u).toNat)
  case atStart => exact ⟨0, A, c, Nat.zero_le _, rfl, BX0, RO0, FR0, HB0, Lib.hid (by omega)⟩
  case round =>
    obtain ⟨i, A', c', hi, rfl, BX, RO, FR, HB, HS⟩ := hrel
    clear BX0 RO0 FR0 HB0 hs0
    by_cases hlt : i < r
    · have hlI : (i : Int) < (r : Int) := by omega
      obtain ⟨⟨c0, c1, c2, c3⟩, -⟩ := BX.out
      have hcall := ronce_T A' (itT d i (a, b, zs)).2.2 c' (itT_fits HFIT.out (r := i)).2 (tens_turn (zs := zs) (r := i) HT.out) wr (Nat.le_refl _) RO.out.rd
      have HCL := Lib.hid hcall
      have hsz : w.heap.size < wr.heap.size := by have := HS.out; omega
      have hsz1 : w.heap.size + 1 < wr.heap.size := by have := HS.out; omega
      have hnx := itT_succ d i (a, b, zs)
      have HNX1 := Lib.hid (show ((itT d (i + 1) (a, b, zs)).1 : Int) = ((itT d i (a, b, zs)).2.1 : Int) by rw [hnx])
      have HNX2 := Lib.hid (show ((itT d (i + 1) (a, b, zs)).2.1 : Int) = ((itT d i (a, b, zs)).1 : Int) by rw [hnx])
      have HNX3 := Lib.hid (show (itT d (i + 1) (a, b, zs)).2.2 = onceL (itT d i (a, b, zs)).2.2 (itT d i (a, b, zs)).1 (itT d i (a, b, zs)).2.1 d by rw [hnx])
      clear hcall hnx
      generalize ((itT d i (a, b, zs)).1 : Int) = X at *
      generalize ((itT d i (a, b, zs)).2.1 : Int) = Y at *
      go_wp2_with (go_at_call 20; (refine HCL.out.mono ?_); rintro e w1 ⟨v1, rfl, ho1, hb⟩; (obtain ⟨A1, c1', rfl, -, -, -⟩ := Kit.own_rd ho1); (have RO1 := Lib.hid (RowT.of_own ho1 HS.out)); (have BX1 := Lib.hid (BX.out.below hsz hb)); (have FR1 := Lib.hid (FR.out.below hsz1 hb)); (have HB1 := Lib.hid (HB.out.trans (hb.mono HB.out.size))); (have HS1 := Lib.hid (Nat.le_trans HS.out hb.size)); (obtain ⟨⟨d0, d1, d2, d3⟩, df⟩ := BX1.out); (have f0 := df 0); (have f1 := df 1); (have f2 := df 2); (have f3 := df 3); clear df ho1 hb BX FR HB HS c0 c1 c2 c3)
      go_roundw
      case rel =>
        refine ⟨i + 1, A1, c1', by omega, by go_num, ?_, ?_, ?_, ?_, ?_⟩
        · rw [HNX1.out, HNX2.out]; exact Lib.hid BX1.out.set4
        · rw [HNX3.out]; exact Lib.hid (RO1.out.set4 (.inl rfl) _ _ _ _)
        · exact Lib.hid (FreshT.set4o FR1.out _ _ _ _)
        · exact Lib.hid ((((HB1.out.setCell (p := ⟨w.heap.size, 0, none⟩) (Nat.le_refl _) _).setCell (p := ⟨w.heap.size, 1, none⟩) (Nat.le_refl _) _).setCell (p := ⟨w.heap.size, 2, none⟩) (Nat.le_refl _) _).setCell (p := ⟨w.heap.size, 3, none⟩) (Nat.le_refl _) _)
        · exact Lib.hid (by simpa using HS1.out)
      case measure => simp [intOf]; omega
    · obtain rfl : i = r := by omega
      rw [HP.out, HQ.out] at BX
      rw [HY.out] at RO
      obtain ⟨⟨c0, c1, c2, c3⟩, -⟩ := BX.out
      obtain ⟨⟨z0, z1, z2, z3⟩, z4, z5, z6, z7⟩ := FR.out
      clear BX FR
      go_wp2_with fail
      refine bodyPost_ret (Kit.results_c rfl _ _ (w.heap.size + 1) 0 [.int .i64 P, .int .i64 Q, .int .i64 (d : Int), .slice A' n c'] _ rfl (range_4t (by go_cell) (by go_cell) (by go_cell) (by go_cell)) Try.underlying26 rfl (by kernel_rfl)) rfl ?_
      exact ⟨A', c', rfl, (RO.out.set4 (.inr rfl) _ _ _ _).rd, (((HB.out.setCell (p := ⟨w.heap.size + 1, 0, none⟩) (by simp) _).setCell (p := ⟨w.heap.size + 1, 1, none⟩) (by simp) _).setCell (p := ⟨w.heap.size + 1, 2, none⟩) (by simp) _).setCell (p := ⟨w.heap.size + 1, 3, none⟩) (by simp) _⟩
end Go.Proofs.Ytmjcjdgdpecpjaa.CTurn
