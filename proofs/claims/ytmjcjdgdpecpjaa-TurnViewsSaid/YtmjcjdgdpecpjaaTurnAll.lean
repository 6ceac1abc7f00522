/- Layer 23 (turn), the code: a tensor turned by quarters, a tensor turned over. -/
import Derived.Test.YtmjcjdgdpecpjaaTurnMovedT
import Derived.Test.YtmjcjdgdpecpjaaTurnMovedM
namespace Go.Proofs.Ytmjcjdgdpecpjaa.CTurn
open Go Go.ChangeShapes Go.WideShapes Go.ChangeAt Go.RowKit Go.Deep
open Plain CSat CShape CTensor CPad FloatNum
set_option linter.unusedVariables false

theorem st_cT (x y : Nat) : ∀ (w : World) (a : Addr) (m : Mode), (store a (.complex .f64 x y) m).run Try.prog w = stored Try.prog w a (.complex .f64 x y) m := fun w a m => run_store _ w a _ m rfl
theorem cquarters_to (N : Int) (N1 : -9223372036854775808 ≤ N) (N2 : N ≤ 9223372036854775807) (w : World) :
    Calls Try.prog 17 #[.int .i64 N] w fun e w' => e = .returned (.int .i64 (turnsN N : Nat)) ∧ w = w' := by
  obtain ⟨t1, t2, t3, t4⟩ := turnsN_go N
  obtain ⟨q0, hq0⟩ : ∃ q0, N.tmod 4 = q0 := ⟨_, rfl⟩
  rw [hq0] at t1 t2 t3
  generalize turnsN N = r at *
  have e1 : IntKind.i64.wrap q0 = q0 := IntWalk.i64_in _ (by omega)
  have e2 : IntKind.i64.wrap (q0 + 4) = q0 + 4 := IntWalk.i64_in _ (by omega)
  have e3 : IntKind.i64.wrap (r : Int) = (r : Int) := IntWalk.i64_in _ (by omega)
  go_enter Try.func17, Try.ntmps17
  go_wp2_with fail
  go_ret
  exact ⟨rfl, rfl⟩
/-- a shape's box that may be written, with a factor's box behind it. -/
def ShF (g : Nat) (U V C : Int) (x y : Nat) (w : World) : Prop :=
  (w.cell? ⟨g, 0, none⟩ = some (.int .i64 U) ∧ w.cell? ⟨g, 1, none⟩ = some (.int .i64 V) ∧ w.cell? ⟨g, 2, none⟩ = some (.int .i64 C) ∧ w.cell? ⟨g + 1, 0, none⟩ = some (.complex .f64 x y)) ∧
  (w.frozen? ⟨g, 0, none⟩ = false ∧ w.frozen? ⟨g, 1, none⟩ = false ∧ w.frozen? ⟨g + 1, 0, none⟩ = false)
theorem ShF.new (U V C : Int) (x y : Nat) (w : World) : ShF w.heap.size U V C x y ((w.alloc (.cells #[.int .i64 U, .int .i64 V, .int .i64 C] 23)).alloc (.cells #[.complex .f64 x y] 46)) := by
  have s1 : (w.alloc (.cells #[.int .i64 U, .int .i64 V, .int .i64 C] 23)).heap.size = w.heap.size + 1 := by simp
  have b : Below (w.heap.size + 1) (w.alloc (.cells #[.int .i64 U, .int .i64 V, .int .i64 C] 23)) ((w.alloc (.cells #[.int .i64 U, .int .i64 V, .int .i64 C] 23)).alloc (.cells #[.complex .f64 x y] 46)) := (Below.refl _ _).alloc (by omega) _
  have k0 : ∀ j, (w.alloc (.cells #[.int .i64 U, .int .i64 V, .int .i64 C] 23)).cell? ⟨w.heap.size, j, none⟩ = (#[.int .i64 U, .int .i64 V, .int .i64 C] : Array Value)[j]? := fun j => Kit.new_cell _ _ _ _
  have f0 : ∀ j, (w.alloc (.cells #[.int .i64 U, .int .i64 V, .int .i64 C] 23)).frozen? ⟨w.heap.size, j, none⟩ = false := fun j => World.frozen?_alloc_at _ _ _ _ rfl
  have k1 : ∀ j, ((w.alloc (.cells #[.int .i64 U, .int .i64 V, .int .i64 C] 23)).alloc (.cells #[.complex .f64 x y] 46)).cell? ⟨w.heap.size + 1, j, none⟩ = (#[.complex .f64 x y] : Array Value)[j]? := fun j => by rw [← s1]; exact Kit.new_cell _ _ _ _
  have f1 : ((w.alloc (.cells #[.int .i64 U, .int .i64 V, .int .i64 C] 23)).alloc (.cells #[.complex .f64 x y] 46)).frozen? ⟨w.heap.size + 1, 0, none⟩ = false := by rw [← s1]; exact World.frozen?_alloc_at _ _ _ _ rfl
  have l : ∀ j, (⟨w.heap.size, j, none⟩ : Addr).block < w.heap.size + 1 := fun j => Nat.lt_succ_self _
  exact ⟨⟨(b.cell (l 0)).trans (k0 0), (b.cell (l 1)).trans (k0 1), (b.cell (l 2)).trans (k0 2), k1 0⟩, (b.frozen (l 0)).trans (f0 0), (b.frozen (l 1)).trans (f0 1), f1⟩
theorem ShF.set {g : Nat} {U V C : Int} {x y : Nat} {w : World} (h : ShF g U V C x y w) (U' V' : Int) (x' y' : Nat) : ShF g U' V' C x' y' (((w.setCell ⟨g, 0, none⟩ (.int .i64 U')).setCell ⟨g, 1, none⟩ (.int .i64 V')).setCell ⟨g + 1, 0, none⟩ (.complex .f64 x' y')) := by
  obtain ⟨⟨h0, h1, h2, h3⟩, f0, f1, f2⟩ := h
  have k : ∀ (w : World) (i j : Nat) (u : Value), i ≠ j → (w.setCell ⟨g, j, none⟩ u).cell? ⟨g, i, none⟩ = w.cell? ⟨g, i, none⟩ := fun w i j u hne => World.cell?_setCell_other _ _ _ _ (fun e => by injection e; omega)
  have k' : ∀ (w : World) (i : Nat) (u : Value), (w.setCell ⟨g + 1, 0, none⟩ u).cell? ⟨g, i, none⟩ = w.cell? ⟨g, i, none⟩ := fun w i u => World.cell?_setCell_other _ _ _ _ (fun e => by injection e; omega)
  have k2 : ∀ (w : World) (i : Nat) (u : Value), (w.setCell ⟨g, i, none⟩ u).cell? ⟨g + 1, 0, none⟩ = w.cell? ⟨g + 1, 0, none⟩ := fun w i u => World.cell?_setCell_other _ _ _ _ (fun e => by injection e; omega)
  refine ⟨⟨?_, ?_, ?_, ?_⟩, ?_, ?_, ?_⟩
  · rw [k', k _ _ _ _ (by omega)]; exact World.cell?_setCell_same _ _ _ h0
  · rw [k']; exact World.cell?_setCell_same _ _ _ ((k _ _ _ _ (by omega)).trans h1)
  · rw [k', k _ _ _ _ (by omega), k _ _ _ _ (by omega)]; exact h2
  · exact World.cell?_setCell_same _ _ _ ((k2 _ _ _).trans ((k2 _ _ _).trans h3))
  · rw [World.frozen?_setCell, World.frozen?_setCell, World.frozen?_setCell]; exact f0
  · rw [World.frozen?_setCell, World.frozen?_setCell, World.frozen?_setCell]; exact f1
  · rw [World.frozen?_setCell, World.frozen?_setCell, World.frozen?_setCell]; exact f2
/-- a store behind block g leaves what lies below it. -/
theorem below_set3 {B g : Nat} {w0 w : World} (h : Below B w0 w) (hg : B ≤ g) (u v x : Value) : Below B w0 (((w.setCell ⟨g, 0, none⟩ u).setCell ⟨g, 1, none⟩ v).setCell ⟨g + 1, 0, none⟩ x) :=
  ((h.setCell (p := ⟨g, 0, none⟩) hg _).setCell (p := ⟨g, 1, none⟩) hg _).setCell (p := ⟨g + 1, 0, none⟩) (Nat.le_succ_of_le hg) _
theorem rA_prod (a b d r : Nat) : rA a b r * rB a b r * d = a * b * d := by
  have h : ∀ r a b, rA a b r * rB a b r = a * b := fun r => by
    induction r with
    | zero => exact fun a b => rfl
    | succ r ih => exact fun a b => by rw [(rA_succ a b r).1, (rA_succ a b r).2, Nat.mul_comm]; exact ih a b
  rw [h]
theorem shape_turn {a b d : Nat} (r : Nat) (h : shapeB (a : Int) b d = true) : shapeB (rA a b r : Int) (rB a b r) d = true := by
  induction r with
  | zero => exact h
  | succ r ih =>
    rw [(rA_succ a b r).1, (rA_succ a b r).2]
    simp only [shapeB, decide_eq_true_eq] at ih ⊢
    have e : (rB a b r : Int) * rA a b r * d = rA a b r * rB a b r * d := by rw [Int.mul_comm (rB a b r : Int)]
    omega
theorem rowL_list {ys : List Int} {n : Nat} (h : ys.length = n) : rowL (fun j => ys.getD j 0) n = ys := by
  refine List.ext_getElem (by simp [rowL, h]) fun i h1 h2 => ?_
  simp [rowL, List.getD_eq_getElem?_getD, List.getElem?_eq_getElem h2]
theorem isu_pow (r : Nat) : Bd 1 (upow 1 r) := (upow_u (.inl rfl) r).bd
set_option maxRecDepth 100000 in
set_option maxHeartbeats 8000000 in
theorem cturned_to {a b d n : Nat} (A : Option Addr) (zs : List Int) (c : Nat) (hn : zs.length = n) (hnc : n ≤ c) (ht : tensB (a : Int) (b : Int) (d : Int) n = true) (r : Nat) (hr3 : r ≤ 3) (P Q : Int) (ys : List Int)
    (hP : ((itT d r (a, b, zs)).1 : Int) = P) (hQ : ((itT d r (a, b, zs)).2.1 : Int) = Q) (hy : (itT d r (a, b, zs)).2.2 = ys) (w : World) (hr : Kit.Rd w w.heap.size A (I8s zs)) :
    Calls Try.prog 16 #[.agg #[.int .i64 (a : Int), .int .i64 (b : Int), .int .i64 (d : Int), .slice A n c], .int .i64 (r : Int)] w (MadeU w P Q (d : Int) n ys) := by
  obtain ⟨hs1, hmz⟩ : shapeB (a : Int) b d = true ∧ (n : Int) = a * b * d := by simpa [tensB] using ht
  obtain ⟨s1, s2, s3, s4, s5, s6, s7⟩ := shapeB_yes hs1
  have hm : a * b * d = n := by
    have : ((a * b * d : Nat) : Int) = (n : Int) := by rw [hmz]; simp
    omega
  have hs2 := shape_turn r hs1
  have hfit := itT_fits (r := r) (show Fits d n (a, b, zs) from ⟨hm, hn⟩)
  obtain ⟨dm1, dm2⟩ := itT_dimsR d r a b zs
  have hlen : ys.length = n := by rw [← hy]; exact hfit.2
  rw [dm1] at hP
  rw [dm2] at hQ
  have hat : ∀ i j k : Nat, i < a → j < b → k < d → (fun j => ys.getD j 0) (((rP a b r i j).1 * rB a b r + (rP a b r i j).2) * d + k) = zs.getD ((i * b + j) * d + k) 0 := fun i j k hi hj hk => by
    rw [← hy]; exact itT_at hi hj hk
  have hN : a * b = rA a b r * rB a b r := by
    have h1 := rA_prod a b 1 r
    simpa using h1.symm
  have hmv := fun (u v q : Nat) (hu : IsF u (upow 1 r).1) (hv : IsF v (upow 1 r).2) (wd : World) (hqc : wd.cell? ⟨q, 0, none⟩ = some (.complex .f64 u v)) (hql : q < wd.heap.size) (hrd : Kit.Rd wd wd.heap.size A (I8s zs)) =>
    cmovedT_to (a : Int) b d (rA a b r) (rB a b r) A zs n c hn hnc ht hs2 a b d (rA a b r) (rB a b r) rfl rfl rfl rfl rfl u v q (upow 1 r) hu hv (isu_pow r) (fun i j => (rP a b r i j).1) (fun i j => (rP a b r i j).2)
      (fun i j hi hj => ⟨rP_place hi hj, rP_in hi hj⟩) (fun x y hx hy => by obtain ⟨i, j, hi, hj, h⟩ := rP_onto hx hy; exact ⟨i, j, hi, hj, by rw [h], by rw [h]⟩) hN (fun j => ys.getD j 0) hat wd hqc hql hrd
  rw [rowL_list hlen, hP, hQ] at hmv
  have HMV := Lib.hid hmv
  have HP := Lib.hid hP
  have HQ := Lib.hid hQ
  have hal2 : Below w.heap.size w ((w.alloc (.cells #[.int .i64 (a : Int), .int .i64 (b : Int), .int .i64 (d : Int), .slice A n c] 26)).alloc (.cells #[.int .i64 0, .int .i64 0, .int .i64 0, .slice none 0 0] 26)) := ((Below.refl _ _).alloc (Nat.le_refl _) _).alloc (by simp) _
  have hal4 : Below (w.heap.size + 2) ((w.alloc (.cells #[.int .i64 (a : Int), .int .i64 (b : Int), .int .i64 (d : Int), .slice A n c] 26)).alloc (.cells #[.int .i64 0, .int .i64 0, .int .i64 0, .slice none 0 0] 26)) ((((w.alloc (.cells #[.int .i64 (a : Int), .int .i64 (b : Int), .int .i64 (d : Int), .slice A n c] 26)).alloc (.cells #[.int .i64 0, .int .i64 0, .int .i64 0, .slice none 0 0] 26)).alloc (.cells #[.int .i64 (a : Int), .int .i64 (b : Int), .int .i64 (d : Int)] 23)).alloc (.cells #[.complex .f64 4607182418800017408 0] 46)) := ((Below.refl _ _).alloc (by simp) _).alloc (by simp) _
  have hsz2 : ((w.alloc (.cells #[.int .i64 (a : Int), .int .i64 (b : Int), .int .i64 (d : Int), .slice A n c] 26)).alloc (.cells #[.int .i64 0, .int .i64 0, .int .i64 0, .slice none 0 0] 26)).heap.size = w.heap.size + 2 := by simp
  have hbx : BoxAt w.heap.size (a : Int) b d A n c (w.alloc (.cells #[.int .i64 (a : Int), .int .i64 (b : Int), .int .i64 (d : Int), .slice A n c] 26)) := ⟨Kit.new_cell _ _ _ _, Kit.new_cell _ _ _ _, Kit.new_cell _ _ _ _, Kit.new_cell _ _ _ _⟩
  have hbx2 := (hbx.below (Nat.lt_succ_self _) ((Below.refl _ _).alloc (by simp) (.cells #[.int .i64 0, .int .i64 0, .int .i64 0, .slice none 0 0] 26))).below (B' := w.heap.size + 2) (by omega) hal4
  have hfr := (FreshT.new 26 (w.alloc (.cells #[.int .i64 (a : Int), .int .i64 (b : Int), .int .i64 (d : Int), .slice A n c] 26)) (w.heap.size + 1) (by simp)).below (B' := w.heap.size + 2) (by omega) hal4
  have hsh := ShF.new (a : Int) b d 4607182418800017408 0 ((w.alloc (.cells #[.int .i64 (a : Int), .int .i64 (b : Int), .int .i64 (d : Int), .slice A n c] 26)).alloc (.cells #[.int .i64 0, .int .i64 0, .int .i64 0, .slice none 0 0] 26))
  rw [hsz2] at hsh
  have HB0 := Lib.hid (hal2.trans (hal4.mono (by omega)))
  have HX0 := Lib.hid hbx2
  have HF0 := Lib.hid hfr
  have HS0 := Lib.hid hsh
  have HZ0 : Hid (w.heap.size + 4 ≤ ((((w.alloc (.cells #[.int .i64 (a : Int), .int .i64 (b : Int), .int .i64 (d : Int), .slice A n c] 26)).alloc (.cells #[.int .i64 0, .int .i64 0, .int .i64 0, .slice none 0 0] 26)).alloc (.cells #[.int .i64 (a : Int), .int .i64 (b : Int), .int .i64 (d : Int)] 23)).alloc (.cells #[.complex .f64 4607182418800017408 0] 46)).heap.size) := Lib.hid (by simp)
  have HR := Lib.hid hr
  have hst := st_cT
  clear hal2 hal4 hsz2 hbx hbx2 hfr hsh hr hn ht hs1 hmz s1 s2 s3 s4 s5 s6 s7 hm hs2 hfit dm1 dm2 hy hlen hP hQ hat hN hmv
  go_enter Try.func16, Try.ntmps16
  go_wp2_with fail
  generalize ((((w.alloc (.cells #[.int .i64 (a : Int), .int .i64 (b : Int), .int .i64 (d : Int), .slice A n c] 26)).alloc (.cells #[.int .i64 0, .int .i64 0, .int .i64 0, .slice none 0 0] 26)).alloc (.cells #[.int .i64 (a : Int), .int .i64 (b : Int), .int .i64 (d : Int)] 23)).alloc (.cells #[.complex .f64 4607182418800017408 0] 46)) = W0 at HB0 HX0 HF0 HS0 HZ0 ⊢
  go_loopw [10] (fun s wr => ∃ (k x y : Nat), k ≤ r ∧ s = .int .i64 k ∧ Hid (IsF x (upow 1 k).1 ∧ IsF y (upow 1 k).2) ∧ Hid (ShF (w.heap.size + 2) (rA a b k) (rB a b k) d x y wr) ∧ Hid (BoxAt w.heap.size (a : Int) b d A n c wr) ∧ Hid (FreshT (w.heap.size + 1) wr) ∧ Hid (Below w.heap.size w wr) ∧ Hid (w.heap.size + 4 ≤ wr.heap.size)) (fun s _ => r - (intOf s).toNat)
  case atStart => exact ⟨0, _, _, Nat.zero_le _, rfl, Lib.hid ⟨isF_one, isF_zero⟩, HS0, HX0, HF0, HB0, HZ0⟩
  case round =>
    obtain ⟨k, x, y, hk, rfl, HC, HS, HX, HF, HB, HZ⟩ := hrel
    clear HS0 HX0 HF0 HB0 HZ0
    by_cases hlt : k < r
    · have hlI : (k : Int) < (r : Int) := by omega
      obtain ⟨o, ho, x1, y1, rfl, hx1, hy1⟩ := IsC.mul (P := Try.prog) (u := .complex .f64 x y) (v := .complex .f64 0 4607182418800017408) (p := upow 1 k) (q := (0, 1)) ⟨_, _, rfl, HC.out.1, HC.out.2⟩ ⟨_, _, rfl, isF_zero, isF_one⟩ (isu_pow k) (show Bd 1 ((0, 1) : G) by simp [Bd]) (by decide) (by decide) (by decide)
      rw [← upow_one, upow_add] at hx1 hy1
      have HC1 := Lib.hid (And.intro hx1 hy1)
      obtain ⟨⟨c0, c1, c2, c3⟩, f0, f1, f2⟩ := HS.out
      clear hx1 hy1
      go_wp2_with fail
      go_roundw
      case rel =>
        refine ⟨k + 1, x1, y1, by omega, by go_num, HC1, ?_, ?_, ?_, ?_, ?_⟩
        · rw [(rA_succ a b k).1, (rA_succ a b k).2]; exact Lib.hid (HS.out.set _ _ _ _)
        · exact Lib.hid (HX.out.below (Nat.lt_succ_self _) (below_set3 (Below.refl _ _) (by omega) _ _ _))
        · exact Lib.hid (HF.out.below (Nat.lt_succ_self _) (below_set3 (Below.refl _ _) (by omega) _ _ _))
        · exact Lib.hid (below_set3 HB.out (by omega) _ _ _)
        · exact Lib.hid (by have := HZ.out; simpa using this)
      case measure => simp [intOf]; omega
    · obtain rfl : k = r := by omega
      rw [HP.out, HQ.out] at HS
      obtain ⟨⟨c0, c1, c2, c3⟩, f0, f1, f2⟩ := HS.out
      obtain ⟨b0, b1, b2, b3⟩ := HX.out
      have C3 := Lib.hid c3
      go_wp2_with (go_at_call 24; (refine (HMV.out x y (w.heap.size + 3) HC.out.1 HC.out.2 _ C3.out (by have := HZ.out; omega) ((HR.out.below HB.out).more HB.out.size)).mono ?_); rintro e w1 ⟨v1, rfl, ho1, hb⟩; (obtain ⟨A1, c1', rfl, -, -, -⟩ := Kit.own_rd ho1); (have HO1 := Lib.hid (Kit.own_base ho1 (show w.heap.size + 2 ≤ _ by have := HZ.out; omega))); (have HF1 := Lib.hid (HF.out.below (by have := HZ.out; omega) hb)); (have HB1 := Lib.hid (HB.out.trans (hb.mono HB.out.size))); clear ho1 hb c0 c1 c2 c3 f0 f1 f2 b0 b1 b2 b3; (obtain ⟨⟨z0, z1, z2, z3⟩, z4, z5, z6, z7⟩ := HF1.out))
      refine bodyPost_ret (Kit.results_c rfl _ _ (w.heap.size + 1) 0 [.int .i64 P, .int .i64 Q, .int .i64 (d : Int), .slice A1 n c1'] _ rfl (range_4t (by go_cell) (by go_cell) (by go_cell) (by go_cell)) Try.underlying26 rfl (by kernel_rfl)) rfl ?_
      exact ⟨_, rfl, Kit.own_base (own_set4t HO1.out (Nat.lt_succ_self _)) (by omega), (((HB1.out.setCell (p := ⟨w.heap.size + 1, 0, none⟩) (by simp) _).setCell (p := ⟨w.heap.size + 1, 1, none⟩) (by simp) _).setCell (p := ⟨w.heap.size + 1, 2, none⟩) (by simp) _).setCell (p := ⟨w.heap.size + 1, 3, none⟩) (by simp) _⟩
set_option maxRecDepth 100000 in
set_option maxHeartbeats 4000000 in
theorem cmirrored_to {a b d n : Nat} (A : Option Addr) (zs : List Int) (c : Nat) (hn : zs.length = n) (hnc : n ≤ c) (ht : tensB (a : Int) (b : Int) (d : Int) n = true) (w : World) (hr : Kit.Rd w w.heap.size A (I8s zs)) :
    Calls Try.prog 18 #[.agg #[.int .i64 (a : Int), .int .i64 (b : Int), .int .i64 (d : Int), .slice A n c]] w (MadeU w (a : Int) (b : Int) (d : Int) n (overL zs a b d)) := by
  obtain ⟨hs1, hmz⟩ : shapeB (a : Int) b d = true ∧ (n : Int) = a * b * d := by simpa [tensB] using ht
  have hm : a * b * d = n := by
    have : ((a * b * d : Nat) : Int) = (n : Int) := by rw [hmz]; simp
    omega
  have hat : ∀ i j k : Nat, i < a → j < b → k < d → (fun j => (overL zs a b d).getD j 0) ((i * b + (b - 1 - j)) * d + k) = zs.getD ((i * b + j) * d + k) 0 := fun i j k hi hj hk => by
    show (overL zs a b d).getD _ 0 = _
    rw [overL_at _ hi (by omega) hk]
    congr 4; omega
  have hlen : (overL zs a b d).length = n := (overL_len _ _ _ _).trans hm
  have hmv := fun (wd : World) (hrd : Kit.Rd wd wd.heap.size A (I8s zs)) =>
    cmovedM_to (a : Int) b d a b A zs n c hn hnc ht hs1 a b d a b rfl rfl rfl rfl rfl (fun i _ => i) (fun _ j => b - 1 - j)
      (fun i j hi hj => ⟨over_place hi hj, hi, by omega⟩) (fun x y hx hy => ⟨x, b - 1 - y, hx, by omega, rfl, by omega⟩) rfl (fun j => (overL zs a b d).getD j 0) hat wd hrd
  rw [rowL_list hlen] at hmv
  have HMV := Lib.hid hmv
  have hal2 : Below w.heap.size w ((w.alloc (.cells #[.int .i64 (a : Int), .int .i64 (b : Int), .int .i64 (d : Int), .slice A n c] 26)).alloc (.cells #[.int .i64 0, .int .i64 0, .int .i64 0, .slice none 0 0] 26)) := ((Below.refl _ _).alloc (Nat.le_refl _) _).alloc (by simp) _
  have hbx : BoxAt w.heap.size (a : Int) b d A n c (w.alloc (.cells #[.int .i64 (a : Int), .int .i64 (b : Int), .int .i64 (d : Int), .slice A n c] 26)) := ⟨Kit.new_cell _ _ _ _, Kit.new_cell _ _ _ _, Kit.new_cell _ _ _ _, Kit.new_cell _ _ _ _⟩
  have HX := Lib.hid (hbx.below (Nat.lt_succ_self _) ((Below.refl _ _).alloc (by simp) (.cells #[.int .i64 0, .int .i64 0, .int .i64 0, .slice none 0 0] 26)))
  have HF := Lib.hid (FreshT.new 26 (w.alloc (.cells #[.int .i64 (a : Int), .int .i64 (b : Int), .int .i64 (d : Int), .slice A n c] 26)) (w.heap.size + 1) (by simp))
  have HB := Lib.hid hal2
  have HZ : Hid (w.heap.size + 2 ≤ ((w.alloc (.cells #[.int .i64 (a : Int), .int .i64 (b : Int), .int .i64 (d : Int), .slice A n c] 26)).alloc (.cells #[.int .i64 0, .int .i64 0, .int .i64 0, .slice none 0 0] 26)).heap.size) := Lib.hid (by simp)
  have HR := Lib.hid ((hr.below hal2).more hal2.size)
  clear hal2 hbx hr hn ht hs1 hmz hm hlen hat hmv
  go_enter Try.func18, Try.ntmps18
  go_upto_region 1 with fail
  generalize ((w.alloc (.cells #[.int .i64 (a : Int), .int .i64 (b : Int), .int .i64 (d : Int), .slice A n c] 26)).alloc (.cells #[.int .i64 0, .int .i64 0, .int .i64 0, .slice none 0 0] 26)) = W0 at HX HF HB HZ HR ⊢
  obtain ⟨b0, b1, b2, b3⟩ := HX.out
  go_wp2_with (go_at_call 24; (refine (HMV.out _ HR.out).mono ?_); rintro e w1 ⟨v1, rfl, ho1, hb⟩; (obtain ⟨A1, c1', rfl, -, -, -⟩ := Kit.own_rd ho1); (have HO1 := Lib.hid (Kit.own_base ho1 HZ.out)); (have HF1 := Lib.hid (HF.out.below (by have := HZ.out; omega) hb)); (have HB1 := Lib.hid (HB.out.trans (hb.mono HB.out.size))); clear ho1 hb b0 b1 b2 b3; (obtain ⟨⟨z0, z1, z2, z3⟩, z4, z5, z6, z7⟩ := HF1.out))
  refine bodyPost_ret (Kit.results_c rfl _ _ (w.heap.size + 1) 0 [.int .i64 (a : Int), .int .i64 (b : Int), .int .i64 (d : Int), .slice A1 n c1'] _ rfl (range_4t (by go_cell) (by go_cell) (by go_cell) (by go_cell)) Try.underlying26 rfl (by kernel_rfl)) rfl ?_
  exact ⟨_, rfl, Kit.own_base (own_set4t HO1.out (Nat.lt_succ_self _)) (by omega), (((HB1.out.setCell (p := ⟨w.heap.size + 1, 0, none⟩) (by simp) _).setCell (p := ⟨w.heap.size + 1, 1, none⟩) (by simp) _).setCell (p := ⟨w.heap.size + 1, 2, none⟩) (by simp) _).setCell (p := ⟨w.heap.size + 1, 3, none⟩) (by simp) _⟩
end Go.Proofs.Ytmjcjdgdpecpjaa.CTurn
