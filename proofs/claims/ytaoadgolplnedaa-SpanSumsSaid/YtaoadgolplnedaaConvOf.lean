/- Layer 10: all sums that a node makes of a tensor. -/
import Derived.Test.YtaoadgolplnedaaConvWin
import Derived.Laws.MakeOwn
namespace Go.Proofs.Ytaoadgolplnedaa.CConv
open Go Go.ChangeShapes Go.WideShapes Go.ChangeAt Go.RowKit
open Plain CSat CShape CTensor
set_option linter.unusedVariables false

theorem info_i32 : (Try.prog.info? 21).map (fun i => (i.zero, i.size, i.bytes)) = some (some (.int .i32 0), 1, 4) := by kernel_rfl
theorem info_parts32 {P : Program} {t : TypeId} {z : Option Value} {s b : Nat} (h : (P.info? t).map (fun i => (i.zero, i.size, i.bytes)) = some (z, s, b)) : ∃ i, P.info? t = some i ∧ i.zero = z ∧ i.size = s ∧ i.bytes = b := by
  cases hi : P.info? t with
  | none => rw [hi] at h; cases h
  | some i => rw [hi] at h; simp at h; exact ⟨i, rfl, h.1, h.2.1, h.2.2⟩
def I32v (zs : List Int) : List Value := zs.map (.int .i32)
def rowL (F : Nat → Int) (k : Nat) : List Int := (List.range k).map F
theorem rowL_len (F : Nat → Int) (k : Nat) : (rowL F k).length = k := by simp [rowL]
theorem rowL_succ (F : Nat → Int) (k : Nat) (x : Int) (h : F k = x) : I32v (rowL F k) ++ [.int .i32 x] = I32v (rowL F (k + 1)) := by
  simp [I32v, rowL, List.range_succ, h]
def gridF (b d : Nat) (G : Nat → Nat → Nat → Int) (i : Nat) : Int := G (i / d / b) (i / d % b) (i % d)
theorem grid_at (b d : Nat) (G : Nat → Nat → Nat → Int) {i j k : Nat} (hj : j < b) (hk : k < d) : gridF b d G ((i * b + j) * d + k) = G i j k := by
  unfold gridF
  have h1 : ((i * b + j) * d + k) / d = i * b + j := by rw [Nat.mul_comm, Nat.mul_add_div (by omega), Nat.div_eq_of_lt hk]; rfl
  have h2 : ((i * b + j) * d + k) % d = k := by rw [Nat.mul_comm, Nat.mul_add_mod, Nat.mod_eq_of_lt hk]
  have h3 : (i * b + j) / b = i := by rw [Nat.mul_comm, Nat.mul_add_div (by omega), Nat.div_eq_of_lt hj]; rfl
  have h4 : (i * b + j) % b = j := by rw [Nat.mul_comm, Nat.mul_add_mod, Nat.mod_eq_of_lt hj]
  rw [h1, h2, h3, h4]
theorem at_lt {a b d i j k : Nat} (hi : i < a) (hj : j < b) (hk : k < d) : (i * b + j) * d + k < a * b * d := by
  have e1 : (i + 1) * b ≤ a * b := Nat.mul_le_mul_right _ hi
  have e2 : (i * b + j + 1) * d ≤ a * b * d := Nat.mul_le_mul_right _ (by rw [Nat.add_mul, Nat.one_mul] at e1; omega)
  rw [Nat.add_mul _ 1 d, Nat.one_mul] at e2
  omega
/-- one sum, of 32 bits. -/
def sumF (zs ws bs : List Int) (H W C S P : Int) (d kk : Nat) (Z : Int) (h v o : Nat) : Int :=
  IntKind.i32.wrap (bs.getD o 0 + winF zs ws H W C ((h : Int) * S - P) ((v : Int) * S - P) d kk o Z)
/-- sums of the call's own, handed back with an error's number. -/
def MadeA (w : World) (H W C : Int) (n : Nat) (zs : List Int) (x : Value) (e : Ending) (w' : World) : Prop :=
  ∃ v, e = .returned (.tuple #[.agg #[.int .i64 H, .int .i64 W, .int .i64 C, v], x]) ∧ w'.ownsRow w.heap.size 21 1 v n (I32v zs) ∧ Below w.heap.size w w'
def ShapeAt (B : Nat) (H W C : Int) (wd : World) : Prop :=
  wd.cell? ⟨B, 0, none⟩ = some (.int .i64 H) ∧ wd.cell? ⟨B, 1, none⟩ = some (.int .i64 W) ∧ wd.cell? ⟨B, 2, none⟩ = some (.int .i64 C)
theorem ShapeAt.below {B B' : Nat} {H W C : Int} {w w' : World} (h : ShapeAt B H W C w) (hB : B < B') (hb : Below B' w w') : ShapeAt B H W C w' :=
  ⟨(hb.cell (p := ⟨B, 0, none⟩) hB).trans h.1, (hb.cell (p := ⟨B, 1, none⟩) hB).trans h.2.1, (hb.cell (p := ⟨B, 2, none⟩) hB).trans h.2.2⟩
theorem freshNew (T : TypeId) (w : World) : FreshT w.heap.size (w.alloc (.cells #[.int .i64 0, .int .i64 0, .int .i64 0, .slice none 0 0] T)) := FreshT.new T w _ rfl
theorem shapeNew (H W C : Int) (T : TypeId) (w : World) : ShapeAt w.heap.size H W C (w.alloc (.cells #[.int .i64 H, .int .i64 W, .int .i64 C] T)) := ⟨Kit.new_cell _ _ _ _, Kit.new_cell _ _ _ _, Kit.new_cell _ _ _ _⟩
theorem convE_ok {H W C K S P O : Int} {nW nB : Nat} (h : convE H W C K S P O nW nB = 0) : slideE H W C K S P O = 0 ∧ (nW : Int) = O * K * K * C ∧ nW ≤ 16384 ∧ (nB : Int) = O := by
  unfold convE at h
  by_cases h1 : slideE H W C K S P O ≠ 0
  · rw [if_pos h1] at h; exact absurd h h1
  · rw [if_neg h1] at h
    by_cases h2 : (nW : Int) = O * K * K * C ∧ nW ≤ 16384 ∧ (nB : Int) = O
    · exact ⟨by omega, h2⟩
    · rw [if_neg h2] at h; omega
/-- what is held of the calls' memory while the sums are made. -/
def OfAt (w : World) (H W C : Int) (A : Option Addr) (n c : Nat) (x0 x1 x2 x8 x11 x12 x13 x14 x15 x16 x17 x18 : Value) (K S P O Z : Int) (WA BA : Option Addr) (nW cW nB cB : Nat) (X Y U : Int) (g6 : Nat) (wr : World) : Prop :=
  BoxAt w.heap.size H W C A n c wr ∧ NodeAt (w.heap.size + 1) x0 x1 x2 x8 x11 x12 x13 x14 x15 x16 x17 x18 K S P O Z WA BA nW cW nB cB wr ∧ FreshT (w.heap.size + 2) wr ∧ ShapeAt g6 X Y U wr ∧ Below w.heap.size w wr ∧ g6 + 1 ≤ wr.heap.size
theorem OfAt.below {w : World} {H W C : Int} {A : Option Addr} {n c : Nat} {x0 x1 x2 x8 x11 x12 x13 x14 x15 x16 x17 x18 : Value} {K S P O Z : Int} {WA BA : Option Addr} {nW cW nB cB : Nat} {X Y U : Int} {g6 : Nat} {w1 w2 : World} {B' : Nat} (h : OfAt w H W C A n c x0 x1 x2 x8 x11 x12 x13 x14 x15 x16 x17 x18 K S P O Z WA BA nW cW nB cB X Y U g6 w1) (h6 : w.heap.size + 3 ≤ g6) (hB : g6 < B') (hb : Below B' w1 w2) : OfAt w H W C A n c x0 x1 x2 x8 x11 x12 x13 x14 x15 x16 x17 x18 K S P O Z WA BA nW cW nB cB X Y U g6 w2 := by
  obtain ⟨a1, a2, a3, a4, a5, a6⟩ := h
  exact ⟨a1.below (by omega) hb, a2.below (by omega) hb, a3.below (by omega) hb, a4.below hB hb, a5.trans (hb.mono (by omega)), Nat.le_trans a6 hb.size⟩
theorem own_set4 {w : World} {base g : Nat} {e : TypeId} {size n : Nat} {v : Value} {xs : List Value} {x y z u : Value} (h : w.ownsRow base e size v n xs) (hg : g < base) : ((((w.setCell ⟨g, 0, none⟩ x).setCell ⟨g, 1, none⟩ y).setCell ⟨g, 2, none⟩ z).setCell ⟨g, 3, none⟩ u).ownsRow base e size v n xs :=
  own_set (own_set (own_set (own_set h _ _ hg) _ _ hg) _ _ hg) _ _ hg
set_option maxHeartbeats 1000000 in
theorem of_bad (H W C : Int) (A : Option Addr) (n c : Nat) (x0 x1 x2 x8 x11 x12 x13 x14 x15 x16 x17 x18 : Value) (K S P O Z : Int) (WA BA : Option Addr) (nW cW nB cB : Nat) (ht : tensB H W C n = false) (w : World) :
    Calls Try.prog 16 #[.agg #[.int .i64 H, .int .i64 W, .int .i64 C, .slice A n c], .agg #[x0, x1, x2, .int .i64 K, .int .i64 S, .int .i64 P, .int .i64 O, .int .i8 Z, x8, .slice WA nW cW, .slice BA nB cB, x11, x12, x13, x14, x15, x16, x17, x18]] w (MadeA w 0 0 0 0 [] (.int .i64 5)) := by
  have HT := Lib.hid ht
  clear ht
  go_enter Try.func16, Try.ntmps16
  go_wp2_with (go_at_call 24; (refine (right_to H W C A n c false HT.out _).mono ?_); (rintro e w1 ⟨rfl, hb⟩; obtain ⟨hcc, hff⟩ := Kit.bcell hb; have hz : w.heap.size + 3 ≤ w1.heap.size := (by have := hb.size; simp at this; omega); have hz2 : w.heap.size + 2 < w1.heap.size := (by omega); have HB := Lib.hid hb; clear hb))
  refine bodyPost_ret (Kit.results_ct rfl _ _ (w.heap.size + 2) 0 [.int .i64 0, .int .i64 0, .int .i64 0, .slice none 0 0] _ rfl (range_4 (by go_cell) (by go_cell) (by go_cell) (by go_cell)) Try.underlying54 rfl (by kernel_rfl)) rfl ?_
  have hB1 : Below w.heap.size w w1 := Below.trans ((((Below.refl _ _).alloc (Nat.le_refl _) _).alloc (by simp) _).alloc (by simp; omega) _) (HB.out.mono (by first | omega | (simp; done) | (simp; omega)))
  exact ⟨_, rfl, World.ownsRow_nil _ _ _ _, (((hB1.setCell (p := ⟨w.heap.size + 2, 0, none⟩) (by simp) _).setCell (p := ⟨w.heap.size + 2, 1, none⟩) (by simp) _).setCell (p := ⟨w.heap.size + 2, 2, none⟩) (by simp) _).setCell (p := ⟨w.heap.size + 2, 3, none⟩) (by simp) _⟩
set_option maxHeartbeats 2000000 in
theorem of_err (H W C : Int) (A : Option Addr) (n c : Nat) (x0 x1 x2 x8 x11 x12 x13 x14 x15 x16 x17 x18 : Value) (K S P O Z : Int) (WA BA : Option Addr) (nW cW nB cB : Nat) (ht : tensB H W C n = true) (er : Int) (he : convE H W C K S P O nW nB = er) (h0 : er ≠ 0) (w : World) :
    Calls Try.prog 16 #[.agg #[.int .i64 H, .int .i64 W, .int .i64 C, .slice A n c], .agg #[x0, x1, x2, .int .i64 K, .int .i64 S, .int .i64 P, .int .i64 O, .int .i8 Z, x8, .slice WA nW cW, .slice BA nB cB, x11, x12, x13, x14, x15, x16, x17, x18]] w (MadeA w 0 0 0 0 [] (.int .i64 er)) := by
  have hS : convS H W C K S P O nW nB = #[.int .i64 0, .int .i64 0, .int .i64 0] := by unfold convS; rw [he, if_neg h0]
  have HT := Lib.hid ht
  have HE := Lib.hid he
  have HS := Lib.hid hS
  have h0b : (er != 0) = true := by simpa using h0
  have h0c : (er == 0) = false := by simpa using h0
  clear ht he hS
  go_enter Try.func16, Try.ntmps16
  go_wp2_with (first
    | (go_at_call 24
       have hal : Below w.heap.size w (((w.alloc (.cells #[.int .i64 H, .int .i64 W, .int .i64 C, .slice A n c] 51)).alloc (.cells #[x0, x1, x2, .int .i64 K, .int .i64 S, .int .i64 P, .int .i64 O, .int .i8 Z, x8, .slice WA nW cW, .slice BA nB cB, x11, x12, x13, x14, x15, x16, x17, x18] 28)).alloc (.cells #[.int .i64 0, .int .i64 0, .int .i64 0, .slice none 0 0] 54)) := (((Below.refl _ _).alloc (by first | exact Nat.le_refl _ | (simp; done) | (simp; omega)) _).alloc (by first | exact Nat.le_refl _ | (simp; done) | (simp; omega)) _).alloc (by first | exact Nat.le_refl _ | (simp; done) | (simp; omega)) _
       refine (right_to H W C A n c true HT.out _).mono ?_
       rintro e w1 ⟨rfl, hb⟩
       have hh : Below w.heap.size w w1 := hal.trans (hb.mono hal.size)
       have qTB := (boxNew H W C A n c 51) w
       try simp only [World.size_alloc] at qTB
       have TB := Lib.hid ((qTB.below (B' := w.heap.size + 1) (by omega) ((((Below.refl _ _).alloc (by first | exact Nat.le_refl _ | (simp; done) | (simp; omega)) _).alloc (by first | exact Nat.le_refl _ | (simp; done) | (simp; omega)) _).mono (by simp))).below (by first | (simp; done) | (simp; omega)) hb)
       have yTB : w.heap.size < w1.heap.size := by have := hb.size; simp at this; omega
       clear qTB
       have qTN := (NodeAt.new x0 x1 x2 x8 x11 x12 x13 x14 x15 x16 x17 x18 K S P O Z WA BA nW cW nB cB 28) (w.alloc (.cells #[.int .i64 H, .int .i64 W, .int .i64 C, .slice A n c] 51))
       try simp only [World.size_alloc] at qTN
       have TN := Lib.hid ((qTN.below (B' := w.heap.size + 2) (by omega) (((Below.refl _ _).alloc (by first | exact Nat.le_refl _ | (simp; done) | (simp; omega)) _).mono (by simp))).below (by first | (simp; done) | (simp; omega)) hb)
       have yTN : w.heap.size + 1 < w1.heap.size := by have := hb.size; simp at this; omega
       clear qTN
       have qFR := (freshNew 54) ((w.alloc (.cells #[.int .i64 H, .int .i64 W, .int .i64 C, .slice A n c] 51)).alloc (.cells #[x0, x1, x2, .int .i64 K, .int .i64 S, .int .i64 P, .int .i64 O, .int .i8 Z, x8, .slice WA nW cW, .slice BA nB cB, x11, x12, x13, x14, x15, x16, x17, x18] 28))
       try simp only [World.size_alloc] at qFR
       have FR := Lib.hid (qFR.below (by first | (simp; done) | (simp; omega)) hb)
       have yFR : w.heap.size + 2 < w1.heap.size := by have := hb.size; simp at this; omega
       clear qFR
       have HBW : Hid (Below w.heap.size w w1) := Lib.hid hh
       obtain ⟨tbp0, tbp1, tbp2, tbp3⟩ := TB.out
       clear hb hh hal)
    | (go_at_call 25
       have hal : Below w1.heap.size w1 w1 := Below.refl _ _
       refine (conv_to H W C x0 x1 x2 x8 x11 x12 x13 x14 x15 x16 x17 x18 K S P O Z WA BA nW cW nB cB er _ HE.out HS.out _).mono ?_
       rintro e w2 ⟨rfl, hb⟩
       have hh : Below w1.heap.size w1 w2 := hal.trans (hb.mono hal.size)
       replace TB := Lib.hid (TB.out.below yTB hh)
       replace yTB := Nat.lt_of_lt_of_le yTB hh.size
       replace TN := Lib.hid (TN.out.below yTN hh)
       replace yTN := Nat.lt_of_lt_of_le yTN hh.size
       replace FR := Lib.hid (FR.out.below yFR hh)
       replace yFR := Nat.lt_of_lt_of_le yFR hh.size
       replace HBW := Lib.hid (HBW.out.trans (hh.mono HBW.out.size))
       clear tbp0 tbp1 tbp2 tbp3
       obtain ⟨⟨z0, z1, z2, z3⟩, z4, z5, z6, z7⟩ := FR.out
       obtain ⟨tbp0, tbp1, tbp2, tbp3⟩ := TB.out
       clear hb hh hal)
    | (refine wpList_load_mid rfl 28 (.tmp 3) rfl (w.heap.size + 1) 0 rfl [x0, x1, x2, .int .i64 K, .int .i64 S, .int .i64 P, .int .i64 O, .int .i8 Z, x8, .slice WA nW cW, .slice BA nB cB, x11, x12, x13, x14, x15, x16, x17, x18] _ TN.out Try.underlying28 rfl (by kernel_rfl) ?_))
  obtain ⟨⟨z0, z1, z2, z3⟩, z4, z5, z6, z7⟩ := FR.out
  refine bodyPost_ret (Kit.results_ct rfl _ _ (w.heap.size + 2) 0 [.int .i64 0, .int .i64 0, .int .i64 0, .slice none 0 0] _ rfl (range_4 (by go_cell) (by go_cell) (by go_cell) (by go_cell)) Try.underlying54 rfl (by kernel_rfl)) rfl ?_
  exact ⟨_, rfl, World.ownsRow_nil _ _ _ _, by exact ((((HBW.out.setCell (p := ⟨w.heap.size + 2, 0, none⟩) (by simp) _).setCell (p := ⟨w.heap.size + 2, 1, none⟩) (by simp) _).setCell (p := ⟨w.heap.size + 2, 2, none⟩) (by simp) _).setCell (p := ⟨w.heap.size + 2, 3, none⟩) (by simp) _).alloc (by simp; omega) _⟩
set_option maxRecDepth 100000 in
set_option maxHeartbeats 8000000 in
theorem of_yes (H W C : Int) (A : Option Addr) (zs : List Int) (n c : Nat) (hn : zs.length = n) (ht : tensB H W C n = true) (hz : I8b zs) (x0 x1 x2 x8 x11 x12 x13 x14 x15 x16 x17 x18 : Value) (K S P O Z : Int) (WA BA : Option Addr) (nW cW nB cB : Nat) (ws : List Int) (hws : ws.length = nW) (hwc : nW ≤ cW) (hwb : I8b ws) (bs : List Int) (hbs : bs.length = nB)
    (he : convE H W C K S P O nW nB = 0) (a b oo d kk : Nat) (ha : stepsM H K S P = (a : Int)) (hb : stepsM W K S P = (b : Int)) (hO : O = (oo : Int)) (hd : C = (d : Int)) (hk : K = (kk : Int)) (N : Nat) (hN : a * b * oo = N) (z1 : -128 ≤ Z) (z2 : Z ≤ 127)
    (w : World) (hr : Kit.Rd w w.heap.size A (I8s zs)) (hrw : Kit.Rd w w.heap.size WA (I8s ws)) (hrb : Kit.Rd w w.heap.size BA (I32v bs)) :
    Calls Try.prog 16 #[.agg #[.int .i64 H, .int .i64 W, .int .i64 C, .slice A n c], .agg #[x0, x1, x2, .int .i64 K, .int .i64 S, .int .i64 P, .int .i64 O, .int .i8 Z, x8, .slice WA nW cW, .slice BA nB cB, x11, x12, x13, x14, x15, x16, x17, x18]] w (MadeA w (a : Int) (b : Int) O N (rowL (gridF b oo (sumF zs ws bs H W C S P d kk Z)) N) (.int .i64 0)) := by
  obtain ⟨hsl, hnW, hn16, hnB⟩ := convE_ok he
  obtain ⟨hs0, har1, har2, -, -, hsr⟩ := slide_ok hsl
  obtain ⟨-, -, k1, k2, st1, st2, pd1, pd2, -⟩ := argsB_yes har1
  rw [ha, hb] at hsr
  obtain ⟨q1, q2, q3, q4, q5, q6, q7⟩ := shapeB_yes hsr
  have hNI : (a : Int) * (b : Int) * O = (N : Int) := by rw [hO, ← hN]; simp
  have hN2 : N ≤ 1024 := by rw [hNI] at q7; omega
  have hel : elemsZ (a : Int) (b : Int) O = (N : Int) := by rw [elemsZ_yes hsr]; exact hNI
  have hS : convS H W C K S P O nW nB = #[.int .i64 (a : Int), .int .i64 (b : Int), .int .i64 O] := by unfold convS; rw [he, if_pos rfl, ha, hb]
  have hnWN : oo * kk * kk * d = nW := by
    have : ((oo * kk * kk * d : Nat) : Int) = (nW : Int) := by rw [hnW, hO, hk, hd]; simp
    omega
  obtain ⟨F, hF⟩ : ∃ F, F = gridF b oo (sumF zs ws bs H W C S P d kk Z) := ⟨_, rfl⟩
  have hFF : ∀ i j k : Nat, j < b → k < oo → F ((i * b + j) * oo + k) = sumF zs ws bs H W C S P d kk Z i j k := fun i j k hj hk => by rw [hF, grid_at b oo _ hj hk]
  rw [← hF]
  have hboo : 0 < nB := by omega
  obtain ⟨bb, ob, rfl, hbb, hcb⟩ := ints_getD hrb (j := 0) (by omega)
  obtain ⟨i0, hi0, hi1, hi2, hi3⟩ := info_parts32 info_i32
  have hmk : ∀ w : World, (Instr.makeSlice 24 (.int .i64 0) (.int .i64 (N : Int))).run Try.prog w = .ok (.slice (some ⟨w.heap.size, 0, none⟩) 0 N) (w.alloc (.cells (madeCells #[.int .i32 0] N) 21)) := fun w => by
    have h := run_make (P := Try.prog) w 24 21 i0 (.int .i32 0) Try.underlying24 hi0 hi1 .i64 .i64 0 N (Int.le_refl _) (by omega) (by rw [hi3]; omega) (by omega)
    rw [hi2, Nat.mul_one, show (Value.int .i32 0).cells = #[.int .i32 0] from rfl] at h
    simpa using h
  have hkk1 : 1 ≤ kk := by omega
  have hkk7 : kk ≤ 7 := by omega
  have hOO : O = (oo : Int) := hO
  have HT := Lib.hid ht
  have HE := Lib.hid he
  have HS := Lib.hid hS
  have HEL := Lib.hid hel
  have HFF := Lib.hid hFF
  have HN := Lib.hid hn
  have HZ := Lib.hid hz
  have HWS := Lib.hid hws
  have HWB := Lib.hid hwb
  have HBS := Lib.hid hbs
  have HO := Lib.hid hO
  have HD := Lib.hid hd
  have HK := Lib.hid hk
  have HNN := Lib.hid hN
  have HNW := Lib.hid hnWN
  have HNB := Lib.hid hnB
  have HR := Lib.hid hr
  have HRW := Lib.hid hrw
  have HCB := Lib.hid hcb
  clear hcb ht he hS hel hFF hn hz hws hwb hbs hO hd hk hN hnWN hr hrw hrb hnW hnB hsl hs0 har1 har2 hsr q7 hNI hF ha hb hOO
  go_enter Try.func16, Try.ntmps16
  have HR9 := HR
  have HRW9 := HRW
  go_wp2_with (first
    | (go_at_call 24
       have hal : Below w.heap.size w (((w.alloc (.cells #[.int .i64 H, .int .i64 W, .int .i64 C, .slice A n c] 51)).alloc (.cells #[x0, x1, x2, .int .i64 K, .int .i64 S, .int .i64 P, .int .i64 O, .int .i8 Z, x8, .slice WA nW cW, .slice (some ⟨bb, ob, none⟩) nB cB, x11, x12, x13, x14, x15, x16, x17, x18] 28)).alloc (.cells #[.int .i64 0, .int .i64 0, .int .i64 0, .slice none 0 0] 54)) := (((Below.refl _ _).alloc (by first | exact Nat.le_refl _ | (simp; done) | (simp; omega)) _).alloc (by first | exact Nat.le_refl _ | (simp; done) | (simp; omega)) _).alloc (by first | exact Nat.le_refl _ | (simp; done) | (simp; omega)) _
       refine (right_to H W C A n c true HT.out _).mono ?_
       rintro e w1 ⟨rfl, hb⟩
       have hh : Below w.heap.size w w1 := hal.trans (hb.mono hal.size)
       have qTB := (boxNew H W C A n c 51) w
       try simp only [World.size_alloc] at qTB
       have TB := Lib.hid ((qTB.below (B' := w.heap.size + 1) (by omega) ((((Below.refl _ _).alloc (by first | exact Nat.le_refl _ | (simp; done) | (simp; omega)) _).alloc (by first | exact Nat.le_refl _ | (simp; done) | (simp; omega)) _).mono (by simp))).below (by first | (simp; done) | (simp; omega)) hb)
       have yTB : w.heap.size < w1.heap.size := by have := hb.size; simp at this; omega
       clear qTB
       have qTN := (NodeAt.new x0 x1 x2 x8 x11 x12 x13 x14 x15 x16 x17 x18 K S P O Z WA (some ⟨bb, ob, none⟩) nW cW nB cB 28) (w.alloc (.cells #[.int .i64 H, .int .i64 W, .int .i64 C, .slice A n c] 51))
       try simp only [World.size_alloc] at qTN
       have TN := Lib.hid ((qTN.below (B' := w.heap.size + 2) (by omega) (((Below.refl _ _).alloc (by first | exact Nat.le_refl _ | (simp; done) | (simp; omega)) _).mono (by simp))).below (by first | (simp; done) | (simp; omega)) hb)
       have yTN : w.heap.size + 1 < w1.heap.size := by have := hb.size; simp at this; omega
       clear qTN
       have qFR := (freshNew 54) ((w.alloc (.cells #[.int .i64 H, .int .i64 W, .int .i64 C, .slice A n c] 51)).alloc (.cells #[x0, x1, x2, .int .i64 K, .int .i64 S, .int .i64 P, .int .i64 O, .int .i8 Z, x8, .slice WA nW cW, .slice (some ⟨bb, ob, none⟩) nB cB, x11, x12, x13, x14, x15, x16, x17, x18] 28))
       try simp only [World.size_alloc] at qFR
       have FR := Lib.hid (qFR.below (by first | (simp; done) | (simp; omega)) hb)
       have yFR : w.heap.size + 2 < w1.heap.size := by have := hb.size; simp at this; omega
       clear qFR
       replace HR := Lib.hid ((HR.out.below hh).more hh.size)
       replace HRW := Lib.hid ((HRW.out.below hh).more hh.size)
       have HBW : Hid (Below w.heap.size w w1) := Lib.hid hh
       obtain ⟨tbp0, tbp1, tbp2, tbp3⟩ := TB.out
       clear hb hh hal)
    | (go_at_call 25
       have hal : Below w1.heap.size w1 w1 := Below.refl _ _
       refine (conv_to H W C x0 x1 x2 x8 x11 x12 x13 x14 x15 x16 x17 x18 K S P O Z WA (some ⟨bb, ob, none⟩) nW cW nB cB 0 _ HE.out HS.out _).mono ?_
       rintro e w2 ⟨rfl, hb⟩
       have hh : Below w1.heap.size w1 w2 := hal.trans (hb.mono hal.size)
       replace TB := Lib.hid (TB.out.below yTB hh)
       replace yTB := Nat.lt_of_lt_of_le yTB hh.size
       replace TN := Lib.hid (TN.out.below yTN hh)
       replace yTN := Nat.lt_of_lt_of_le yTN hh.size
       replace FR := Lib.hid (FR.out.below yFR hh)
       replace yFR := Nat.lt_of_lt_of_le yFR hh.size
       replace HR := Lib.hid ((HR.out.below hh).more hh.size)
       replace HRW := Lib.hid ((HRW.out.below hh).more hh.size)
       replace HBW := Lib.hid (HBW.out.trans (hh.mono HBW.out.size))
       clear tbp0 tbp1 tbp2 tbp3
       have hg2 : w.heap.size + 3 ≤ w2.heap.size := yFR
       obtain ⟨tbp0, tbp1, tbp2, tbp3⟩ := TB.out
       clear hb hh hal)
    | (go_at_call 26
       have hal : Below w2.heap.size w2 (w2.alloc (.cells #[.int .i64 (a : Int), .int .i64 (b : Int), .int .i64 O] 49)) := (Below.refl _ _).alloc (by first | exact Nat.le_refl _ | (simp; done) | (simp; omega)) _
       refine (elems_to (a : Int) (b : Int) O N HEL.out _).mono ?_
       rintro e w3 ⟨rfl, hb⟩
       have hh : Below w2.heap.size w2 w3 := hal.trans (hb.mono hal.size)
       have qTS := (shapeNew (a : Int) (b : Int) O 49) w2
       try simp only [World.size_alloc] at qTS
       have TS := Lib.hid (qTS.below (by first | (simp; done) | (simp; omega)) hb)
       have yTS : w2.heap.size < w3.heap.size := by have := hb.size; simp at this; omega
       clear qTS
       replace TB := Lib.hid (TB.out.below yTB hh)
       replace yTB := Nat.lt_of_lt_of_le yTB hh.size
       replace TN := Lib.hid (TN.out.below yTN hh)
       replace yTN := Nat.lt_of_lt_of_le yTN hh.size
       replace FR := Lib.hid (FR.out.below yFR hh)
       replace yFR := Nat.lt_of_lt_of_le yFR hh.size
       replace HR := Lib.hid ((HR.out.below hh).more hh.size)
       replace HRW := Lib.hid ((HRW.out.below hh).more hh.size)
       replace HBW := Lib.hid (HBW.out.trans (hh.mono HBW.out.size))
       clear tbp0 tbp1 tbp2 tbp3
       obtain ⟨tbp0, tbp1, tbp2, tbp3⟩ := TB.out
       obtain ⟨tsp0, tsp1, tsp2⟩ := TS.out
       clear hb hh hal)
    | (refine wpList_load_mid rfl 28 (.tmp 3) rfl (w.heap.size + 1) 0 rfl [x0, x1, x2, .int .i64 K, .int .i64 S, .int .i64 P, .int .i64 O, .int .i8 Z, x8, .slice WA nW cW, .slice (some ⟨bb, ob, none⟩) nB cB, x11, x12, x13, x14, x15, x16, x17, x18] _ TN.out Try.underlying28 rfl (by kernel_rfl) ?_))
  have hal : Below w3.heap.size w3 (w3.alloc (.cells (madeCells #[.int .i32 0] N) 21)) := (Below.refl _ _).alloc (Nat.le_refl _) _
  have h63 : w.heap.size + 3 ≤ w2.heap.size := hg2
  have hOA : Hid (OfAt w H W C A n c x0 x1 x2 x8 x11 x12 x13 x14 x15 x16 x17 x18 K S P O Z WA (some ⟨bb, ob, none⟩) nW cW nB cB (a : Int) (b : Int) O w2.heap.size (w3.alloc (.cells (madeCells #[.int .i32 0] N) 21))) := Lib.hid ⟨TB.out.below yTB hal, TN.out.below yTN hal, FR.out.below yFR hal, TS.out.below yTS hal, HBW.out.trans (hal.mono HBW.out.size), by simp; omega⟩
  have hW : Hid ((w3.alloc (.cells (madeCells #[.int .i32 0] N) 21)).ownsRow (w2.heap.size + 1) 21 1 (.slice (some ⟨w3.heap.size, 0, none⟩) 0 N) 0 (I32v (rowL F 0))) := Lib.hid (World.ownsRow_made (e := 21) w3 _ N (by omega) (by unfold maxLen; omega) (by rw [size_madeCells]; simp))
  clear TB TN FR TS yTB yTN yFR yTS hal tbp0 tbp1 tbp2 tbp3 tsp0 tsp1 tsp2 HBW hg2
  generalize (w3.alloc (.cells (madeCells #[.int .i32 0] N) 21)) = Wm at hOA hW ⊢
  generalize w2.heap.size = g6 at hOA hW h63 ⊢
  generalize (⟨w3.heap.size, 0, none⟩ : Addr) = ad at hW ⊢
  go_loopw [8, 32] (fun v u wr => ∃ i : Nat, i ≤ a ∧ u = .int .i64 i ∧ Hid (OfAt w H W C A n c x0 x1 x2 x8 x11 x12 x13 x14 x15 x16 x17 x18 K S P O Z WA (some ⟨bb, ob, none⟩) nW cW nB cB (a : Int) (b : Int) O g6 wr) ∧ Hid (wr.ownsRow (g6 + 1) 21 1 v (i * b * oo) (I32v (rowL F (i * b * oo))))) (fun _ u _ => a - (intOf u).toNat)
  case atStart => exact ⟨0, Nat.zero_le _, rfl, hOA, by simpa using hW⟩
  case round =>
    obtain ⟨i, hi, rfl, hA0, hW0⟩ := hrel
    clear hOA hW
    obtain ⟨Av0, cv0, rfl, -, -, -⟩ := Kit.own_rd hW0.out
    obtain ⟨-, -, -, ⟨s1, s2, s3⟩, -, -⟩ := hA0.out
    by_cases hlt : i < a
    · have hiI : (i : Int) < (a : Int) := by omega
      go_wp2_with fail
      go_loopw [8, 37] (fun v u wr => ∃ j : Nat, j ≤ b ∧ u = .int .i64 j ∧ Hid (OfAt w H W C A n c x0 x1 x2 x8 x11 x12 x13 x14 x15 x16 x17 x18 K S P O Z WA (some ⟨bb, ob, none⟩) nW cW nB cB (a : Int) (b : Int) O g6 wr) ∧ Hid (wr.ownsRow (g6 + 1) 21 1 v ((i * b + j) * oo) (I32v (rowL F ((i * b + j) * oo))))) (fun _ u _ => b - (intOf u).toNat)
      case atStart => exact ⟨0, Nat.zero_le _, rfl, hA0, by simpa using hW0⟩
      case round =>
        obtain ⟨j, hj, rfl, hA1, hW1⟩ := hrel
        clear hA0 hW0 s1 s2 s3
        obtain ⟨Av1, cv1, rfl, -, -, -⟩ := Kit.own_rd hW1.out
        obtain ⟨-, -, -, ⟨s1, s2, s3⟩, -, -⟩ := hA1.out
        by_cases hltj : j < b
        · have hjI : (j : Int) < (b : Int) := by omega
          obtain ⟨o, ho⟩ : ∃ o, (i * b + j) * oo = o := ⟨_, rfl⟩
          rw [ho] at hW1 ⊢
          have HOO := Lib.hid ho
          clear ho
          go_wp2_with fail
          go_loopw [8, 42] (fun v u wr => ∃ k : Nat, k ≤ oo ∧ u = .int .i64 k ∧ Hid (OfAt w H W C A n c x0 x1 x2 x8 x11 x12 x13 x14 x15 x16 x17 x18 K S P O Z WA (some ⟨bb, ob, none⟩) nW cW nB cB (a : Int) (b : Int) O g6 wr) ∧ Hid (wr.ownsRow (g6 + 1) 21 1 v (o + k) (I32v (rowL F (o + k))))) (fun _ u _ => oo - (intOf u).toNat)
          case atStart => exact ⟨0, Nat.zero_le _, rfl, hA1, hW1⟩
          case round =>
            obtain ⟨k, hk, rfl, hA2, hW2⟩ := hrel
            clear hA1 hW1 s1 s2 s3
            obtain ⟨Av, cv, rfl, -, -, -⟩ := Kit.own_rd hW2.out
            obtain ⟨hbx, hnd, -, ⟨s1, s2, s3⟩, hbw, hsz⟩ := hA2.out
            have HBW := Lib.hid hbw
            clear hbw
            by_cases hltk : k < oo
            · have hkI : (k : Int) < O := by have := HO.out; omega
              have hk0 : (0 : Int) ≤ (k : Int) := by omega
              have hkB : (k : Int) < (nB : Int) := by have := HO.out; have := HNB.out; omega
              have hom : o + k < N := by rw [← HOO.out, ← HNN.out]; exact at_lt hlt hltj hltk
              have hkl : k < bs.length := by have := HBS.out; have := HO.out; have := HNB.out; omega
              have hcb : wr.cell? ⟨bb, ob + k, none⟩ = some (.int .i32 (bs.getD k 0)) := (HBW.out.cell (p := ⟨bb, ob + k, none⟩) hbb).trans (HCB.out k hkl)
              obtain ⟨hs, hhs⟩ : ∃ hs, (i : Int) * S = hs := ⟨_, rfl⟩
              obtain ⟨vs, hvs⟩ : ∃ vs, (j : Int) * S = vs := ⟨_, rfl⟩
              have b1 : 0 ≤ hs ∧ hs ≤ 64 := by
                rw [← hhs]
                exact ⟨Int.mul_nonneg (by omega) (by omega), Int.le_trans (Int.mul_le_mul (show (i : Int) ≤ 16 by omega) st2 (by omega) (by omega)) (by omega)⟩
              have b2 : 0 ≤ vs ∧ vs ≤ 64 := by
                rw [← hvs]
                exact ⟨Int.mul_nonneg (by omega) (by omega), Int.le_trans (Int.mul_le_mul (show (j : Int) ≤ 16 by omega) st2 (by omega) (by omega)) (by omega)⟩
              have e1 : IntKind.i64.wrap hs = hs := IntWalk.i64_in _ (by omega)
              have e2 : IntKind.i64.wrap vs = vs := IntWalk.i64_in _ (by omega)
              have e3 : IntKind.i64.wrap (hs - P) = hs - P := IntWalk.i64_in _ (by omega)
              have e4 : IntKind.i64.wrap (vs - P) = vs - P := IntWalk.i64_in _ (by omega)
              obtain ⟨R1, hR1⟩ : ∃ R1, IntKind.i32.wrap (winF zs ws H W C (hs - P) (vs - P) d kk k Z) = R1 := ⟨_, rfl⟩
              have HR1 := Lib.hid hR1
              have hF1 := HFF.out i j k hltj hltk
              unfold sumF at hF1
              rw [HOO.out, hhs, hvs, ← wrap32_add', hR1] at hF1
              generalize bs.getD k 0 = bo at hcb hF1
              obtain ⟨x, hx⟩ : ∃ x, F (o + k) = x := ⟨_, rfl⟩
              have hadd : IntKind.i32.wrap (bo + R1) = x := by rw [← hF1]; exact hx
              have HXX := Lib.hid hx
              clear hx hF1 hR1
              go_wp2_with fail
              refine wp_region_held_drew (S := fun w' => BoxAt w.heap.size H W C A n c w' ∧ NodeAt (w.heap.size + 1) x0 x1 x2 x8 x11 x12 x13 x14 x15 x16 x17 x18 K S P O Z WA (some ⟨bb, ob, none⟩) nW cW nB cB w' ∧ w'.cell? ⟨bb, ob + k, none⟩ = some (.int .i32 bo)) (by kernel_rfl) ⟨hbx, hnd, hcb⟩ (fun hHeld => ?_)
              clear hbx hnd hcb s1 s2 s3
              replace HBW := Lib.hid HBW.out.drew
              have hA3 : Hid (OfAt w H W C A n c x0 x1 x2 x8 x11 x12 x13 x14 x15 x16 x17 x18 K S P O Z WA (some ⟨bb, ob, none⟩) nW cW nB cB (a : Int) (b : Int) O g6 wr.drew) := Lib.hid (hA2.out.below h63 (Nat.lt_succ_self _) (Below.refl _ _).drew)
              have hW3 : Hid (wr.drew.ownsRow (g6 + 1) 21 1 (.slice Av (o + k) cv) (o + k) (I32v (rowL F (o + k)))) := Lib.hid (Kit.own_below hW2.out (Below.refl _ _).drew)
              have hsz : g6 + 1 ≤ wr.drew.heap.size := hsz
              clear hA2 hW2
              generalize wr.drew = Wa at HBW hA3 hW3 hsz hHeld ⊢
              refine wpAnyH_take (i := 0) (oi := ({ dst := some 45, op := Op.move (Operand.tmp 8), type := 24, pos := "conv.go:35", after := #[], guard := none } : Oper)) (v := ?_) rfl (by kernel_rfl) (by kernel_rfl) (by kernel_rfl) (fun _ _ _ h => h) (Or.inl ⟨by rfl, ?_⟩) (by assumption) ?_
              rotate_left
              · intro wS hSw
                first
                  | (go_simp; done)
                  | (go_simp; with_reducible rfl)
              try simp only [Act.put, List.setIfInBounds_toArray, List.set_cons_zero, List.set_cons_succ]
              refine wpAnyH_take (i := 1) (oi := ({ dst := some 46, op := Op.fieldAddr 28 (Operand.tmp 3) 10, type := 0, pos := "conv.go:35", after := #[], guard := none } : Oper)) (v := ?_) rfl (by kernel_rfl) (by kernel_rfl) (by kernel_rfl) (fun _ _ _ h => h) (Or.inl ⟨by rfl, ?_⟩) (by assumption) ?_
              rotate_left
              · intro wS hSw
                first
                  | (go_simp; done)
                  | (go_simp; with_reducible rfl)
              try simp only [Act.put, List.setIfInBounds_toArray, List.set_cons_zero, List.set_cons_succ]
              refine wpAnyH_take (i := 2) (oi := ({ dst := some 47, op := Op.load 24 (Operand.tmp 46), type := 24, pos := "conv.go:35", after := #[{ on := 1, ground := Ground.data }], guard := none } : Oper)) (v := ?_) rfl (by kernel_rfl) (by kernel_rfl) (by kernel_rfl) (fun _ _ _ h => h) (Or.inl ⟨by rfl, ?_⟩) (by assumption) ?_
              rotate_left
              · intro wS hSw
                obtain ⟨hq1, hq2, hq3⟩ := hSw
                have hn9 := hq2.at 10 _ rfl; clear hq1 hq2
                first
                  | (go_simp; done)
                  | (go_simp; with_reducible rfl)
              try simp only [Act.put, List.setIfInBounds_toArray, List.set_cons_zero, List.set_cons_succ]
              refine wpAnyH_take (i := 3) (oi := ({ dst := some 48, op := Op.move (Operand.tmp 11), type := 3, pos := "conv.go:35", after := #[], guard := none } : Oper)) (v := ?_) rfl (by kernel_rfl) (by kernel_rfl) (by kernel_rfl) (fun _ _ _ h => h) (Or.inl ⟨by rfl, ?_⟩) (by assumption) ?_
              rotate_left
              · intro wS hSw
                first
                  | (go_simp; done)
                  | (go_simp; with_reducible rfl)
              try simp only [Act.put, List.setIfInBounds_toArray, List.set_cons_zero, List.set_cons_succ]
              refine wpAnyH_take (i := 4) (oi := ({ dst := some 49, op := Op.indexAddr 24 (Operand.tmp 47) (Operand.tmp 48), type := 0, pos := "conv.go:35", after := #[{ on := 2, ground := Ground.data }, { on := 3, ground := Ground.data }], guard := none } : Oper)) (v := ?_) rfl (by kernel_rfl) (by kernel_rfl) (by kernel_rfl) (fun _ _ _ h => h) (Or.inl ⟨by rfl, ?_⟩) (by assumption) ?_
              rotate_left
              · intro wS hSw
                first
                  | (go_simp; done)
                  | (go_simp; with_reducible rfl)
              try simp only [Act.put, List.setIfInBounds_toArray, List.set_cons_zero, List.set_cons_succ]
              refine wpAnyH_take (i := 5) (oi := ({ dst := some 50, op := Op.load 21 (Operand.tmp 49), type := 21, pos := "conv.go:35", after := #[{ on := 4, ground := Ground.data }], guard := none } : Oper)) (v := ?_) rfl (by kernel_rfl) (by kernel_rfl) (by kernel_rfl) (fun _ _ _ h => h) (Or.inl ⟨by rfl, ?_⟩) (by assumption) ?_
              rotate_left
              · intro wS hSw
                obtain ⟨hq1, hq2, hq3⟩ := hSw
                clear hq1 hq2
                first
                  | (go_simp; done)
                  | (go_simp; with_reducible rfl)
              try simp only [Act.put, List.setIfInBounds_toArray, List.set_cons_zero, List.set_cons_succ]
              refine wpAnyH_take (i := 6) (oi := ({ dst := some 51, op := Op.load 51 (Operand.tmp 2), type := 51, pos := "conv.go:35", after := #[], guard := none } : Oper)) (v := ?_) rfl (by kernel_rfl) (by kernel_rfl) (by kernel_rfl) (fun _ _ _ h => h) (Or.inl ⟨by rfl, ?_⟩) (by assumption) ?_
              rotate_left
              · intro wS hSw
                obtain ⟨hq1, hq2, hq3⟩ := hSw
                obtain ⟨s1, s2, s3, s4⟩ := hq1; clear hq2
                first
                  | (go_simp; done)
                  | (go_simp; with_reducible rfl)
              try simp only [Act.put, List.setIfInBounds_toArray, List.set_cons_zero, List.set_cons_succ]
              refine wpAnyH_take (i := 7) (oi := ({ dst := some 52, op := Op.load 28 (Operand.tmp 3), type := 28, pos := "conv.go:35", after := #[], guard := none } : Oper)) (v := .agg #[x0, x1, x2, .int .i64 K, .int .i64 S, .int .i64 P, .int .i64 O, .int .i8 Z, x8, .slice WA nW cW, .slice (some ⟨bb, ob, none⟩) nB cB, x11, x12, x13, x14, x15, x16, x17, x18]) rfl (by kernel_rfl) (by kernel_rfl) (by kernel_rfl) (fun _ _ _ h => h) (yieldsIf_load_mid (by rfl) _ _ rfl (w.heap.size + 1) 0 rfl [x0, x1, x2, .int .i64 K, .int .i64 S, .int .i64 P, .int .i64 O, .int .i8 Z, x8, .slice WA nW cW, .slice (some ⟨bb, ob, none⟩) nB cB, x11, x12, x13, x14, x15, x16, x17, x18] _ (fun w' h => h.2.1) Try.underlying28 rfl (by kernel_rfl)) (by assumption) ?_
              try simp only [Act.put, List.setIfInBounds_toArray, List.set_cons_zero, List.set_cons_succ]
              refine wpAnyH_take (i := 8) (oi := ({ dst := some 53, op := Op.move (Operand.tmp 9), type := 3, pos := "conv.go:35", after := #[], guard := none } : Oper)) (v := ?_) rfl (by kernel_rfl) (by kernel_rfl) (by kernel_rfl) (fun _ _ _ h => h) (Or.inl ⟨by rfl, ?_⟩) (by assumption) ?_
              rotate_left
              · intro wS hSw
                first
                  | (go_simp; done)
                  | (go_simp; with_reducible rfl)
              try simp only [Act.put, List.setIfInBounds_toArray, List.set_cons_zero, List.set_cons_succ]
              refine wpAnyH_take (i := 9) (oi := ({ dst := some 54, op := Op.fieldAddr 28 (Operand.tmp 3) 4, type := 0, pos := "conv.go:35", after := #[], guard := none } : Oper)) (v := ?_) rfl (by kernel_rfl) (by kernel_rfl) (by kernel_rfl) (fun _ _ _ h => h) (Or.inl ⟨by rfl, ?_⟩) (by assumption) ?_
              rotate_left
              · intro wS hSw
                first
                  | (go_simp; done)
                  | (go_simp; with_reducible rfl)
              try simp only [Act.put, List.setIfInBounds_toArray, List.set_cons_zero, List.set_cons_succ]
              refine wpAnyH_take (i := 10) (oi := ({ dst := some 55, op := Op.load 3 (Operand.tmp 54), type := 3, pos := "conv.go:35", after := #[{ on := 9, ground := Ground.data }], guard := none } : Oper)) (v := ?_) rfl (by kernel_rfl) (by kernel_rfl) (by kernel_rfl) (fun _ _ _ h => h) (Or.inl ⟨by rfl, ?_⟩) (by assumption) ?_
              rotate_left
              · intro wS hSw
                obtain ⟨hq1, hq2, hq3⟩ := hSw
                have hn9 := hq2.at 4 _ rfl; clear hq1 hq2
                first
                  | (go_simp; done)
                  | (go_simp; with_reducible rfl)
              try simp only [Act.put, List.setIfInBounds_toArray, List.set_cons_zero, List.set_cons_succ]
              refine wpAnyH_take (i := 11) (oi := ({ dst := some 56, op := Op.binOp BinOp.mul 3 (Operand.tmp 53) (Operand.tmp 55) 3, type := 3, pos := "conv.go:35", after := #[{ on := 8, ground := Ground.data }, { on := 10, ground := Ground.data }], guard := none } : Oper)) (v := ?_) rfl (by kernel_rfl) (by kernel_rfl) (by kernel_rfl) (fun _ _ _ h => h) (Or.inl ⟨by rfl, ?_⟩) (by assumption) ?_
              rotate_left
              · intro wS hSw
                first
                  | (go_simp; done)
                  | (go_simp; with_reducible rfl)
              try simp only [Act.put, List.setIfInBounds_toArray, List.set_cons_zero, List.set_cons_succ]
              refine wpAnyH_take (i := 12) (oi := ({ dst := some 57, op := Op.fieldAddr 28 (Operand.tmp 3) 5, type := 0, pos := "conv.go:35", after := #[], guard := none } : Oper)) (v := ?_) rfl (by kernel_rfl) (by kernel_rfl) (by kernel_rfl) (fun _ _ _ h => h) (Or.inl ⟨by rfl, ?_⟩) (by assumption) ?_
              rotate_left
              · intro wS hSw
                first
                  | (go_simp; done)
                  | (go_simp; with_reducible rfl)
              try simp only [Act.put, List.setIfInBounds_toArray, List.set_cons_zero, List.set_cons_succ]
              refine wpAnyH_take (i := 13) (oi := ({ dst := some 58, op := Op.load 3 (Operand.tmp 57), type := 3, pos := "conv.go:35", after := #[{ on := 12, ground := Ground.data }], guard := none } : Oper)) (v := ?_) rfl (by kernel_rfl) (by kernel_rfl) (by kernel_rfl) (fun _ _ _ h => h) (Or.inl ⟨by rfl, ?_⟩) (by assumption) ?_
              rotate_left
              · intro wS hSw
                obtain ⟨hq1, hq2, hq3⟩ := hSw
                have hn9 := hq2.at 5 _ rfl; clear hq1 hq2
                first
                  | (go_simp; done)
                  | (go_simp; with_reducible rfl)
              try simp only [Act.put, List.setIfInBounds_toArray, List.set_cons_zero, List.set_cons_succ]
              refine wpAnyH_take (i := 14) (oi := ({ dst := some 59, op := Op.binOp BinOp.sub 3 (Operand.tmp 56) (Operand.tmp 58) 3, type := 3, pos := "conv.go:35", after := #[{ on := 11, ground := Ground.data }, { on := 13, ground := Ground.data }], guard := none } : Oper)) (v := ?_) rfl (by kernel_rfl) (by kernel_rfl) (by kernel_rfl) (fun _ _ _ h => h) (Or.inl ⟨by rfl, ?_⟩) (by assumption) ?_
              rotate_left
              · intro wS hSw
                first
                  | (go_simp; done)
                  | (go_simp; with_reducible rfl)
              try simp only [Act.put, List.setIfInBounds_toArray, List.set_cons_zero, List.set_cons_succ]
              refine wpAnyH_take (i := 15) (oi := ({ dst := some 60, op := Op.move (Operand.tmp 10), type := 3, pos := "conv.go:35", after := #[], guard := none } : Oper)) (v := ?_) rfl (by kernel_rfl) (by kernel_rfl) (by kernel_rfl) (fun _ _ _ h => h) (Or.inl ⟨by rfl, ?_⟩) (by assumption) ?_
              rotate_left
              · intro wS hSw
                first
                  | (go_simp; done)
                  | (go_simp; with_reducible rfl)
              try simp only [Act.put, List.setIfInBounds_toArray, List.set_cons_zero, List.set_cons_succ]
              refine wpAnyH_take (i := 16) (oi := ({ dst := some 61, op := Op.fieldAddr 28 (Operand.tmp 3) 4, type := 0, pos := "conv.go:35", after := #[], guard := none } : Oper)) (v := ?_) rfl (by kernel_rfl) (by kernel_rfl) (by kernel_rfl) (fun _ _ _ h => h) (Or.inl ⟨by rfl, ?_⟩) (by assumption) ?_
              rotate_left
              · intro wS hSw
                first
                  | (go_simp; done)
                  | (go_simp; with_reducible rfl)
              try simp only [Act.put, List.setIfInBounds_toArray, List.set_cons_zero, List.set_cons_succ]
              refine wpAnyH_take (i := 17) (oi := ({ dst := some 62, op := Op.load 3 (Operand.tmp 61), type := 3, pos := "conv.go:35", after := #[{ on := 16, ground := Ground.data }], guard := none } : Oper)) (v := ?_) rfl (by kernel_rfl) (by kernel_rfl) (by kernel_rfl) (fun _ _ _ h => h) (Or.inl ⟨by rfl, ?_⟩) (by assumption) ?_
              rotate_left
              · intro wS hSw
                obtain ⟨hq1, hq2, hq3⟩ := hSw
                have hn9 := hq2.at 4 _ rfl; clear hq1 hq2
                first
                  | (go_simp; done)
                  | (go_simp; with_reducible rfl)
              try simp only [Act.put, List.setIfInBounds_toArray, List.set_cons_zero, List.set_cons_succ]
              refine wpAnyH_take (i := 18) (oi := ({ dst := some 63, op := Op.binOp BinOp.mul 3 (Operand.tmp 60) (Operand.tmp 62) 3, type := 3, pos := "conv.go:35", after := #[{ on := 15, ground := Ground.data }, { on := 17, ground := Ground.data }], guard := none } : Oper)) (v := ?_) rfl (by kernel_rfl) (by kernel_rfl) (by kernel_rfl) (fun _ _ _ h => h) (Or.inl ⟨by rfl, ?_⟩) (by assumption) ?_
              rotate_left
              · intro wS hSw
                first
                  | (go_simp; done)
                  | (go_simp; with_reducible rfl)
              try simp only [Act.put, List.setIfInBounds_toArray, List.set_cons_zero, List.set_cons_succ]
              refine wpAnyH_take (i := 19) (oi := ({ dst := some 64, op := Op.fieldAddr 28 (Operand.tmp 3) 5, type := 0, pos := "conv.go:35", after := #[], guard := none } : Oper)) (v := ?_) rfl (by kernel_rfl) (by kernel_rfl) (by kernel_rfl) (fun _ _ _ h => h) (Or.inl ⟨by rfl, ?_⟩) (by assumption) ?_
              rotate_left
              · intro wS hSw
                first
                  | (go_simp; done)
                  | (go_simp; with_reducible rfl)
              try simp only [Act.put, List.setIfInBounds_toArray, List.set_cons_zero, List.set_cons_succ]
              refine wpAnyH_take (i := 20) (oi := ({ dst := some 65, op := Op.load 3 (Operand.tmp 64), type := 3, pos := "conv.go:35", after := #[{ on := 19, ground := Ground.data }], guard := none } : Oper)) (v := ?_) rfl (by kernel_rfl) (by kernel_rfl) (by kernel_rfl) (fun _ _ _ h => h) (Or.inl ⟨by rfl, ?_⟩) (by assumption) ?_
              rotate_left
              · intro wS hSw
                obtain ⟨hq1, hq2, hq3⟩ := hSw
                have hn9 := hq2.at 5 _ rfl; clear hq1 hq2
                first
                  | (go_simp; done)
                  | (go_simp; with_reducible rfl)
              try simp only [Act.put, List.setIfInBounds_toArray, List.set_cons_zero, List.set_cons_succ]
              refine wpAnyH_take (i := 21) (oi := ({ dst := some 66, op := Op.binOp BinOp.sub 3 (Operand.tmp 63) (Operand.tmp 65) 3, type := 3, pos := "conv.go:35", after := #[{ on := 18, ground := Ground.data }, { on := 20, ground := Ground.data }], guard := none } : Oper)) (v := ?_) rfl (by kernel_rfl) (by kernel_rfl) (by kernel_rfl) (fun _ _ _ h => h) (Or.inl ⟨by rfl, ?_⟩) (by assumption) ?_
              rotate_left
              · intro wS hSw
                first
                  | (go_simp; done)
                  | (go_simp; with_reducible rfl)
              try simp only [Act.put, List.setIfInBounds_toArray, List.set_cons_zero, List.set_cons_succ]
              refine wpAnyH_take (i := 22) (oi := ({ dst := some 67, op := Op.move (Operand.tmp 11), type := 3, pos := "conv.go:35", after := #[], guard := none } : Oper)) (v := ?_) rfl (by kernel_rfl) (by kernel_rfl) (by kernel_rfl) (fun _ _ _ h => h) (Or.inl ⟨by rfl, ?_⟩) (by assumption) ?_
              rotate_left
              · intro wS hSw
                first
                  | (go_simp; done)
                  | (go_simp; with_reducible rfl)
              try simp only [Act.put, List.setIfInBounds_toArray, List.set_cons_zero, List.set_cons_succ]
              refine wpAnyH_ready (rs := [23]) (by kernel_rfl) (by simp) ?_
              refine AllReadyH.cons (o := ({ dst := some 68, op := Op.call { callee := Callee.value (Operand.func 27), args := #[Operand.tmp 51, Operand.tmp 52, Operand.tmp 59, Operand.tmp 66, Operand.tmp 67], argTypes := #[51, 28, 3, 3, 3] }, type := 21, pos := "conv.go:35", after := #[{ on := 6, ground := Ground.data }, { on := 7, ground := Ground.data }, { on := 14, ground := Ground.data }, { on := 21, ground := Ground.data }, { on := 22, ground := Ground.data }], guard := none } : Oper)) rfl (fun Kq hK => ?_) (AllReadyH.nil)
              go_simp
              go_at_call 27
              refine (window_to H W C A zs n c HN.out HT.out HZ.out x0 x1 x2 x8 x11 x12 x13 x14 x15 x16 x17 x18 K S P O Z WA (some ⟨bb, ob, none⟩) nW cW nB cB ws HWS.out hwc HWB.out d kk k oo HD.out HK.out hkk1 hkk7 hltk HNW.out hn16 z1 z2 (hs - P) (vs - P) (by omega) (by omega) (by omega) (by omega) _ ((HR9.out.below HBW.out).more HBW.out.size) ((HRW9.out.below HBW.out).more HBW.out.size) R1 HR1.out).mono ?_
              rintro e Wb ⟨rfl, hb1⟩
              have hS1 : BoxAt w.heap.size H W C A n c _ ∧ NodeAt (w.heap.size + 1) x0 x1 x2 x8 x11 x12 x13 x14 x15 x16 x17 x18 K S P O Z WA (some ⟨bb, ob, none⟩) nW cW nB cB _ ∧ _ := ⟨hHeld.1.below (B' := _) (by omega) hb1, hHeld.2.1.below (B' := _) (by omega) hb1, (hb1.cell (p := ⟨bb, ob + k, none⟩) (by show bb < _; omega)).trans hHeld.2.2⟩
              replace HBW := Lib.hid (HBW.out.trans (hb1.mono HBW.out.size))
              replace hA3 := Lib.hid (hA3.out.below h63 (by omega) hb1)
              replace hW3 := Lib.hid (Kit.own_below hW3.out hb1)
              replace hsz := Nat.le_trans hsz hb1.size
              clear hb1 hHeld
              dsimp only
              refine hK.out _ _ ?_ (fun hHeld => ?_)
              · exact hS1
              clear hK Kq
              try simp only [Act.put, List.setIfInBounds_toArray, List.set_cons_zero, List.set_cons_succ]
              refine wpAnyH_take (i := 24) (oi := ({ dst := some 69, op := Op.binOp BinOp.add 21 (Operand.tmp 50) (Operand.tmp 68) 21, type := 21, pos := "conv.go:35", after := #[{ on := 5, ground := Ground.data }, { on := 23, ground := Ground.data }], guard := none } : Oper)) (v := ?_) rfl (by kernel_rfl) (by kernel_rfl) (by kernel_rfl) (fun _ _ _ h => h) (Or.inl ⟨by rfl, ?_⟩) (by assumption) ?_
              rotate_left
              · intro wS hSw
                first
                  | (go_simp; done)
                  | (go_simp; with_reducible rfl)
              try simp only [Act.put, List.setIfInBounds_toArray, List.set_cons_zero, List.set_cons_succ]
              refine wpAnyH_ready (rs := [25]) (by kernel_rfl) (by simp) ?_
              refine AllReadyH.cons (o := ({ dst := some 70, op := Op.buildSlice 24 1 #[(0, Operand.tmp 69)], type := 24, pos := "conv.go:35", after := #[{ on := 24, ground := Ground.data }], guard := none } : Oper)) rfl (fun Kq hK => ?_) (AllReadyH.nil)
              go_simp
              refine hK.out _ _ ?_ (fun hHeld => ?_)
              · exact ⟨hHeld.1.below (B' := Wb.heap.size) (by omega) ((Below.refl _ _).alloc (Nat.le_refl _) _), hHeld.2.1.below (B' := Wb.heap.size) (by omega) ((Below.refl _ _).alloc (Nat.le_refl _) _), (((Below.refl Wb.heap.size Wb).alloc (Nat.le_refl _) _).cell (p := ⟨bb, ob + k, none⟩) (by show bb < _; omega)).trans hHeld.2.2⟩
              clear hK Kq
              try simp only [Act.put, List.setIfInBounds_toArray, List.set_cons_zero, List.set_cons_succ]
              replace HBW := Lib.hid (HBW.out.alloc HBW.out.size (.cells #[.int .i32 x] 21))
              replace hA3 := Lib.hid (hA3.out.below h63 (B' := Wb.heap.size) (by omega) ((Below.refl _ _).alloc (Nat.le_refl _) (.cells #[.int .i32 x] 21)))
              replace hW3 := Lib.hid (hW3.out.alloc (.cells #[.int .i32 x] 21))
              have HXR := Lib.hid (Kit.Rd.new Wb [.int .i32 x] 21 (Nat.lt_succ_self _))
              replace hsz : g6 + 1 ≤ (Wb.alloc (.cells #[.int .i32 x] 21)).heap.size := by simp; omega
              generalize Wb.alloc (.cells #[.int .i32 x] 21) = Wc at HBW hA3 hW3 HXR hsz hHeld ⊢
              refine wpAnyH_ready (rs := [26]) (by kernel_rfl) (by simp) ?_
              refine AllReadyH.cons (o := ({ dst := some 71, op := Op.call { callee := Callee.builtin Builtin.append, args := #[Operand.tmp 45, Operand.tmp 70], argTypes := #[24, 24] }, type := 24, pos := "conv.go:35", after := #[{ on := 0, ground := Ground.data }, { on := 25, ground := Ground.data }, { on := 23, ground := Ground.chain }], guard := none } : Oper)) rfl (fun Kq hK => ?_) (AllReadyH.nil)
              refine Kit.step_append_rd _ rfl (.tmp 45) (.tmp 70) _ rfl (g6 + 1) 21 i0 (.int .i32 0) 1 4 Try.underlying24 hi0 hi1 hi2 hi3 rfl (by decide) _ (o + k) (I32v (rowL F (o + k))) rfl hW3.out _ _ 1 1 [.int .i32 x] rfl rfl HXR.out (Kit.ints_one .i32 [x]) (by unfold maxLen; omega) (by omega) (by omega) ?_
              intro v5 w5 hown5 hg5 _
              obtain ⟨A5, c5, rfl, -, -, -⟩ := Kit.own_rd hown5
              have hb5 : Below (g6 + 1) Wc w5 := (Below.refl _ _).grown hg5 hsz (Kit.own_block_ge hW3.out)
              have hS1 : BoxAt w.heap.size H W C A n c _ ∧ NodeAt (w.heap.size + 1) x0 x1 x2 x8 x11 x12 x13 x14 x15 x16 x17 x18 K S P O Z WA (some ⟨bb, ob, none⟩) nW cW nB cB _ ∧ _ := ⟨hHeld.1.below (B' := _) (by omega) hb5, hHeld.2.1.below (B' := _) (by omega) hb5, (hb5.cell (p := ⟨bb, ob + k, none⟩) (by show bb < _; omega)).trans hHeld.2.2⟩
              rw [rowL_succ F (o + k) x HXX.out] at hown5
              replace HBW := Lib.hid (HBW.out.trans (hb5.mono (by omega)))
              replace hA3 := Lib.hid (hA3.out.below h63 (Nat.lt_succ_self _) hb5)
              replace hW3 := Lib.hid hown5
              clear hown5 hg5 hb5 hHeld HXR
              dsimp only
              refine hK.out _ _ ?_ (fun hHeld => ?_)
              · exact hS1
              clear hK Kq
              try simp only [Act.put, List.setIfInBounds_toArray, List.set_cons_zero, List.set_cons_succ]
              refine wpAnyH_take (i := 27) (oi := ({ dst := some 8, op := Op.assign (Operand.tmp 71), type := 24, pos := "conv.go:35", after := #[{ on := 26, ground := Ground.data }, { on := 26, ground := Ground.chain }, { on := 0, ground := Ground.phase }, { on := 1, ground := Ground.phase }, { on := 2, ground := Ground.phase }, { on := 3, ground := Ground.phase }, { on := 4, ground := Ground.phase }, { on := 5, ground := Ground.phase }, { on := 6, ground := Ground.phase }, { on := 7, ground := Ground.phase }, { on := 8, ground := Ground.phase }, { on := 9, ground := Ground.phase }, { on := 10, ground := Ground.phase }, { on := 11, ground := Ground.phase }, { on := 12, ground := Ground.phase }, { on := 13, ground := Ground.phase }, { on := 14, ground := Ground.phase }, { on := 15, ground := Ground.phase }, { on := 16, ground := Ground.phase }, { on := 17, ground := Ground.phase }, { on := 18, ground := Ground.phase }, { on := 19, ground := Ground.phase }, { on := 20, ground := Ground.phase }, { on := 21, ground := Ground.phase }, { on := 22, ground := Ground.phase }, { on := 23, ground := Ground.phase }, { on := 24, ground := Ground.phase }, { on := 25, ground := Ground.phase }, { on := 26, ground := Ground.phase }], guard := none } : Oper)) (v := ?_) rfl (by kernel_rfl) (by kernel_rfl) (by kernel_rfl) (fun _ _ _ h => h) (Or.inl ⟨by rfl, ?_⟩) (by assumption) ?_
              rotate_left
              · intro wS hSw
                first
                  | (go_simp; done)
                  | (go_simp; with_reducible rfl)
              try simp only [Act.put, List.setIfInBounds_toArray, List.set_cons_zero, List.set_cons_succ]
              refine wpAnyH_done (by kernel_rfl) ?_ _
              clear hHeld hadd e1 e2 e3 e4
              go_wp2_with fail
              go_roundw
              case rel => exact ⟨k + 1, by omega, by go_num, hA3, hW3⟩
              case measure => simp [intOf]; omega
            · obtain rfl : k = oo := by omega
              have hkI : ¬ (k : Int) < O := by have := HO.out; omega
              have e : (i * b + (j + 1)) * k = o + k := by rw [← HOO.out, ← Nat.add_assoc, Nat.add_mul _ 1, Nat.one_mul]
              have hW3 : Hid (wr.ownsRow (g6 + 1) 21 1 (.slice Av (o + k) cv) ((i * b + (j + 1)) * k) (I32v (rowL F ((i * b + (j + 1)) * k)))) := by rw [e]; exact hW2
              go_wp2_with fail
              go_roundw
              case rel => exact ⟨j + 1, by omega, by go_num, hA2, hW3⟩
              case measure => simp [intOf]; omega
        · obtain rfl : j = b := by omega
          have e : (i + 1) * j * oo = (i * j + j) * oo := by rw [Nat.add_mul i 1, Nat.one_mul]
          have hW3 : Hid (wr.ownsRow (g6 + 1) 21 1 (.slice Av1 ((i * j + j) * oo) cv1) ((i + 1) * j * oo) (I32v (rowL F ((i + 1) * j * oo)))) := by rw [e]; exact hW1
          go_wp2_with fail
          go_roundw
          case rel => exact ⟨i + 1, by omega, by go_num, hA1, hW3⟩
          case measure => simp [intOf]; omega
    · obtain rfl : i = a := by omega
      rw [HNN.out] at hW0
      clear s1 s2 s3
      obtain ⟨-, -, ⟨⟨z0, z1, z2, z3⟩, z4, z5, z6, z7⟩, ⟨s1, s2, s3⟩, hbw, hsz⟩ := hA0.out
      have HBW := Lib.hid hbw
      clear hbw
      rw [HNN.out]
      go_wp2_with fail
      refine bodyPost_ret (Kit.results_ct rfl _ _ (w.heap.size + 2) 0 [.int .i64 (i : Int), .int .i64 (b : Int), .int .i64 O, .slice Av0 N cv0] _ rfl (range_4 (by go_cell) (by go_cell) (by go_cell) (by go_cell)) Try.underlying54 rfl (by kernel_rfl)) rfl ?_
      refine ⟨_, rfl, Kit.own_base (own_set4 hW0.out ?_) ?_, ?_⟩
      any_goals (first | omega | (simp; done) | (simp; omega))
      exact (((HBW.out.setCell (p := ⟨w.heap.size + 2, 0, none⟩) (by simp) _).setCell (p := ⟨w.heap.size + 2, 1, none⟩) (by simp) _).setCell (p := ⟨w.heap.size + 2, 2, none⟩) (by simp) _).setCell (p := ⟨w.heap.size + 2, 3, none⟩) (by simp) _
end Go.Proofs.Ytaoadgolplnedaa.CConv
