/- Layer 19 (pool): the document's pool of a tensor: the means. -/
import Derived.Test.YtccngjgbhbeobaaPoolOf
namespace Go.Proofs.Ytccngjgbhbeobaa.CPool
open Go Go.ChangeShapes Go.WideShapes Go.ChangeAt Go.RowKit
open Plain CSat CShape CTensor CConv
set_option linter.unusedVariables false

/-- the box of the tensor in the making. -/
def PutAt (B : Nat) (X Y U : Int) (v : Value) (wd : World) : Prop :=
  wd.cell? ⟨B, 0, none⟩ = some (.int .i64 X) ∧ wd.cell? ⟨B, 1, none⟩ = some (.int .i64 Y) ∧ wd.cell? ⟨B, 2, none⟩ = some (.int .i64 U) ∧ wd.cell? ⟨B, 3, none⟩ = some v ∧ wd.frozen? ⟨B, 3, none⟩ = false
theorem PutAt.below {B B' : Nat} {X Y U : Int} {v : Value} {w w' : World} (h : PutAt B X Y U v w) (hB : B < B') (hb : Below B' w w') : PutAt B X Y U v w' :=
  ⟨(hb.cell (p := ⟨B, 0, none⟩) hB).trans h.1, (hb.cell (p := ⟨B, 1, none⟩) hB).trans h.2.1, (hb.cell (p := ⟨B, 2, none⟩) hB).trans h.2.2.1, (hb.cell (p := ⟨B, 3, none⟩) hB).trans h.2.2.2.1, (hb.frozen (p := ⟨B, 3, none⟩) hB).trans h.2.2.2.2⟩
theorem PutAt.new (X Y U : Int) (v : Value) (T : TypeId) (w : World) : PutAt w.heap.size X Y U v (w.alloc (.cells #[.int .i64 X, .int .i64 Y, .int .i64 U, v] T)) :=
  ⟨Kit.new_cell _ _ _ _, Kit.new_cell _ _ _ _, Kit.new_cell _ _ _ _, Kit.new_cell _ _ _ _, World.frozen?_alloc_at _ _ _ _ rfl⟩
theorem PutAt.store {B : Nat} {X Y U : Int} {v : Value} {w : World} (h : PutAt B X Y U v w) (u : Value) : PutAt B X Y U u (w.setCell ⟨B, 3, none⟩ u) := by
  obtain ⟨h1, h2, h3, h4, h5⟩ := h
  have k : ∀ (i : Nat), i ≠ 3 → (w.setCell ⟨B, 3, none⟩ u).cell? ⟨B, i, none⟩ = w.cell? ⟨B, i, none⟩ := fun i hne => World.cell?_setCell_other _ _ _ _ (fun e => by injection e; omega)
  exact ⟨(k 0 (by omega)).trans h1, (k 1 (by omega)).trans h2, (k 2 (by omega)).trans h3, World.cell?_setCell_same _ _ _ h4, (World.frozen?_setCell _ _ _ _).trans h5⟩
/-- one number of the pool: the mean of a window. -/
def meanF (zs : List Int) (H W C S P : Int) (kk : Nat) (h v o : Nat) : Int := meanZ (windowL zs H W C ((h : Int) * S - P) ((v : Int) * S - P) kk o)
theorem rowL_succ8 (F : Nat → Int) (k : Nat) (x : Int) (h : F k = x) : I8s (rowL F k) ++ [.int .i8 x] = I8s (rowL F (k + 1)) := by
  simp [I8s, rowL, List.range_succ, h]
theorem hereL_I8 (zs : List Int) (hz : I8b zs) (H W C top left : Int) (o i j : Nat) : ∀ x ∈ hereL zs H W C top left o i j, -128 ≤ x ∧ x ≤ 127 := by
  unfold hereL
  split
  · intro x hx
    rw [List.mem_singleton] at hx
    subst hx
    exact hz _
  · intro x hx; cases hx
theorem colL_I8 (zs : List Int) (hz : I8b zs) (H W C top left : Int) (o i : Nat) : ∀ j, ∀ x ∈ colL zs H W C top left o i j, -128 ≤ x ∧ x ≤ 127
  | 0 => fun x hx => by cases hx
  | j + 1 => fun x hx => by
    rcases List.mem_append.mp (show x ∈ colL zs H W C top left o i j ++ hereL zs H W C top left o i j from hx) with h | h
    · exact colL_I8 zs hz H W C top left o i j x h
    · exact hereL_I8 zs hz H W C top left o i j x h
theorem rowsL_I8 (zs : List Int) (hz : I8b zs) (H W C top left : Int) (kk o : Nat) : ∀ i, ∀ x ∈ rowsL zs H W C top left kk o i, -128 ≤ x ∧ x ≤ 127
  | 0 => fun x hx => by cases hx
  | i + 1 => fun x hx => by
    rcases List.mem_append.mp (show x ∈ rowsL zs H W C top left kk o i ++ colL zs H W C top left o i kk from hx) with h | h
    · exact rowsL_I8 zs hz H W C top left kk o i x h
    · exact colL_I8 zs hz H W C top left o i kk x h
theorem windowL_I8 (zs : List Int) (hz : I8b zs) (H W C top left : Int) (kk o : Nat) : I8b (windowL zs H W C top left kk o) := by
  intro q
  by_cases hq : q < (windowL zs H W C top left kk o).length
  · rw [List.getD_eq_getElem?_getD, List.getElem?_eq_getElem hq]
    exact rowsL_I8 zs hz H W C top left kk o kk _ (List.getElem_mem hq)
  · rw [List.getD_eq_getElem?_getD, List.getElem?_eq_none (by omega)]
    exact ⟨by decide, by decide⟩
theorem windowL_len (zs : List Int) (H W C top left : Int) (kk o : Nat) : (windowL zs H W C top left kk o).length ≤ kk * kk := rowsL_len zs H W C top left kk o kk
theorem refMean_x (A : Option Addr) (zs : List Int) (n c : Nat) (hn : zs.length = n) (hn2 : n ≤ 1000000) (hz : I8b zs) (x : Int) (hx : meanZ zs = x) (w : World) {B : Nat} (hr : Kit.Rd w B A (I8s zs)) :
    Calls Try.prog 16 #[.slice A n c] w fun e w' => e = .returned (.int .i8 x) ∧ ∃ q, w' = w.drewN q := by
  subst hx
  exact refMean_to A zs n c hn hn2 hz w hr
set_option maxRecDepth 100000 in
set_option maxHeartbeats 8000000 in
theorem refPool_mean (H W C : Int) (A : Option Addr) (zs : List Int) (n c : Nat) (hn : zs.length = n) (ht : tensB H W C n = true) (hz : I8b zs) (x0 x1 x2 x8 x11 x12 x13 x14 x15 x16 x17 x18 : Value) (K S P O Z : Int) (WA BA : Option Addr) (nW cW nB cB : Nat) (a b d kk : Nat) (he : slideE H W C K S P C = 0) (ha : stepsM H K S P = (a : Int)) (hb : stepsM W K S P = (b : Int)) (hd : C = (d : Int)) (hk : K = (kk : Int)) (N : Nat) (hN : a * b * d = N)
    (w : World) (hr : Kit.Rd w w.heap.size A (I8s zs)) :
    Calls Try.prog 12 #[.agg #[.int .i64 H, .int .i64 W, .int .i64 C, .slice A n c], .agg #[x0, x1, x2, .int .i64 K, .int .i64 S, .int .i64 P, .int .i64 O, .int .i8 Z, x8, .slice WA nW cW, .slice BA nB cB, x11, x12, x13, x14, x15, x16, x17, x18], .bool false] w (MadeP w (a : Int) (b : Int) C N (rowL (gridF b d (meanF zs H W C S P kk)) N) (.int .i64 0)) := by
  obtain ⟨hs0, har1, har2, -, -, hsr⟩ := slide_ok he
  obtain ⟨-, -, k1, k2, st1, st2, pd1, pd2, -⟩ := argsB_yes har1
  have hS : slideS H W C K S P C = #[.int .i64 (a : Int), .int .i64 (b : Int), .int .i64 C] := by unfold slideS; rw [he, if_pos rfl, ha, hb]
  rw [ha, hb] at hsr
  obtain ⟨q1, q2, q3, q4, q5, q6, q7⟩ := shapeB_yes hsr
  have hNI : (a : Int) * (b : Int) * C = (N : Int) := by rw [hd, ← hN]; simp
  have hN2 : N ≤ 1024 := by rw [hNI] at q7; omega
  have hel : elemsZ (a : Int) (b : Int) C = (N : Int) := by rw [elemsZ_yes hsr]; exact hNI
  obtain ⟨F, hF⟩ : ∃ F, F = gridF b d (meanF zs H W C S P kk) := ⟨_, rfl⟩
  rw [← hF]
  obtain ⟨i0, hi0, hi1, hi2, hi3⟩ := info_parts32 info_i8p
  have hkk7 : kk ≤ 7 := by omega
  have hkk2 : kk * kk ≤ 49 := Nat.le_trans (Nat.mul_le_mul hkk7 hkk7) (by omega)
  subst hk
  have HT := Lib.hid ht
  have HE := Lib.hid he
  have HS := Lib.hid hS
  have HEL := Lib.hid hel
  have HF := Lib.hid hF
  have HN := Lib.hid hn
  have HZ := Lib.hid hz
  have HD := Lib.hid hd
  have HNN := Lib.hid hN
  have HR := Lib.hid hr
  clear ht he hS hel hF hn hz hd hN hr hs0 har1 har2 hsr q7 hNI ha hb
  go_enter Try.func12, Try.ntmps12
  go_wp2_with (first
    | (go_at_call 15
       have hal : Below w.heap.size w (((w.alloc (.cells #[.int .i64 H, .int .i64 W, .int .i64 C, .slice A n c] 29)).alloc (.cells #[x0, x1, x2, .int .i64 (kk : Int), .int .i64 S, .int .i64 P, .int .i64 O, .int .i8 Z, x8, .slice WA nW cW, .slice BA nB cB, x11, x12, x13, x14, x15, x16, x17, x18] 35)).alloc (.cells #[.int .i64 0, .int .i64 0, .int .i64 0, .slice none 0 0] 29)) := (((Below.refl _ _).alloc (by first | exact Nat.le_refl _ | (simp; done) | (simp; omega)) _).alloc (by first | exact Nat.le_refl _ | (simp; done) | (simp; omega)) _).alloc (by first | exact Nat.le_refl _ | (simp; done) | (simp; omega)) _
       refine (refRight_to H W C A n c true HT.out _).mono ?_
       rintro e w1 ⟨rfl, hb⟩
       have hh : Below w.heap.size w w1 := hal.trans (hb.mono hal.size)
       have qTB := (boxNew H W C A n c 29) w
       try simp only [World.size_alloc] at qTB
       have TB := Lib.hid ((qTB.below (B' := w.heap.size + 1) (by omega) ((((Below.refl _ _).alloc (by first | exact Nat.le_refl _ | (simp; done) | (simp; omega)) _).alloc (by first | exact Nat.le_refl _ | (simp; done) | (simp; omega)) _).mono (by simp))).below (by first | (simp; done) | (simp; omega)) hb)
       have yTB : w.heap.size < w1.heap.size := by have := hb.size; simp at this; omega
       clear qTB
       have qTN := (NodeAt.new x0 x1 x2 x8 x11 x12 x13 x14 x15 x16 x17 x18 (kk : Int) S P O Z WA BA nW cW nB cB 35) (w.alloc (.cells #[.int .i64 H, .int .i64 W, .int .i64 C, .slice A n c] 29))
       try simp only [World.size_alloc] at qTN
       have TN := Lib.hid ((qTN.below (B' := w.heap.size + 2) (by omega) (((Below.refl _ _).alloc (by first | exact Nat.le_refl _ | (simp; done) | (simp; omega)) _).mono (by simp))).below (by first | (simp; done) | (simp; omega)) hb)
       have yTN : w.heap.size + 1 < w1.heap.size := by have := hb.size; simp at this; omega
       clear qTN
       have qFR := (freshNew 29) ((w.alloc (.cells #[.int .i64 H, .int .i64 W, .int .i64 C, .slice A n c] 29)).alloc (.cells #[x0, x1, x2, .int .i64 (kk : Int), .int .i64 S, .int .i64 P, .int .i64 O, .int .i8 Z, x8, .slice WA nW cW, .slice BA nB cB, x11, x12, x13, x14, x15, x16, x17, x18] 35))
       try simp only [World.size_alloc] at qFR
       have FR := Lib.hid (qFR.below (by first | (simp; done) | (simp; omega)) hb)
       have yFR : w.heap.size + 2 < w1.heap.size := by have := hb.size; simp at this; omega
       clear qFR
       have HBW : Hid (Below w.heap.size w w1) := Lib.hid hh
       have n3 := TN.out.at 3 _ rfl; have n4 := TN.out.at 4 _ rfl; have n5 := TN.out.at 5 _ rfl
       obtain ⟨tbp0, tbp1, tbp2, tbp3⟩ := TB.out
       clear hb hh hal)
    | (go_at_call 21
       have hal : Below w1.heap.size w1 w1 := Below.refl _ _
       refine (refSlide_to H W C (kk : Int) S P C 0 _ HE.out HS.out _).mono ?_
       rintro e w2 ⟨rfl, hb⟩
       have hh : Below w1.heap.size w1 w2 := hal.trans (hb.mono hal.size)
       replace TB := Lib.hid (TB.out.below yTB hh)
       replace yTB := Nat.lt_of_lt_of_le yTB hh.size
       replace TN := Lib.hid (TN.out.below yTN hh)
       replace yTN := Nat.lt_of_lt_of_le yTN hh.size
       replace FR := Lib.hid (FR.out.below yFR hh)
       replace yFR := Nat.lt_of_lt_of_le yFR hh.size
       replace HBW := Lib.hid (HBW.out.trans (hh.mono HBW.out.size))
       clear tbp0 tbp1 tbp2 tbp3
       clear n3 n4 n5
       have hg2 : w.heap.size + 3 ≤ w2.heap.size := yFR
       obtain ⟨tbp0, tbp1, tbp2, tbp3⟩ := TB.out
       clear hb hh hal))
  have hal : Below w2.heap.size w2 ((w2.alloc (.cells #[.int .i64 (a : Int), .int .i64 (b : Int), .int .i64 C] 26)).alloc (.cells #[.int .i64 (a : Int), .int .i64 (b : Int), .int .i64 C, .slice none 0 0] 29)) := ((Below.refl _ _).alloc (Nat.le_refl _) _).alloc (by simp) _
  have h63 : w.heap.size + 3 ≤ w2.heap.size := hg2
  have hts := (shapeNew (a : Int) (b : Int) C 26 w2).below (B' := w2.heap.size + 1) (by omega) ((Below.refl _ _).alloc (by simp) (.cells #[.int .i64 (a : Int), .int .i64 (b : Int), .int .i64 C, .slice none 0 0] 29))
  have hot := PutAt.new (a : Int) (b : Int) C (.slice none 0 0) 29 (w2.alloc (.cells #[.int .i64 (a : Int), .int .i64 (b : Int), .int .i64 C] 26))
  rw [World.size_alloc] at hot
  have HOT := Lib.hid hot
  have hOA : Hid (OfAt w H W C A n c x0 x1 x2 x8 x11 x12 x13 x14 x15 x16 x17 x18 (kk : Int) S P O Z WA BA nW cW nB cB (a : Int) (b : Int) C w2.heap.size ((w2.alloc (.cells #[.int .i64 (a : Int), .int .i64 (b : Int), .int .i64 C] 26)).alloc (.cells #[.int .i64 (a : Int), .int .i64 (b : Int), .int .i64 C, .slice none 0 0] 29))) := Lib.hid ⟨TB.out.below yTB hal, TN.out.below yTN hal, FR.out.below yFR hal, hts, HBW.out.trans (hal.mono HBW.out.size), by first | (simp; done) | (simp; omega)⟩
  have hW : Hid (((w2.alloc (.cells #[.int .i64 (a : Int), .int .i64 (b : Int), .int .i64 C] 26)).alloc (.cells #[.int .i64 (a : Int), .int .i64 (b : Int), .int .i64 C, .slice none 0 0] 29)).ownsRow (w2.heap.size + 2) 30 1 (.slice none 0 0) 0 (I8s (rowL F 0))) := Lib.hid ⟨by simp [I8s, rowL], .inl ⟨rfl, rfl⟩⟩
  have hzz : w2.heap.size + 2 ≤ ((w2.alloc (.cells #[.int .i64 (a : Int), .int .i64 (b : Int), .int .i64 C] 26)).alloc (.cells #[.int .i64 (a : Int), .int .i64 (b : Int), .int .i64 C, .slice none 0 0] 29)).heap.size := by simp
  clear TB TN FR yTB yTN yFR hal tbp0 tbp1 tbp2 tbp3 HBW hg2 hts hot
  generalize ((w2.alloc (.cells #[.int .i64 (a : Int), .int .i64 (b : Int), .int .i64 C] 26)).alloc (.cells #[.int .i64 (a : Int), .int .i64 (b : Int), .int .i64 C, .slice none 0 0] 29)) = Wm at hOA hW HOT hzz ⊢
  generalize w2.heap.size = g6 at hOA hW HOT h63 hzz ⊢
  go_loopw [11] (fun u wr => ∃ (k : Nat) (v : Value), k ≤ N ∧ u = .int .i64 k ∧ Hid (OfAt w H W C A n c x0 x1 x2 x8 x11 x12 x13 x14 x15 x16 x17 x18 (kk : Int) S P O Z WA BA nW cW nB cB (a : Int) (b : Int) C g6 wr) ∧ Hid (PutAt (g6 + 1) (a : Int) (b : Int) C v wr) ∧ Hid (wr.ownsRow (g6 + 2) 30 1 v k (I8s (rowL F k))) ∧ g6 + 2 ≤ wr.heap.size) (fun u _ => N - (intOf u).toNat)
  case atStart => exact ⟨0, _, Nat.zero_le _, rfl, hOA, HOT, hW, hzz⟩
  case round =>
    obtain ⟨k, v0, hk, rfl, hA0, hT0, hW0, hz0⟩ := hrel
    clear hOA hW HOT hzz
    obtain ⟨-, -, -, ⟨s1, s2, s3⟩, -, -⟩ := hA0.out
    by_cases hlt : k < N
    · have hkI : (k : Int) < (N : Int) := by omega
      have hk0 : (0 : Int) ≤ (k : Int) := by omega
      obtain ⟨r, hr⟩ : ∃ r : Nat, k / d = r := ⟨_, rfl⟩
      obtain ⟨o, ho⟩ : ∃ o : Nat, k % d = o := ⟨_, rfl⟩
      obtain ⟨h, hh⟩ : ∃ h : Nat, r / b = h := ⟨_, rfl⟩
      obtain ⟨v, hv⟩ : ∃ v : Nat, r % b = v := ⟨_, rfl⟩
      have hd1 : 0 < d := by have := HD.out; omega
      have hb1 : 0 < b := by omega
      have hrk : r ≤ k := by rw [← hr]; exact Nat.div_le_self _ _
      have hrab : r < a * b := by
        rw [← hr]
        exact (Nat.div_lt_iff_lt_mul hd1).mpr (by rw [HNN.out]; exact hlt)
      have hha : h < a := by rw [← hh]; exact (Nat.div_lt_iff_lt_mul hb1).mpr hrab
      have hvb : v < b := by rw [← hv]; exact Nat.mod_lt _ hb1
      have hod : o < d := by rw [← ho]; exact Nat.mod_lt _ hd1
      have hh16 : h ≤ 16 := by omega
      have hv16 : v ≤ 16 := by omega
      have c0 : ¬ C = 0 := by omega
      have b0 : ¬ (b : Int) = 0 := by omega
      have b0n : ¬ b = 0 := by omega
      have d1 : (k : Int).tdiv C = (r : Int) := by rw [HD.out, Int.tdiv_eq_ediv_of_nonneg (by omega), ← hr]; simp
      have d2 : (k : Int).tmod C = (o : Int) := by rw [HD.out, Int.tmod_eq_emod_of_nonneg (by omega), ← ho]; simp
      have d3 : (r : Int).tdiv (b : Int) = (h : Int) := by rw [Int.tdiv_eq_ediv_of_nonneg (by omega), ← hh]; simp
      have d4 : (r : Int).tmod (b : Int) = (v : Int) := by rw [Int.tmod_eq_emod_of_nonneg (by omega), ← hv]; simp
      have hrl : r ≤ 1024 := by omega
      have w1 : IntKind.i64.wrap (r : Int) = (r : Int) := IntWalk.i64_in _ (by omega)
      have w2 : IntKind.i64.wrap (o : Int) = (o : Int) := IntWalk.i64_in _ (by have := HD.out; omega)
      have w3 : IntKind.i64.wrap (h : Int) = (h : Int) := IntWalk.i64_in _ (by omega)
      have w4 : IntKind.i64.wrap (v : Int) = (v : Int) := IntWalk.i64_in _ (by omega)
      obtain ⟨L, hL⟩ : ∃ L, windowL zs H W C ((h : Int) * S - P) ((v : Int) * S - P) kk o = L := ⟨_, rfl⟩
      have hL8 : I8b L := by rw [← hL]; exact windowL_I8 zs HZ.out _ _ _ _ _ _ _
      have hLn : L.length ≤ 49 := by rw [← hL]; exact Nat.le_trans (windowL_len _ _ _ _ _ _ _ _) hkk2
      obtain ⟨x, hx⟩ : ∃ x, meanZ L = x := ⟨_, rfl⟩
      have hFk : F k = x := by
        rw [HF.out, ← hx, ← hL]
        unfold gridF meanF
        rw [hr, hh, hv, ho]
      have HLL := Lib.hid hL
      have HL8 := Lib.hid hL8
      have HXX := Lib.hid hx
      have HFK := Lib.hid hFk
      clear hr ho hh hv hL hL8 hx hFk hrk hrab
      go_wp2_with (go_at_call 22; (refine (refElems_to (a : Int) (b : Int) C _ HEL.out _).mono ?_); rintro e Wa ⟨rfl, hbe⟩; have hA1 := Lib.hid (hA0.out.below h63 (B' := wr.heap.size) (by omega) hbe); have hT1 := Lib.hid (hT0.out.below (B' := wr.heap.size) (by omega) hbe); have hW1 := Lib.hid (Kit.own_below hW0.out hbe); have hz1 := Nat.le_trans hz0 hbe.size; clear hA0 hT0 hW0 hz0 s1 s2 s3 hbe)
      obtain ⟨hbx, hnd, -, hsh, hbw, -⟩ := hA1.out
      refine wp_region_held_drew (S := fun w' => BoxAt w.heap.size H W C A n c w' ∧ NodeAt (w.heap.size + 1) x0 x1 x2 x8 x11 x12 x13 x14 x15 x16 x17 x18 (kk : Int) S P O Z WA BA nW cW nB cB w' ∧ ShapeAt g6 (a : Int) (b : Int) C w') (by kernel_rfl) ⟨hbx, hnd, hsh⟩ (fun hHeld => ?_)
      have HBW := Lib.hid hbw.drew
      clear hbx hnd hsh hbw
      have hA2 : Hid (OfAt w H W C A n c x0 x1 x2 x8 x11 x12 x13 x14 x15 x16 x17 x18 (kk : Int) S P O Z WA BA nW cW nB cB (a : Int) (b : Int) C g6 Wa.drew) := Lib.hid (hA1.out.below h63 (Nat.lt_succ_self _) (Below.refl _ _).drew)
      have hT2 : Hid (PutAt (g6 + 1) (a : Int) (b : Int) C v0 Wa.drew) := hT1
      have hW2 : Hid (Wa.drew.ownsRow (g6 + 2) 30 1 v0 k (I8s (rowL F k))) := Lib.hid (Kit.own_below hW1.out (Below.refl _ _).drew)
      have hz2 : g6 + 2 ≤ Wa.drew.heap.size := hz1
      clear hA1 hT1 hW1 hz1
      generalize Wa.drew = Wb at HBW hA2 hT2 hW2 hz2 hHeld ⊢
      refine wpAnyH_take (i := 0) (oi := ({ dst := some 46, op := Op.load 29 (Operand.tmp 3), type := 29, pos := "ref.go:63", after := #[], guard := none } : Oper)) (v := ?_) rfl (by kernel_rfl) (by kernel_rfl) (by kernel_rfl) (fun _ _ _ h => h) (Or.inl ⟨by rfl, ?_⟩) (by assumption) ?_
      rotate_left
      · intro wS hSw
        obtain ⟨hq1, hq2, hq3⟩ := hSw
        obtain ⟨s1, s2, s3, s4⟩ := hq1; clear hq2 hq3
        first
          | (go_simp; done)
          | (go_simp; with_reducible rfl)
      try simp only [Act.put, List.setIfInBounds_toArray, List.set_cons_zero, List.set_cons_succ]
      refine wpAnyH_take (i := 1) (oi := ({ dst := some 47, op := Op.load 35 (Operand.tmp 4), type := 35, pos := "ref.go:63", after := #[], guard := none } : Oper)) (v := .agg #[x0, x1, x2, .int .i64 (kk : Int), .int .i64 S, .int .i64 P, .int .i64 O, .int .i8 Z, x8, .slice WA nW cW, .slice BA nB cB, x11, x12, x13, x14, x15, x16, x17, x18]) rfl (by kernel_rfl) (by kernel_rfl) (by kernel_rfl) (fun _ _ _ h => h) (yieldsIf_load_mid (by rfl) _ _ rfl (w.heap.size + 1) 0 rfl [x0, x1, x2, .int .i64 (kk : Int), .int .i64 S, .int .i64 P, .int .i64 O, .int .i8 Z, x8, .slice WA nW cW, .slice BA nB cB, x11, x12, x13, x14, x15, x16, x17, x18] _ (fun w' h => h.2.1) Try.underlying35 rfl (by kernel_rfl)) (by assumption) ?_
      try simp only [Act.put, List.setIfInBounds_toArray, List.set_cons_zero, List.set_cons_succ]
      refine wpAnyH_take (i := 2) (oi := ({ dst := some 48, op := Op.move (Operand.tmp 11), type := 3, pos := "ref.go:63", after := #[], guard := none } : Oper)) (v := ?_) rfl (by kernel_rfl) (by kernel_rfl) (by kernel_rfl) (fun _ _ _ h => h) (Or.inl ⟨by rfl, ?_⟩) (by assumption) ?_
      rotate_left
      · intro wS hSw
        first
          | (go_simp; done)
          | (go_simp; with_reducible rfl)
      try simp only [Act.put, List.setIfInBounds_toArray, List.set_cons_zero, List.set_cons_succ]
      refine wpAnyH_take (i := 3) (oi := ({ dst := some 49, op := Op.fieldAddr 26 (Operand.tmp 8) 2, type := 0, pos := "ref.go:63", after := #[], guard := none } : Oper)) (v := ?_) rfl (by kernel_rfl) (by kernel_rfl) (by kernel_rfl) (fun _ _ _ h => h) (Or.inl ⟨by rfl, ?_⟩) (by assumption) ?_
      rotate_left
      · intro wS hSw
        first
          | (go_simp; done)
          | (go_simp; with_reducible rfl)
      try simp only [Act.put, List.setIfInBounds_toArray, List.set_cons_zero, List.set_cons_succ]
      refine wpAnyH_take (i := 4) (oi := ({ dst := some 50, op := Op.load 3 (Operand.tmp 49), type := 3, pos := "ref.go:63", after := #[{ on := 3, ground := Ground.data }], guard := none } : Oper)) (v := ?_) rfl (by kernel_rfl) (by kernel_rfl) (by kernel_rfl) (fun _ _ _ h => h) (Or.inl ⟨by rfl, ?_⟩) (by assumption) ?_
      rotate_left
      · intro wS hSw
        obtain ⟨hq1, hq2, hq3⟩ := hSw
        obtain ⟨s1, s2, s3⟩ := hq3; clear hq1 hq2
        first
          | (go_simp; done)
          | (go_simp; with_reducible rfl)
      try simp only [Act.put, List.setIfInBounds_toArray, List.set_cons_zero, List.set_cons_succ]
      refine wpAnyH_take (i := 5) (oi := ({ dst := some 51, op := Op.binOp BinOp.quo 3 (Operand.tmp 48) (Operand.tmp 50) 3, type := 3, pos := "ref.go:63", after := #[{ on := 2, ground := Ground.data }, { on := 4, ground := Ground.data }], guard := none } : Oper)) (v := ?_) rfl (by kernel_rfl) (by kernel_rfl) (by kernel_rfl) (fun _ _ _ h => h) (Or.inl ⟨by rfl, ?_⟩) (by assumption) ?_
      rotate_left
      · intro wS hSw
        first
          | (go_simp; done)
          | (go_simp; with_reducible rfl)
      try simp only [Act.put, List.setIfInBounds_toArray, List.set_cons_zero, List.set_cons_succ]
      refine wpAnyH_take (i := 6) (oi := ({ dst := some 52, op := Op.fieldAddr 26 (Operand.tmp 8) 1, type := 0, pos := "ref.go:63", after := #[], guard := none } : Oper)) (v := ?_) rfl (by kernel_rfl) (by kernel_rfl) (by kernel_rfl) (fun _ _ _ h => h) (Or.inl ⟨by rfl, ?_⟩) (by assumption) ?_
      rotate_left
      · intro wS hSw
        first
          | (go_simp; done)
          | (go_simp; with_reducible rfl)
      try simp only [Act.put, List.setIfInBounds_toArray, List.set_cons_zero, List.set_cons_succ]
      refine wpAnyH_take (i := 7) (oi := ({ dst := some 53, op := Op.load 3 (Operand.tmp 52), type := 3, pos := "ref.go:63", after := #[{ on := 6, ground := Ground.data }], guard := none } : Oper)) (v := ?_) rfl (by kernel_rfl) (by kernel_rfl) (by kernel_rfl) (fun _ _ _ h => h) (Or.inl ⟨by rfl, ?_⟩) (by assumption) ?_
      rotate_left
      · intro wS hSw
        obtain ⟨hq1, hq2, hq3⟩ := hSw
        obtain ⟨s1, s2, s3⟩ := hq3; clear hq1 hq2
        first
          | (go_simp; done)
          | (go_simp; with_reducible rfl)
      try simp only [Act.put, List.setIfInBounds_toArray, List.set_cons_zero, List.set_cons_succ]
      refine wpAnyH_take (i := 8) (oi := ({ dst := some 54, op := Op.binOp BinOp.quo 3 (Operand.tmp 51) (Operand.tmp 53) 3, type := 3, pos := "ref.go:63", after := #[{ on := 5, ground := Ground.data }, { on := 7, ground := Ground.data }], guard := none } : Oper)) (v := ?_) rfl (by kernel_rfl) (by kernel_rfl) (by kernel_rfl) (fun _ _ _ h => h) (Or.inl ⟨by rfl, ?_⟩) (by assumption) ?_
      rotate_left
      · intro wS hSw
        first
          | (go_simp; done)
          | (go_simp; with_reducible rfl)
      try simp only [Act.put, List.setIfInBounds_toArray, List.set_cons_zero, List.set_cons_succ]
      refine wpAnyH_take (i := 9) (oi := ({ dst := some 55, op := Op.move (Operand.tmp 11), type := 3, pos := "ref.go:63", after := #[], guard := none } : Oper)) (v := ?_) rfl (by kernel_rfl) (by kernel_rfl) (by kernel_rfl) (fun _ _ _ h => h) (Or.inl ⟨by rfl, ?_⟩) (by assumption) ?_
      rotate_left
      · intro wS hSw
        first
          | (go_simp; done)
          | (go_simp; with_reducible rfl)
      try simp only [Act.put, List.setIfInBounds_toArray, List.set_cons_zero, List.set_cons_succ]
      refine wpAnyH_take (i := 10) (oi := ({ dst := some 56, op := Op.fieldAddr 26 (Operand.tmp 8) 2, type := 0, pos := "ref.go:63", after := #[], guard := none } : Oper)) (v := ?_) rfl (by kernel_rfl) (by kernel_rfl) (by kernel_rfl) (fun _ _ _ h => h) (Or.inl ⟨by rfl, ?_⟩) (by assumption) ?_
      rotate_left
      · intro wS hSw
        first
          | (go_simp; done)
          | (go_simp; with_reducible rfl)
      try simp only [Act.put, List.setIfInBounds_toArray, List.set_cons_zero, List.set_cons_succ]
      refine wpAnyH_take (i := 11) (oi := ({ dst := some 57, op := Op.load 3 (Operand.tmp 56), type := 3, pos := "ref.go:63", after := #[{ on := 10, ground := Ground.data }], guard := none } : Oper)) (v := ?_) rfl (by kernel_rfl) (by kernel_rfl) (by kernel_rfl) (fun _ _ _ h => h) (Or.inl ⟨by rfl, ?_⟩) (by assumption) ?_
      rotate_left
      · intro wS hSw
        obtain ⟨hq1, hq2, hq3⟩ := hSw
        obtain ⟨s1, s2, s3⟩ := hq3; clear hq1 hq2
        first
          | (go_simp; done)
          | (go_simp; with_reducible rfl)
      try simp only [Act.put, List.setIfInBounds_toArray, List.set_cons_zero, List.set_cons_succ]
      refine wpAnyH_take (i := 12) (oi := ({ dst := some 58, op := Op.binOp BinOp.quo 3 (Operand.tmp 55) (Operand.tmp 57) 3, type := 3, pos := "ref.go:63", after := #[{ on := 9, ground := Ground.data }, { on := 11, ground := Ground.data }], guard := none } : Oper)) (v := ?_) rfl (by kernel_rfl) (by kernel_rfl) (by kernel_rfl) (fun _ _ _ h => h) (Or.inl ⟨by rfl, ?_⟩) (by assumption) ?_
      rotate_left
      · intro wS hSw
        first
          | (go_simp; done)
          | (go_simp; with_reducible rfl)
      try simp only [Act.put, List.setIfInBounds_toArray, List.set_cons_zero, List.set_cons_succ]
      refine wpAnyH_take (i := 13) (oi := ({ dst := some 59, op := Op.fieldAddr 26 (Operand.tmp 8) 1, type := 0, pos := "ref.go:63", after := #[], guard := none } : Oper)) (v := ?_) rfl (by kernel_rfl) (by kernel_rfl) (by kernel_rfl) (fun _ _ _ h => h) (Or.inl ⟨by rfl, ?_⟩) (by assumption) ?_
      rotate_left
      · intro wS hSw
        first
          | (go_simp; done)
          | (go_simp; with_reducible rfl)
      try simp only [Act.put, List.setIfInBounds_toArray, List.set_cons_zero, List.set_cons_succ]
      refine wpAnyH_take (i := 14) (oi := ({ dst := some 60, op := Op.load 3 (Operand.tmp 59), type := 3, pos := "ref.go:63", after := #[{ on := 13, ground := Ground.data }], guard := none } : Oper)) (v := ?_) rfl (by kernel_rfl) (by kernel_rfl) (by kernel_rfl) (fun _ _ _ h => h) (Or.inl ⟨by rfl, ?_⟩) (by assumption) ?_
      rotate_left
      · intro wS hSw
        obtain ⟨hq1, hq2, hq3⟩ := hSw
        obtain ⟨s1, s2, s3⟩ := hq3; clear hq1 hq2
        first
          | (go_simp; done)
          | (go_simp; with_reducible rfl)
      try simp only [Act.put, List.setIfInBounds_toArray, List.set_cons_zero, List.set_cons_succ]
      refine wpAnyH_take (i := 15) (oi := ({ dst := some 61, op := Op.binOp BinOp.rem 3 (Operand.tmp 58) (Operand.tmp 60) 3, type := 3, pos := "ref.go:63", after := #[{ on := 12, ground := Ground.data }, { on := 14, ground := Ground.data }], guard := none } : Oper)) (v := ?_) rfl (by kernel_rfl) (by kernel_rfl) (by kernel_rfl) (fun _ _ _ h => h) (Or.inl ⟨by rfl, ?_⟩) (by assumption) ?_
      rotate_left
      · intro wS hSw
        first
          | (go_simp; done)
          | (go_simp; with_reducible rfl)
      try simp only [Act.put, List.setIfInBounds_toArray, List.set_cons_zero, List.set_cons_succ]
      refine wpAnyH_take (i := 16) (oi := ({ dst := some 62, op := Op.move (Operand.tmp 11), type := 3, pos := "ref.go:63", after := #[], guard := none } : Oper)) (v := ?_) rfl (by kernel_rfl) (by kernel_rfl) (by kernel_rfl) (fun _ _ _ h => h) (Or.inl ⟨by rfl, ?_⟩) (by assumption) ?_
      rotate_left
      · intro wS hSw
        first
          | (go_simp; done)
          | (go_simp; with_reducible rfl)
      try simp only [Act.put, List.setIfInBounds_toArray, List.set_cons_zero, List.set_cons_succ]
      refine wpAnyH_take (i := 17) (oi := ({ dst := some 63, op := Op.fieldAddr 26 (Operand.tmp 8) 2, type := 0, pos := "ref.go:63", after := #[], guard := none } : Oper)) (v := ?_) rfl (by kernel_rfl) (by kernel_rfl) (by kernel_rfl) (fun _ _ _ h => h) (Or.inl ⟨by rfl, ?_⟩) (by assumption) ?_
      rotate_left
      · intro wS hSw
        first
          | (go_simp; done)
          | (go_simp; with_reducible rfl)
      try simp only [Act.put, List.setIfInBounds_toArray, List.set_cons_zero, List.set_cons_succ]
      refine wpAnyH_take (i := 18) (oi := ({ dst := some 64, op := Op.load 3 (Operand.tmp 63), type := 3, pos := "ref.go:63", after := #[{ on := 17, ground := Ground.data }], guard := none } : Oper)) (v := ?_) rfl (by kernel_rfl) (by kernel_rfl) (by kernel_rfl) (fun _ _ _ h => h) (Or.inl ⟨by rfl, ?_⟩) (by assumption) ?_
      rotate_left
      · intro wS hSw
        obtain ⟨hq1, hq2, hq3⟩ := hSw
        obtain ⟨s1, s2, s3⟩ := hq3; clear hq1 hq2
        first
          | (go_simp; done)
          | (go_simp; with_reducible rfl)
      try simp only [Act.put, List.setIfInBounds_toArray, List.set_cons_zero, List.set_cons_succ]
      refine wpAnyH_take (i := 19) (oi := ({ dst := some 65, op := Op.binOp BinOp.rem 3 (Operand.tmp 62) (Operand.tmp 64) 3, type := 3, pos := "ref.go:63", after := #[{ on := 16, ground := Ground.data }, { on := 18, ground := Ground.data }], guard := none } : Oper)) (v := ?_) rfl (by kernel_rfl) (by kernel_rfl) (by kernel_rfl) (fun _ _ _ h => h) (Or.inl ⟨by rfl, ?_⟩) (by assumption) ?_
      rotate_left
      · intro wS hSw
        first
          | (go_simp; done)
          | (go_simp; with_reducible rfl)
      try simp only [Act.put, List.setIfInBounds_toArray, List.set_cons_zero, List.set_cons_succ]
      refine wpAnyH_ready (rs := [20]) (by kernel_rfl) (by simp) ?_
      refine AllReadyH.cons (o := ({ dst := some 66, op := Op.call { callee := Callee.value (Operand.func 23), args := #[Operand.tmp 46, Operand.tmp 47, Operand.tmp 54, Operand.tmp 61, Operand.tmp 65], argTypes := #[29, 35, 3, 3, 3] }, type := 27, pos := "ref.go:63", after := #[{ on := 0, ground := Ground.data }, { on := 1, ground := Ground.data }, { on := 8, ground := Ground.data }, { on := 15, ground := Ground.data }, { on := 19, ground := Ground.data }], guard := none } : Oper)) rfl (fun Kq hK => ?_) (AllReadyH.nil)
      go_simp
      go_at_call 23
      refine (refWindow_to H W C A zs n c HN.out HT.out x0 x1 x2 x8 x11 x12 x13 x14 x15 x16 x17 x18 (kk : Int) S P O Z WA BA nW cW nB cB kk o d HD.out rfl hkk7 hod h v hh16 hv16 st1 st2 pd1 pd2 _ ((HR.out.below HBW.out).more HBW.out.size) L HLL.out).mono ?_
      rintro e Wc ⟨lv, rfl, hown, hb1⟩
      have hS1 : BoxAt w.heap.size H W C A n c Wc ∧ NodeAt (w.heap.size + 1) x0 x1 x2 x8 x11 x12 x13 x14 x15 x16 x17 x18 (kk : Int) S P O Z WA BA nW cW nB cB Wc ∧ ShapeAt g6 (a : Int) (b : Int) C Wc := ⟨hHeld.1.below (B' := Wb.heap.size) (by omega) hb1, hHeld.2.1.below (B' := Wb.heap.size) (by omega) hb1, hHeld.2.2.below (B' := Wb.heap.size) (by omega) hb1⟩
      replace HBW := Lib.hid (HBW.out.trans (hb1.mono HBW.out.size))
      replace hA2 := Lib.hid (hA2.out.below h63 (B' := Wb.heap.size) (by omega) hb1)
      replace hT2 := Lib.hid (hT2.out.below (B' := Wb.heap.size) (by omega) hb1)
      replace hW2 := Lib.hid (Kit.own_below hW2.out hb1)
      replace hz2 := Nat.le_trans hz2 hb1.size
      obtain ⟨Al, cl, rfl, -, -, hrd⟩ := Kit.own_rd hown
      have HRL := Lib.hid hrd
      clear hown hrd hb1 hHeld
      dsimp only
      refine hK.out _ _ ?_ (fun hHeld => ?_)
      · exact hS1
      clear hK Kq
      try simp only [Act.put, List.setIfInBounds_toArray, List.set_cons_zero, List.set_cons_succ]
      refine wpAnyH_take (i := 21) (oi := ({ dst := some 12, op := Op.assign (Operand.tmp 66), type := 27, pos := "ref.go:63", after := #[{ on := 20, ground := Ground.data }, { on := 20, ground := Ground.chain }, { on := 0, ground := Ground.phase }, { on := 1, ground := Ground.phase }, { on := 2, ground := Ground.phase }, { on := 3, ground := Ground.phase }, { on := 4, ground := Ground.phase }, { on := 5, ground := Ground.phase }, { on := 6, ground := Ground.phase }, { on := 7, ground := Ground.phase }, { on := 8, ground := Ground.phase }, { on := 9, ground := Ground.phase }, { on := 10, ground := Ground.phase }, { on := 11, ground := Ground.phase }, { on := 12, ground := Ground.phase }, { on := 13, ground := Ground.phase }, { on := 14, ground := Ground.phase }, { on := 15, ground := Ground.phase }, { on := 16, ground := Ground.phase }, { on := 17, ground := Ground.phase }, { on := 18, ground := Ground.phase }, { on := 19, ground := Ground.phase }, { on := 20, ground := Ground.phase }], guard := none } : Oper)) (v := ?_) rfl (by kernel_rfl) (by kernel_rfl) (by kernel_rfl) (fun _ _ _ h => h) (Or.inl ⟨by rfl, ?_⟩) (by assumption) ?_
      rotate_left
      · intro wS hSw
        first
          | (go_simp; done)
          | (go_simp; with_reducible rfl)
      try simp only [Act.put, List.setIfInBounds_toArray, List.set_cons_zero, List.set_cons_succ]
      refine wpAnyH_done (by kernel_rfl) ?_ _
      clear hHeld d1 d2 d3 d4 w1 w2 w3 w4 c0 b0 b0n hha hvb hod
      obtain ⟨Av, cv, rfl, -, -, -⟩ := Kit.own_rd hW2.out
      go_wp2_with fail
      refine wp_region_held_drew (S := fun _ => True) (by kernel_rfl) trivial (fun hHeld => ?_)
      have hA3 : Hid (OfAt w H W C A n c x0 x1 x2 x8 x11 x12 x13 x14 x15 x16 x17 x18 (kk : Int) S P O Z WA BA nW cW nB cB (a : Int) (b : Int) C g6 Wc.drew) := Lib.hid (hA2.out.below h63 (Nat.lt_succ_self _) (Below.refl _ _).drew)
      have hT3 : Hid (PutAt (g6 + 1) (a : Int) (b : Int) C (.slice Av k cv) Wc.drew) := hT2
      have hW3 : Hid (Wc.drew.ownsRow (g6 + 2) 30 1 (.slice Av k cv) k (I8s (rowL F k))) := Lib.hid (Kit.own_below hW2.out (Below.refl _ _).drew)
      have hsz : g6 + 2 ≤ Wc.drew.heap.size := hz2
      replace HRL := Lib.hid (HRL.out.below (Below.refl _ _).drew)
      clear hA2 hW2 hT2 hz2 HBW
      obtain ⟨-, -, -, ov3, ovf⟩ := hT3.out
      generalize Wc.heap.size = gL at HRL
      generalize Wc.drew = Wd at hA3 hT3 hW3 hsz HRL ov3 ovf ⊢
      refine wpAnyH_take (i := 0) (oi := ({ dst := some 79, op := Op.fieldAddr 29 (Operand.tmp 10) 1, type := 0, pos := "ref.go:68", after := #[], guard := none } : Oper)) (v := ?_) rfl (by kernel_rfl) (by kernel_rfl) (by kernel_rfl) (fun _ _ _ h => h) (Or.inl ⟨by rfl, ?_⟩) (by assumption) ?_
      rotate_left
      · intro wS hSw
        first
          | (go_simp; done)
          | (go_simp; with_reducible rfl)
      try simp only [Act.put, List.setIfInBounds_toArray, List.set_cons_zero, List.set_cons_succ]
      refine wpAnyH_take (i := 2) (oi := ({ dst := some 81, op := Op.move (Operand.tmp 12), type := 27, pos := "ref.go:68", after := #[], guard := none } : Oper)) (v := ?_) rfl (by kernel_rfl) (by kernel_rfl) (by kernel_rfl) (fun _ _ _ h => h) (Or.inl ⟨by rfl, ?_⟩) (by assumption) ?_
      rotate_left
      · intro wS hSw
        first
          | (go_simp; done)
          | (go_simp; with_reducible rfl)
      try simp only [Act.put, List.setIfInBounds_toArray, List.set_cons_zero, List.set_cons_succ]
      refine wpAnyH_ready (rs := [1, 3]) (by kernel_rfl) (by simp) ?_
      refine AllReadyH.cons (o := ({ dst := some 80, op := Op.load 27 (Operand.tmp 79), type := 27, pos := "ref.go:68", after := #[{ on := 0, ground := Ground.data }], guard := none } : Oper)) rfl (fun Kq hK => ?_) ?_
      · go_simp
        refine hK.out _ _ ?_ (fun hHeld => ?_)
        · exact trivial
        clear hK Kq
        try simp only [Act.put, List.setIfInBounds_toArray, List.set_cons_zero, List.set_cons_succ]
        refine wpAnyH_ready (rs := [3]) (by kernel_rfl) (by simp) ?_
        refine AllReadyH.cons (o := ({ dst := some 82, op := Op.call { callee := Callee.value (Operand.func 16), args := #[Operand.tmp 81], argTypes := #[27] }, type := 30, pos := "ref.go:68", after := #[{ on := 2, ground := Ground.data }], guard := none } : Oper)) rfl (fun Kq hK => ?_) (AllReadyH.nil)
        go_simp
        go_at_call 16
        refine (refMean_x Al L L.length cl rfl (by omega) HL8.out x HXX.out _ HRL.out).mono ?_
        rintro e Wp1 ⟨rfl, q, hq⟩
        have hb1 : Below Wd.heap.size Wd Wp1 := by rw [hq]; exact Kit.below_drewN (Below.refl _ _) q
        clear hq HRL
        replace hA3 := Lib.hid (hA3.out.below h63 (by omega) hb1)
        replace hT3 := Lib.hid (hT3.out.below (by omega) hb1)
        replace hW3 := Lib.hid (Kit.own_below hW3.out hb1)
        replace hsz := Nat.le_trans hsz hb1.size
        clear hHeld ov3 ovf
        obtain ⟨-, -, -, ov3, ovf⟩ := hT3.out
        clear hb1
        dsimp only
        refine hK.out _ _ ?_ (fun hHeld => ?_)
        · exact trivial
        clear hK Kq
        try simp only [Act.put, List.setIfInBounds_toArray, List.set_cons_zero, List.set_cons_succ]
        refine wpAnyH_ready (rs := [4]) (by kernel_rfl) (by simp) ?_
        refine AllReadyH.cons (o := ({ dst := some 83, op := Op.buildSlice 27 1 #[(0, Operand.tmp 82)], type := 27, pos := "ref.go:68", after := #[{ on := 3, ground := Ground.data }], guard := none } : Oper)) rfl (fun Kq hK => ?_) (AllReadyH.nil)
        go_simp
        refine hK.out _ _ ?_ (fun hHeld => ?_)
        · exact trivial
        clear hK Kq
        try simp only [Act.put, List.setIfInBounds_toArray, List.set_cons_zero, List.set_cons_succ]
        replace hA3 := Lib.hid (hA3.out.below h63 (B' := Wp1.heap.size) (by omega) ((Below.refl _ _).alloc (Nat.le_refl _) (.cells #[.int .i8 x] 30)))
        replace hT3 := Lib.hid (hT3.out.below (B' := Wp1.heap.size) (by omega) ((Below.refl _ _).alloc (Nat.le_refl _) (.cells #[.int .i8 x] 30)))
        replace hW3 := Lib.hid (hW3.out.alloc (.cells #[.int .i8 x] 30))
        have HXR := Lib.hid (Kit.Rd.new Wp1 [.int .i8 x] 30 (Nat.lt_succ_self _))
        replace hsz : g6 + 2 ≤ (Wp1.alloc (.cells #[.int .i8 x] 30)).heap.size := by simp; omega
        clear ov3 ovf
        obtain ⟨-, -, -, ov3, ovf⟩ := hT3.out
        generalize Wp1.alloc (.cells #[.int .i8 x] 30) = Wq2 at hA3 hT3 hW3 HXR hsz ov3 ovf hHeld ⊢
        refine wpAnyH_ready (rs := [5]) (by kernel_rfl) (by simp) ?_
        refine AllReadyH.cons (o := ({ dst := some 84, op := Op.call { callee := Callee.builtin Builtin.append, args := #[Operand.tmp 80, Operand.tmp 83], argTypes := #[27, 27] }, type := 27, pos := "ref.go:68", after := #[{ on := 1, ground := Ground.data }, { on := 4, ground := Ground.data }, { on := 3, ground := Ground.chain }], guard := none } : Oper)) rfl (fun Kq hK => ?_) (AllReadyH.nil)
        refine Kit.step_append_rd _ rfl (.tmp 80) (.tmp 83) _ rfl (g6 + 2) 30 i0 (.int .i8 0) 1 1 Try.underlying27 hi0 hi1 hi2 hi3 rfl (by decide) _ k (I8s (rowL F k)) rfl hW3.out _ _ 1 1 [.int .i8 x] rfl rfl HXR.out (Kit.ints_one .i8 [x]) (by unfold maxLen; omega) (by omega) (by omega) ?_
        intro v5 w5 hown5 hg5 _
        obtain ⟨A5, c5, rfl, -, -, -⟩ := Kit.own_rd hown5
        have hb5 : Below (g6 + 2) Wq2 w5 := (Below.refl _ _).grown hg5 hsz (Kit.own_block_ge hW3.out)
        rw [rowL_succ8 F k x HFK.out] at hown5
        replace hA3 := Lib.hid (hA3.out.below h63 (by omega) hb5)
        replace hT3 := Lib.hid (hT3.out.below (by omega) hb5)
        replace hW3 := Lib.hid (hown5)
        replace hsz := Nat.le_trans hsz hb5.size
        clear hHeld ov3 ovf
        obtain ⟨-, -, -, ov3, ovf⟩ := hT3.out
        clear hown5 hg5 hb5 HXR
        dsimp only
        refine hK.out _ _ ?_ (fun hHeld => ?_)
        · exact trivial
        clear hK Kq
        try simp only [Act.put, List.setIfInBounds_toArray, List.set_cons_zero, List.set_cons_succ]
        refine wpAnyH_take (i := 6) (oi := ({ dst := some 85, op := Op.fieldAddr 29 (Operand.tmp 10) 1, type := 0, pos := "ref.go:68", after := #[{ on := 0, ground := Ground.phase }, { on := 1, ground := Ground.phase }, { on := 2, ground := Ground.phase }, { on := 3, ground := Ground.phase }, { on := 4, ground := Ground.phase }, { on := 5, ground := Ground.phase }], guard := none } : Oper)) (v := ?_) rfl (by kernel_rfl) (by kernel_rfl) (by kernel_rfl) (fun _ _ _ h => h) (Or.inl ⟨by rfl, ?_⟩) (by assumption) ?_
        rotate_left
        · intro wS hSw
          first
            | (go_simp; done)
            | (go_simp; with_reducible rfl)
        try simp only [Act.put, List.setIfInBounds_toArray, List.set_cons_zero, List.set_cons_succ]
        have hb9 : Below (g6 + 1) w5 (w5.setCell ⟨g6 + 1, 3, none⟩ (.slice A5 (k + 1) c5)) := (Below.refl _ _).setCell (p := ⟨g6 + 1, 3, none⟩) (Nat.le_refl _) _
        have hA4 := Lib.hid (hA3.out.below h63 (Nat.lt_succ_self _) hb9)
        have hT4 := Lib.hid (hT3.out.store (.slice A5 (k + 1) c5))
        have hW4 := Lib.hid (own_set hW3.out ⟨g6 + 1, 3, none⟩ (.slice A5 (k + 1) c5) (by simp))
        have hz4 : g6 + 2 ≤ (w5.setCell ⟨g6 + 1, 3, none⟩ (.slice A5 (k + 1) c5)).heap.size := by simpa using hsz
        refine wpAnyH_ready (rs := [7]) (by kernel_rfl) (by simp) ?_
        refine AllReadyH.cons (o := ({ dst := none, op := Op.store 27 (Operand.tmp 85) (Operand.tmp 84), type := 0, pos := "ref.go:68", after := #[{ on := 6, ground := Ground.data }, { on := 5, ground := Ground.data }, { on := 5, ground := Ground.chain }, { on := 0, ground := Ground.phase }, { on := 1, ground := Ground.phase }, { on := 2, ground := Ground.phase }, { on := 3, ground := Ground.phase }, { on := 4, ground := Ground.phase }, { on := 5, ground := Ground.phase }], guard := none } : Oper)) rfl (fun Kq hK => ?_) (AllReadyH.nil)
        go_simp
        refine hK.out _ _ ?_ (fun hHeld => ?_)
        · exact trivial
        clear hK Kq
        try simp only [Act.put, List.setIfInBounds_toArray, List.set_cons_zero, List.set_cons_succ]
        refine wpAnyH_done (by kernel_rfl) ?_ _
        clear hHeld ov3 ovf hA3 hT3 hW3 hsz hb9
        go_wp2_with fail
        go_roundw
        case rel => exact ⟨k + 1, _, by omega, by go_num, hA4, hT4, hW4, hz4⟩
        case measure => simp [intOf]; omega
      refine AllReadyH.cons (o := ({ dst := some 82, op := Op.call { callee := Callee.value (Operand.func 16), args := #[Operand.tmp 81], argTypes := #[27] }, type := 30, pos := "ref.go:68", after := #[{ on := 2, ground := Ground.data }], guard := none } : Oper)) rfl (fun Kq hK => ?_) ?_
      · go_simp
        go_at_call 16
        refine (refMean_x Al L L.length cl rfl (by omega) HL8.out x HXX.out _ HRL.out).mono ?_
        rintro e Wp0 ⟨rfl, q, hq⟩
        have hb1 : Below Wd.heap.size Wd Wp0 := by rw [hq]; exact Kit.below_drewN (Below.refl _ _) q
        clear hq HRL
        replace hA3 := Lib.hid (hA3.out.below h63 (by omega) hb1)
        replace hT3 := Lib.hid (hT3.out.below (by omega) hb1)
        replace hW3 := Lib.hid (Kit.own_below hW3.out hb1)
        replace hsz := Nat.le_trans hsz hb1.size
        clear hHeld ov3 ovf
        obtain ⟨-, -, -, ov3, ovf⟩ := hT3.out
        clear hb1
        dsimp only
        refine hK.out _ _ ?_ (fun hHeld => ?_)
        · exact trivial
        clear hK Kq
        try simp only [Act.put, List.setIfInBounds_toArray, List.set_cons_zero, List.set_cons_succ]
        refine wpAnyH_ready (rs := [1, 4]) (by kernel_rfl) (by simp) ?_
        refine AllReadyH.cons (o := ({ dst := some 80, op := Op.load 27 (Operand.tmp 79), type := 27, pos := "ref.go:68", after := #[{ on := 0, ground := Ground.data }], guard := none } : Oper)) rfl (fun Kq hK => ?_) ?_
        · go_simp
          refine hK.out _ _ ?_ (fun hHeld => ?_)
          · exact trivial
          clear hK Kq
          try simp only [Act.put, List.setIfInBounds_toArray, List.set_cons_zero, List.set_cons_succ]
          refine wpAnyH_ready (rs := [4]) (by kernel_rfl) (by simp) ?_
          refine AllReadyH.cons (o := ({ dst := some 83, op := Op.buildSlice 27 1 #[(0, Operand.tmp 82)], type := 27, pos := "ref.go:68", after := #[{ on := 3, ground := Ground.data }], guard := none } : Oper)) rfl (fun Kq hK => ?_) (AllReadyH.nil)
          go_simp
          refine hK.out _ _ ?_ (fun hHeld => ?_)
          · exact trivial
          clear hK Kq
          try simp only [Act.put, List.setIfInBounds_toArray, List.set_cons_zero, List.set_cons_succ]
          replace hA3 := Lib.hid (hA3.out.below h63 (B' := Wp0.heap.size) (by omega) ((Below.refl _ _).alloc (Nat.le_refl _) (.cells #[.int .i8 x] 30)))
          replace hT3 := Lib.hid (hT3.out.below (B' := Wp0.heap.size) (by omega) ((Below.refl _ _).alloc (Nat.le_refl _) (.cells #[.int .i8 x] 30)))
          replace hW3 := Lib.hid (hW3.out.alloc (.cells #[.int .i8 x] 30))
          have HXR := Lib.hid (Kit.Rd.new Wp0 [.int .i8 x] 30 (Nat.lt_succ_self _))
          replace hsz : g6 + 2 ≤ (Wp0.alloc (.cells #[.int .i8 x] 30)).heap.size := by simp; omega
          clear ov3 ovf
          obtain ⟨-, -, -, ov3, ovf⟩ := hT3.out
          generalize Wp0.alloc (.cells #[.int .i8 x] 30) = Wq2 at hA3 hT3 hW3 HXR hsz ov3 ovf hHeld ⊢
          refine wpAnyH_ready (rs := [5]) (by kernel_rfl) (by simp) ?_
          refine AllReadyH.cons (o := ({ dst := some 84, op := Op.call { callee := Callee.builtin Builtin.append, args := #[Operand.tmp 80, Operand.tmp 83], argTypes := #[27, 27] }, type := 27, pos := "ref.go:68", after := #[{ on := 1, ground := Ground.data }, { on := 4, ground := Ground.data }, { on := 3, ground := Ground.chain }], guard := none } : Oper)) rfl (fun Kq hK => ?_) (AllReadyH.nil)
          refine Kit.step_append_rd _ rfl (.tmp 80) (.tmp 83) _ rfl (g6 + 2) 30 i0 (.int .i8 0) 1 1 Try.underlying27 hi0 hi1 hi2 hi3 rfl (by decide) _ k (I8s (rowL F k)) rfl hW3.out _ _ 1 1 [.int .i8 x] rfl rfl HXR.out (Kit.ints_one .i8 [x]) (by unfold maxLen; omega) (by omega) (by omega) ?_
          intro v5 w5 hown5 hg5 _
          obtain ⟨A5, c5, rfl, -, -, -⟩ := Kit.own_rd hown5
          have hb5 : Below (g6 + 2) Wq2 w5 := (Below.refl _ _).grown hg5 hsz (Kit.own_block_ge hW3.out)
          rw [rowL_succ8 F k x HFK.out] at hown5
          replace hA3 := Lib.hid (hA3.out.below h63 (by omega) hb5)
          replace hT3 := Lib.hid (hT3.out.below (by omega) hb5)
          replace hW3 := Lib.hid (hown5)
          replace hsz := Nat.le_trans hsz hb5.size
          clear hHeld ov3 ovf
          obtain ⟨-, -, -, ov3, ovf⟩ := hT3.out
          clear hown5 hg5 hb5 HXR
          dsimp only
          refine hK.out _ _ ?_ (fun hHeld => ?_)
          · exact trivial
          clear hK Kq
          try simp only [Act.put, List.setIfInBounds_toArray, List.set_cons_zero, List.set_cons_succ]
          refine wpAnyH_take (i := 6) (oi := ({ dst := some 85, op := Op.fieldAddr 29 (Operand.tmp 10) 1, type := 0, pos := "ref.go:68", after := #[{ on := 0, ground := Ground.phase }, { on := 1, ground := Ground.phase }, { on := 2, ground := Ground.phase }, { on := 3, ground := Ground.phase }, { on := 4, ground := Ground.phase }, { on := 5, ground := Ground.phase }], guard := none } : Oper)) (v := ?_) rfl (by kernel_rfl) (by kernel_rfl) (by kernel_rfl) (fun _ _ _ h => h) (Or.inl ⟨by rfl, ?_⟩) (by assumption) ?_
          rotate_left
          · intro wS hSw
            first
              | (go_simp; done)
              | (go_simp; with_reducible rfl)
          try simp only [Act.put, List.setIfInBounds_toArray, List.set_cons_zero, List.set_cons_succ]
          have hb9 : Below (g6 + 1) w5 (w5.setCell ⟨g6 + 1, 3, none⟩ (.slice A5 (k + 1) c5)) := (Below.refl _ _).setCell (p := ⟨g6 + 1, 3, none⟩) (Nat.le_refl _) _
          have hA4 := Lib.hid (hA3.out.below h63 (Nat.lt_succ_self _) hb9)
          have hT4 := Lib.hid (hT3.out.store (.slice A5 (k + 1) c5))
          have hW4 := Lib.hid (own_set hW3.out ⟨g6 + 1, 3, none⟩ (.slice A5 (k + 1) c5) (by simp))
          have hz4 : g6 + 2 ≤ (w5.setCell ⟨g6 + 1, 3, none⟩ (.slice A5 (k + 1) c5)).heap.size := by simpa using hsz
          refine wpAnyH_ready (rs := [7]) (by kernel_rfl) (by simp) ?_
          refine AllReadyH.cons (o := ({ dst := none, op := Op.store 27 (Operand.tmp 85) (Operand.tmp 84), type := 0, pos := "ref.go:68", after := #[{ on := 6, ground := Ground.data }, { on := 5, ground := Ground.data }, { on := 5, ground := Ground.chain }, { on := 0, ground := Ground.phase }, { on := 1, ground := Ground.phase }, { on := 2, ground := Ground.phase }, { on := 3, ground := Ground.phase }, { on := 4, ground := Ground.phase }, { on := 5, ground := Ground.phase }], guard := none } : Oper)) rfl (fun Kq hK => ?_) (AllReadyH.nil)
          go_simp
          refine hK.out _ _ ?_ (fun hHeld => ?_)
          · exact trivial
          clear hK Kq
          try simp only [Act.put, List.setIfInBounds_toArray, List.set_cons_zero, List.set_cons_succ]
          refine wpAnyH_done (by kernel_rfl) ?_ _
          clear hHeld ov3 ovf hA3 hT3 hW3 hsz hb9
          go_wp2_with fail
          go_roundw
          case rel => exact ⟨k + 1, _, by omega, by go_num, hA4, hT4, hW4, hz4⟩
          case measure => simp [intOf]; omega
        refine AllReadyH.cons (o := ({ dst := some 83, op := Op.buildSlice 27 1 #[(0, Operand.tmp 82)], type := 27, pos := "ref.go:68", after := #[{ on := 3, ground := Ground.data }], guard := none } : Oper)) rfl (fun Kq hK => ?_) ?_
        · go_simp
          refine hK.out _ _ ?_ (fun hHeld => ?_)
          · exact trivial
          clear hK Kq
          try simp only [Act.put, List.setIfInBounds_toArray, List.set_cons_zero, List.set_cons_succ]
          replace hA3 := Lib.hid (hA3.out.below h63 (B' := Wp0.heap.size) (by omega) ((Below.refl _ _).alloc (Nat.le_refl _) (.cells #[.int .i8 x] 30)))
          replace hT3 := Lib.hid (hT3.out.below (B' := Wp0.heap.size) (by omega) ((Below.refl _ _).alloc (Nat.le_refl _) (.cells #[.int .i8 x] 30)))
          replace hW3 := Lib.hid (hW3.out.alloc (.cells #[.int .i8 x] 30))
          have HXR := Lib.hid (Kit.Rd.new Wp0 [.int .i8 x] 30 (Nat.lt_succ_self _))
          replace hsz : g6 + 2 ≤ (Wp0.alloc (.cells #[.int .i8 x] 30)).heap.size := by simp; omega
          clear ov3 ovf
          obtain ⟨-, -, -, ov3, ovf⟩ := hT3.out
          generalize Wp0.alloc (.cells #[.int .i8 x] 30) = Wq1 at hA3 hT3 hW3 HXR hsz ov3 ovf hHeld ⊢
          refine wpAnyH_ready (rs := [1]) (by kernel_rfl) (by simp) ?_
          refine AllReadyH.cons (o := ({ dst := some 80, op := Op.load 27 (Operand.tmp 79), type := 27, pos := "ref.go:68", after := #[{ on := 0, ground := Ground.data }], guard := none } : Oper)) rfl (fun Kq hK => ?_) (AllReadyH.nil)
          go_simp
          refine hK.out _ _ ?_ (fun hHeld => ?_)
          · exact trivial
          clear hK Kq
          try simp only [Act.put, List.setIfInBounds_toArray, List.set_cons_zero, List.set_cons_succ]
          refine wpAnyH_ready (rs := [5]) (by kernel_rfl) (by simp) ?_
          refine AllReadyH.cons (o := ({ dst := some 84, op := Op.call { callee := Callee.builtin Builtin.append, args := #[Operand.tmp 80, Operand.tmp 83], argTypes := #[27, 27] }, type := 27, pos := "ref.go:68", after := #[{ on := 1, ground := Ground.data }, { on := 4, ground := Ground.data }, { on := 3, ground := Ground.chain }], guard := none } : Oper)) rfl (fun Kq hK => ?_) (AllReadyH.nil)
          refine Kit.step_append_rd _ rfl (.tmp 80) (.tmp 83) _ rfl (g6 + 2) 30 i0 (.int .i8 0) 1 1 Try.underlying27 hi0 hi1 hi2 hi3 rfl (by decide) _ k (I8s (rowL F k)) rfl hW3.out _ _ 1 1 [.int .i8 x] rfl rfl HXR.out (Kit.ints_one .i8 [x]) (by unfold maxLen; omega) (by omega) (by omega) ?_
          intro v5 w5 hown5 hg5 _
          obtain ⟨A5, c5, rfl, -, -, -⟩ := Kit.own_rd hown5
          have hb5 : Below (g6 + 2) Wq1 w5 := (Below.refl _ _).grown hg5 hsz (Kit.own_block_ge hW3.out)
          rw [rowL_succ8 F k x HFK.out] at hown5
          replace hA3 := Lib.hid (hA3.out.below h63 (by omega) hb5)
          replace hT3 := Lib.hid (hT3.out.below (by omega) hb5)
          replace hW3 := Lib.hid (hown5)
          replace hsz := Nat.le_trans hsz hb5.size
          clear hHeld ov3 ovf
          obtain ⟨-, -, -, ov3, ovf⟩ := hT3.out
          clear hown5 hg5 hb5 HXR
          dsimp only
          refine hK.out _ _ ?_ (fun hHeld => ?_)
          · exact trivial
          clear hK Kq
          try simp only [Act.put, List.setIfInBounds_toArray, List.set_cons_zero, List.set_cons_succ]
          refine wpAnyH_take (i := 6) (oi := ({ dst := some 85, op := Op.fieldAddr 29 (Operand.tmp 10) 1, type := 0, pos := "ref.go:68", after := #[{ on := 0, ground := Ground.phase }, { on := 1, ground := Ground.phase }, { on := 2, ground := Ground.phase }, { on := 3, ground := Ground.phase }, { on := 4, ground := Ground.phase }, { on := 5, ground := Ground.phase }], guard := none } : Oper)) (v := ?_) rfl (by kernel_rfl) (by kernel_rfl) (by kernel_rfl) (fun _ _ _ h => h) (Or.inl ⟨by rfl, ?_⟩) (by assumption) ?_
          rotate_left
          · intro wS hSw
            first
              | (go_simp; done)
              | (go_simp; with_reducible rfl)
          try simp only [Act.put, List.setIfInBounds_toArray, List.set_cons_zero, List.set_cons_succ]
          have hb9 : Below (g6 + 1) w5 (w5.setCell ⟨g6 + 1, 3, none⟩ (.slice A5 (k + 1) c5)) := (Below.refl _ _).setCell (p := ⟨g6 + 1, 3, none⟩) (Nat.le_refl _) _
          have hA4 := Lib.hid (hA3.out.below h63 (Nat.lt_succ_self _) hb9)
          have hT4 := Lib.hid (hT3.out.store (.slice A5 (k + 1) c5))
          have hW4 := Lib.hid (own_set hW3.out ⟨g6 + 1, 3, none⟩ (.slice A5 (k + 1) c5) (by simp))
          have hz4 : g6 + 2 ≤ (w5.setCell ⟨g6 + 1, 3, none⟩ (.slice A5 (k + 1) c5)).heap.size := by simpa using hsz
          refine wpAnyH_ready (rs := [7]) (by kernel_rfl) (by simp) ?_
          refine AllReadyH.cons (o := ({ dst := none, op := Op.store 27 (Operand.tmp 85) (Operand.tmp 84), type := 0, pos := "ref.go:68", after := #[{ on := 6, ground := Ground.data }, { on := 5, ground := Ground.data }, { on := 5, ground := Ground.chain }, { on := 0, ground := Ground.phase }, { on := 1, ground := Ground.phase }, { on := 2, ground := Ground.phase }, { on := 3, ground := Ground.phase }, { on := 4, ground := Ground.phase }, { on := 5, ground := Ground.phase }], guard := none } : Oper)) rfl (fun Kq hK => ?_) (AllReadyH.nil)
          go_simp
          refine hK.out _ _ ?_ (fun hHeld => ?_)
          · exact trivial
          clear hK Kq
          try simp only [Act.put, List.setIfInBounds_toArray, List.set_cons_zero, List.set_cons_succ]
          refine wpAnyH_done (by kernel_rfl) ?_ _
          clear hHeld ov3 ovf hA3 hT3 hW3 hsz hb9
          go_wp2_with fail
          go_roundw
          case rel => exact ⟨k + 1, _, by omega, by go_num, hA4, hT4, hW4, hz4⟩
          case measure => simp [intOf]; omega
        exact AllReadyH.nil
      exact AllReadyH.nil
    · obtain rfl : k = N := by omega
      go_wp2_with (go_at_call 22; (refine (refElems_to (a : Int) (b : Int) C _ HEL.out _).mono ?_); rintro e Wa ⟨rfl, hbe⟩; have hA1 := Lib.hid (hA0.out.below h63 (B' := wr.heap.size) (by omega) hbe); have hT1 := Lib.hid (hT0.out.below (B' := wr.heap.size) (by omega) hbe); have hW1 := Lib.hid (Kit.own_below hW0.out hbe); have hz1 := Nat.le_trans hz0 hbe.size; clear hA0 hT0 hW0 hz0 s1 s2 s3 hbe; obtain ⟨Av0, cv0, rfl, -, -, -⟩ := Kit.own_rd hW1.out; obtain ⟨-, -, ⟨⟨z0, z1, z2, z3⟩, z4, z5, z6, z7⟩, ⟨s1, s2, s3⟩, hbw, hsz⟩ := hA1.out; obtain ⟨o0, o1, o2, o3, -⟩ := hT1.out; have HBW := Lib.hid hbw; clear hbw)
      refine bodyPost_ret (Kit.results_ct rfl _ _ (w.heap.size + 2) 0 [.int .i64 (a : Int), .int .i64 (b : Int), .int .i64 C, .slice Av0 k cv0] _ rfl (range_4 (by go_cell) (by go_cell) (by go_cell) (by go_cell)) Try.underlying29 rfl (by kernel_rfl)) rfl ?_
      refine ⟨_, rfl, Kit.own_base (own_set4 hW1.out ?_) ?_, ?_⟩
      any_goals (first | omega | (simp; done) | (simp; omega))
      exact (((HBW.out.setCell (p := ⟨w.heap.size + 2, 0, none⟩) (by show w.heap.size ≤ w.heap.size + 2; omega) _).setCell (p := ⟨w.heap.size + 2, 1, none⟩) (by show w.heap.size ≤ w.heap.size + 2; omega) _).setCell (p := ⟨w.heap.size + 2, 2, none⟩) (by show w.heap.size ≤ w.heap.size + 2; omega) _).setCell (p := ⟨w.heap.size + 2, 3, none⟩) (by show w.heap.size ≤ w.heap.size + 2; omega) _
end Go.Proofs.Ytccngjgbhbeobaa.CPool
