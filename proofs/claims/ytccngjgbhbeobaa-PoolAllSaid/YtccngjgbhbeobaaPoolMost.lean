/- Layer 19 (pool): the document's pool of a tensor: the greatest ones. -/
import Derived.Test.YtccngjgbhbeobaaPoolMean
namespace Go.Proofs.Ytccngjgbhbeobaa.CPool
open Go Go.ChangeShapes Go.WideShapes Go.ChangeAt Go.RowKit
open Plain CSat CShape CTensor CConv
set_option linter.unusedVariables false

/-- the least and the greatest of the first k numbers. -/
def reachK (zs : List Int) : Nat → Int × Int
  | 0 => (zs.getD 0 0, zs.getD 0 0)
  | k + 1 => (min (reachK zs k).1 (zs.getD k 0), max (reachK zs k).2 (zs.getD k 0))
def topZ (zs : List Int) : Int := (reachK zs zs.length).2
set_option maxHeartbeats 2000000 in
theorem refReach_top (A : Option Addr) (zs : List Int) (n c : Nat) (hn : zs.length = n) (hl : n ≤ 1000000) (x : Int) (hx : topZ zs = x) (w : World) {B : Nat} (hr : Kit.Rd w B A (I8s zs)) :
    Calls Try.prog 24 #[.slice A n c] w fun e w' => (∃ lo, e = .returned (.tuple #[.int .i8 lo, .int .i8 x])) ∧ ∃ m, w' = w.drewN m := by
  rcases Nat.eq_zero_or_pos n with h0 | h0
  · subst h0
    obtain rfl := List.eq_nil_of_length_eq_zero hn
    have hx0 : x = 0 := hx.symm
    subst hx0
    clear hr hx hn
    go_enter Try.func24, Try.ntmps24
    go_wp2_with fail
    go_ret2
    exact ⟨⟨_, rfl⟩, 0, rfl⟩
  · obtain ⟨b0, off0, rfl, _, hc0⟩ := ints_getD hr (j := 0) (by omega)
    have hc1 : w.cell? ⟨b0, off0, none⟩ = some (.int .i8 (zs.getD 0 0)) := by simpa using hc0 0 (by omega)
    have HC := Lib.hid hc0
    have HN := Lib.hid hn
    have HXX := Lib.hid hx
    have hNI : (1 : Int) ≤ (n : Int) := by omega
    have hN0 : ((n : Int) == 0) = false := by simp; omega
    obtain ⟨z, hz⟩ : ∃ z, zs.getD 0 0 = z := ⟨_, rfl⟩
    rw [hz] at hc1
    have HZ0 := Lib.hid hz
    clear hc0 hn hx hz hr
    go_enter Try.func24, Try.ntmps24
    go_wp2_with fail
    go_quiet (fail)
    go_wp2_with fail
    go_loopw [4, 5, 6] (fun a b i wr => ∃ (k m : Nat) (l h : Int), k ≤ n ∧ i = .int .i64 k ∧ a = .int .i8 l ∧ b = .int .i8 h ∧ Hid (reachK zs k = (l, h)) ∧ Hid (wr = w.drewN m)) (fun _ _ i _ => n - (intOf i).toNat)
    case atStart => exact ⟨0, _, z, z, Nat.zero_le _, rfl, rfl, rfl, Lib.hid (by show (zs.getD 0 0, zs.getD 0 0) = _; rw [HZ0.out]), Lib.hid rfl⟩
    case round =>
      obtain ⟨k, m, l, h, hk, rfl, rfl, rfl, hst, hw⟩ := hrel
      obtain rfl := hw.out
      clear hw hc1
      by_cases hlt : k < n
      · have hcx := HC.out k (by have := HN.out; omega)
        have hnx : reachK zs (k + 1) = (min l (zs.getD k 0), max h (zs.getD k 0)) := by
          show (min (reachK zs k).1 _, max (reachK zs k).2 _) = _
          rw [hst.out]
        generalize zs.getD k 0 = x1 at hcx hnx
        have hmn : ∃ m, min l x1 = m ∧ ((l ≤ x1 ∧ ¬ x1 < l ∧ m = l) ∨ (x1 < l ∧ ¬ l ≤ x1 ∧ m = x1)) := ⟨_, rfl, by omega⟩
        have hmx : ∃ m, max h x1 = m ∧ ((h < x1 ∧ ¬ x1 ≤ h ∧ m = x1) ∨ (x1 ≤ h ∧ ¬ h < x1 ∧ m = h)) := ⟨_, rfl, by omega⟩
        obtain ⟨m1, hm1, hmn⟩ := hmn
        obtain ⟨m2, hm2, hmx⟩ := hmx
        rw [hm1, hm2] at hnx
        have HNX := Lib.hid hnx
        have hkI : (k : Int) < (n : Int) := by omega
        have hkJ : (0 : Int) ≤ (k : Int) := by omega
        clear hm1 hm2 hnx hst
        rcases hmn with ⟨q1, q2, rfl⟩ | ⟨q1, q2, rfl⟩ <;> rcases hmx with ⟨q3, q4, rfl⟩ | ⟨q3, q4, rfl⟩
        all_goals
          go_wp2_with fail
          go_roundw
          case rel => exact ⟨k + 1, m, _, _, by omega, by go_num, rfl, rfl, HNX, Lib.hid rfl⟩
          case measure => simp [intOf]; omega
      · obtain rfl : k = n := by omega
        have he : h = x := by
          rw [← HXX.out]
          unfold topZ
          rw [HN.out, hst.out]
        subst he
        go_wp2_with fail
        go_ret2
        exact ⟨⟨_, rfl⟩, m, rfl⟩
/-- one number of the pool: the greatest of a window. -/
def mostF (zs : List Int) (H W C S P : Int) (kk : Nat) (h v o : Nat) : Int := topZ (windowL zs H W C ((h : Int) * S - P) ((v : Int) * S - P) kk o)
set_option maxRecDepth 100000 in
set_option maxHeartbeats 8000000 in
theorem refPool_most (H W C : Int) (A : Option Addr) (zs : List Int) (n c : Nat) (hn : zs.length = n) (ht : tensB H W C n = true) (hz : I8b zs) (x0 x1 x2 x8 x11 x12 x13 x14 x15 x16 x17 x18 : Value) (K S P O Z : Int) (WA BA : Option Addr) (nW cW nB cB : Nat) (a b d kk : Nat) (he : slideE H W C K S P C = 0) (ha : stepsM H K S P = (a : Int)) (hb : stepsM W K S P = (b : Int)) (hd : C = (d : Int)) (hk : K = (kk : Int)) (N : Nat) (hN : a * b * d = N)
    (w : World) (hr : Kit.Rd w w.heap.size A (I8s zs)) :
    Calls Try.prog 12 #[.agg #[.int .i64 H, .int .i64 W, .int .i64 C, .slice A n c], .agg #[x0, x1, x2, .int .i64 K, .int .i64 S, .int .i64 P, .int .i64 O, .int .i8 Z, x8, .slice WA nW cW, .slice BA nB cB, x11, x12, x13, x14, x15, x16, x17, x18], .bool true] w (MadeP w (a : Int) (b : Int) C N (rowL (gridF b d (mostF zs H W C S P kk)) N) (.int .i64 0)) := by
  obtain ⟨hs0, har1, har2, -, -, hsr⟩ := slide_ok he
  obtain ⟨-, -, k1, k2, st1, st2, pd1, pd2, -⟩ := argsB_yes har1
  have hS : slideS H W C K S P C = #[.int .i64 (a : Int), .int .i64 (b : Int), .int .i64 C] := by unfold slideS; rw [he, if_pos rfl, ha, hb]
  rw [ha, hb] at hsr
  obtain ⟨q1, q2, q3, q4, q5, q6, q7⟩ := shapeB_yes hsr
  have hNI : (a : Int) * (b : Int) * C = (N : Int) := by rw [hd, ← hN]; simp
  have hN2 : N ≤ 1024 := by rw [hNI] at q7; omega
  have hel : elemsZ (a : Int) (b : Int) C = (N : Int) := by rw [elemsZ_yes hsr]; exact hNI
  obtain ⟨F, hF⟩ : ∃ F, F = gridF b d (mostF zs H W C S P kk) := ⟨_, rfl⟩
  rw [← hF]
  obtain ⟨i0, hi0, hi1, hi2, hi3⟩ := info_parts32 info_i8p
  have hkk7 : kk ≤ 7 := by omega
  have hkk2 : kk * kk ≤ 49 := Nat.le_trans (Nat.mul_le_mul hkk7 hkk7) (by omega)
  subst hk
  have HT := Lib.hid ht
  have HE := Lib.hid he
  have HS := Lib.hid hS
  have HEL := Lib.hid hel
  have HF := Lib.hid hF
  have HN := Lib.hid hn
  have HZ := Lib.hid hz
  have HD := Lib.hid hd
  have HNN := Lib.hid hN
  have HR := Lib.hid hr
  clear ht he hS hel hF hn hz hd hN hr hs0 har1 har2 hsr q7 hNI ha hb
  go_enter Try.func12, Try.ntmps12
  go_wp2_with (first
    | (go_at_call 15
       have hal : Below w.heap.size w (((w.alloc (.cells #[.int .i64 H, .int .i64 W, .int .i64 C, .slice A n c] 29)).alloc (.cells #[x0, x1, x2, .int .i64 (kk : Int), .int .i64 S, .int .i64 P, .int .i64 O, .int .i8 Z, x8, .slice WA nW cW, .slice BA nB cB, x11, x12, x13, x14, x15, x16, x17, x18] 35)).alloc (.cells #[.int .i64 0, .int .i64 0, .int .i64 0, .slice none 0 0] 29)) := (((Below.refl _ _).alloc (by first | exact Nat.le_refl _ | (simp; done) | (simp; omega)) _).alloc (by first | exact Nat.le_refl _ | (simp; done) | (simp; omega)) _).alloc (by first | exact Nat.le_refl _ | (simp; done) | (simp; omega)) _
       refine (refRight_to H W C A n c true HT.out _).mono ?_
       rintro e w1 ⟨rfl, hb⟩
       have hh : Below w.heap.size w w1 := hal.trans (hb.mono hal.size)
       have qTB := (boxNew H W C A n c 29) w
       try simp only [World.size_alloc] at qTB
       have TB := Lib.hid ((qTB.below (B' := w.heap.size + 1) (by omega) ((((Below.refl _ _).alloc (by first | exact Nat.le_refl _ | (simp; done) | (simp; omega)) _).alloc (by first | exact Nat.le_refl _ | (simp; done) | (simp; omega)) _).mono (by simp))).below (by first | (simp; done) | (simp; omega)) hb)
       have yTB : w.heap.size < w1.heap.size := by have := hb.size; simp at this; omega
       clear qTB
       have qTN := (NodeAt.new x0 x1 x2 x8 x11 x12 x13 x14 x15 x16 x17 x18 (kk : Int) S P O Z WA BA nW cW nB cB 35) (w.alloc (.cells #[.int .i64 H, .int .i64 W, .int .i64 C, .slice A n c] 29))
       try simp only [World.size_alloc] at qTN
       have TN := Lib.hid ((qTN.below (B' := w.heap.size + 2) (by omega) (((Below.refl _ _).alloc (by first | exact Nat.le_refl _ | (simp; done) | (simp; omega)) _).mono (by simp))).below (by first | (simp; done) | (simp; omega)) hb)
       have yTN : w.heap.size + 1 < w1.heap.size := by have := hb.size; simp at this; omega
       clear qTN
       have qFR := (freshNew 29) ((w.alloc (.cells #[.int .i64 H, .int .i64 W, .int .i64 C, .slice A n c] 29)).alloc (.cells #[x0, x1, x2, .int .i64 (kk : Int), .int .i64 S, .int .i64 P, .int .i64 O, .int .i8 Z, x8, .slice WA nW cW, .slice BA nB cB, x11, x12, x13, x14, x15, x16, x17, x18] 35))
       try simp only [World.size_alloc] at qFR
       have FR := Lib.hid (qFR.below (by first | (simp; done) | (simp; omega)) hb)
       have yFR : w.heap.size + 2 < w1.heap.size := by have := hb.size; simp at this; omega
       clear qFR
       have HBW : Hid (Below w.heap.size w w1) := Lib.hid hh
       have n3 := TN.out.at 3 _ rfl; have n4 := TN.out.at 4 _ rfl; have n5 := TN.out.at 5 _ rfl
       obtain ⟨tbp0, tbp1, tbp2, tbp3⟩ := TB.out
       clear hb hh hal)
    | (go_at_call 21
       have hal : Below w1.heap.size w1 w1 := Below.refl _ _
       refine (refSlide_to H W C (kk : Int) S P C 0 _ HE.out HS.out _).mono ?_
       rintro e w2 ⟨rfl, hb⟩
       have hh : Below w1.heap.size w1 w2 := hal.trans (hb.mono hal.size)
       replace TB := Lib.hid (TB.out.below yTB hh)
       replace yTB := Nat.lt_of_lt_of_le yTB hh.size
       replace TN := Lib.hid (TN.out.below yTN hh)
       replace yTN := Nat.lt_of_lt_of_le yTN hh.size
       replace FR := Lib.hid (FR.out.below yFR hh)
       replace yFR := Nat.lt_of_lt_of_le yFR hh.size
       replace HBW := Lib.hid (HBW.out.trans (hh.mono HBW.out.size))
       clear tbp0 tbp1 tbp2 tbp3
       clear n3 n4 n5
       have hg2 : w.heap.size + 3 ≤ w2.heap.size := yFR
       obtain ⟨tbp0, tbp1, tbp2, tbp3⟩ := TB.out
       clear hb hh hal))
  have hal : Below w2.heap.size w2 ((w2.alloc (.cells #[.int .i64 (a : Int), .int .i64 (b : Int), .int .i64 C] 26)).alloc (.cells #[.int .i64 (a : Int), .int .i64 (b : Int), .int .i64 C, .slice none 0 0] 29)) := ((Below.refl _ _).alloc (Nat.le_refl _) _).alloc (by simp) _
  have h63 : w.heap.size + 3 ≤ w2.heap.size := hg2
  have hts := (shapeNew (a : Int) (b : Int) C 26 w2).below (B' := w2.heap.size + 1) (by omega) ((Below.refl _ _).alloc (by simp) (.cells #[.int .i64 (a : Int), .int .i64 (b : Int), .int .i64 C, .slice none 0 0] 29))
  have hot := PutAt.new (a : Int) (b : Int) C (.slice none 0 0) 29 (w2.alloc (.cells #[.int .i64 (a : Int), .int .i64 (b : Int), .int .i64 C] 26))
  rw [World.size_alloc] at hot
  have HOT := Lib.hid hot
  have hOA : Hid (OfAt w H W C A n c x0 x1 x2 x8 x11 x12 x13 x14 x15 x16 x17 x18 (kk : Int) S P O Z WA BA nW cW nB cB (a : Int) (b : Int) C w2.heap.size ((w2.alloc (.cells #[.int .i64 (a : Int), .int .i64 (b : Int), .int .i64 C] 26)).alloc (.cells #[.int .i64 (a : Int), .int .i64 (b : Int), .int .i64 C, .slice none 0 0] 29))) := Lib.hid ⟨TB.out.below yTB hal, TN.out.below yTN hal, FR.out.below yFR hal, hts, HBW.out.trans (hal.mono HBW.out.size), by first | (simp; done) | (simp; omega)⟩
  have hW : Hid (((w2.alloc (.cells #[.int .i64 (a : Int), .int .i64 (b : Int), .int .i64 C] 26)).alloc (.cells #[.int .i64 (a : Int), .int .i64 (b : Int), .int .i64 C, .slice none 0 0] 29)).ownsRow (w2.heap.size + 2) 30 1 (.slice none 0 0) 0 (I8s (rowL F 0))) := Lib.hid ⟨by simp [I8s, rowL], .inl ⟨rfl, rfl⟩⟩
  have hzz : w2.heap.size + 2 ≤ ((w2.alloc (.cells #[.int .i64 (a : Int), .int .i64 (b : Int), .int .i64 C] 26)).alloc (.cells #[.int .i64 (a : Int), .int .i64 (b : Int), .int .i64 C, .slice none 0 0] 29)).heap.size := by simp
  clear TB TN FR yTB yTN yFR hal tbp0 tbp1 tbp2 tbp3 HBW hg2 hts hot
  generalize ((w2.alloc (.cells #[.int .i64 (a : Int), .int .i64 (b : Int), .int .i64 C] 26)).alloc (.cells #[.int .i64 (a : Int), .int .i64 (b : Int), .int .i64 C, .slice none 0 0] 29)) = Wm at hOA hW HOT hzz ⊢
  generalize w2.heap.size = g6 at hOA hW HOT h63 hzz ⊢
  go_loopw [11] (fun u wr => ∃ (k : Nat) (v : Value), k ≤ N ∧ u = .int .i64 k ∧ Hid (OfAt w H W C A n c x0 x1 x2 x8 x11 x12 x13 x14 x15 x16 x17 x18 (kk : Int) S P O Z WA BA nW cW nB cB (a : Int) (b : Int) C g6 wr) ∧ Hid (PutAt (g6 + 1) (a : Int) (b : Int) C v wr) ∧ Hid (wr.ownsRow (g6 + 2) 30 1 v k (I8s (rowL F k))) ∧ g6 + 2 ≤ wr.heap.size) (fun u _ => N - (intOf u).toNat)
  case atStart => exact ⟨0, _, Nat.zero_le _, rfl, hOA, HOT, hW, hzz⟩
  case round =>
    obtain ⟨k, v0, hk, rfl, hA0, hT0, hW0, hz0⟩ := hrel
    clear hOA hW HOT hzz
    obtain ⟨-, -, -, ⟨s1, s2, s3⟩, -, -⟩ := hA0.out
    by_cases hlt : k < N
    · have hkI : (k : Int) < (N : Int) := by omega
      have hk0 : (0 : Int) ≤ (k : Int) := by omega
      obtain ⟨r, hr⟩ : ∃ r : Nat, k / d = r := ⟨_, rfl⟩
      obtain ⟨o, ho⟩ : ∃ o : Nat, k % d = o := ⟨_, rfl⟩
      obtain ⟨h, hh⟩ : ∃ h : Nat, r / b = h := ⟨_, rfl⟩
      obtain ⟨v, hv⟩ : ∃ v : Nat, r % b = v := ⟨_, rfl⟩
      have hd1 : 0 < d := by have := HD.out; omega
      have hb1 : 0 < b := by omega
      have hrk : r ≤ k := by rw [← hr]; exact Nat.div_le_self _ _
      have hrab : r < a * b := by
        rw [← hr]
        exact (Nat.div_lt_iff_lt_mul hd1).mpr (by rw [HNN.out]; exact hlt)
      have hha : h < a := by rw [← hh]; exact (Nat.div_lt_iff_lt_mul hb1).mpr hrab
      have hvb : v < b := by rw [← hv]; exact Nat.mod_lt _ hb1
      have hod : o < d := by rw [← ho]; exact Nat.mod_lt _ hd1
      have hh16 : h ≤ 16 := by omega
      have hv16 : v ≤ 16 := by omega
      have c0 : ¬ C = 0 := by omega
      have b0 : ¬ (b : Int) = 0 := by omega
      have b0n : ¬ b = 0 := by omega
      have d1 : (k : Int).tdiv C = (r : Int) := by rw [HD.out, Int.tdiv_eq_ediv_of_nonneg (by omega), ← hr]; simp
      have d2 : (k : Int).tmod C = (o : Int) := by rw [HD.out, Int.tmod_eq_emod_of_nonneg (by omega), ← ho]; simp
      have d3 : (r : Int).tdiv (b : Int) = (h : Int) := by rw [Int.tdiv_eq_ediv_of_nonneg (by omega), ← hh]; simp
      have d4 : (r : Int).tmod (b : Int) = (v : Int) := by rw [Int.tmod_eq_emod_of_nonneg (by omega), ← hv]; simp
      have hrl : r ≤ 1024 := by omega
      have w1 : IntKind.i64.wrap (r : Int) = (r : Int) := IntWalk.i64_in _ (by omega)
      have w2 : IntKind.i64.wrap (o : Int) = (o : Int) := IntWalk.i64_in _ (by have := HD.out; omega)
      have w3 : IntKind.i64.wrap (h : Int) = (h : Int) := IntWalk.i64_in _ (by omega)
      have w4 : IntKind.i64.wrap (v : Int) = (v : Int) := IntWalk.i64_in _ (by omega)
      obtain ⟨L, hL⟩ : ∃ L, windowL zs H W C ((h : Int) * S - P) ((v : Int) * S - P) kk o = L := ⟨_, rfl⟩
      have hL8 : I8b L := by rw [← hL]; exact windowL_I8 zs HZ.out _ _ _ _ _ _ _
      have hLn : L.length ≤ 49 := by rw [← hL]; exact Nat.le_trans (windowL_len _ _ _ _ _ _ _ _) hkk2
      obtain ⟨x, hx⟩ : ∃ x, topZ L = x := ⟨_, rfl⟩
      have hFk : F k = x := by
        rw [HF.out, ← hx, ← hL]
        unfold gridF mostF
        rw [hr, hh, hv, ho]
      have HLL := Lib.hid hL
      have HL8 := Lib.hid hL8
      have HXX := Lib.hid hx
      have HFK := Lib.hid hFk
      clear hr ho hh hv hL hL8 hx hFk hrk hrab
      go_wp2_with (go_at_call 22; (refine (refElems_to (a : Int) (b : Int) C _ HEL.out _).mono ?_); rintro e Wa ⟨rfl, hbe⟩; have hA1 := Lib.hid (hA0.out.below h63 (B' := wr.heap.size) (by omega) hbe); have hT1 := Lib.hid (hT0.out.below (B' := wr.heap.size) (by omega) hbe); have hW1 := Lib.hid (Kit.own_below hW0.out hbe); have hz1 := Nat.le_trans hz0 hbe.size; clear hA0 hT0 hW0 hz0 s1 s2 s3 hbe)
      obtain ⟨hbx, hnd, -, hsh, hbw, -⟩ := hA1.out
      refine wp_region_held_drew (S := fun w' => BoxAt w.heap.size H W C A n c w' ∧ NodeAt (w.heap.size + 1) x0 x1 x2 x8 x11 x12 x13 x14 x15 x16 x17 x18 (kk : Int) S P O Z WA BA nW cW nB cB w' ∧ ShapeAt g6 (a : Int) (b : Int) C w') (by kernel_rfl) ⟨hbx, hnd, hsh⟩ (fun hHeld => ?_)
      have HBW := Lib.hid hbw.drew
      clear hbx hnd hsh hbw
      have hA2 : Hid (OfAt w H W C A n c x0 x1 x2 x8 x11 x12 x13 x14 x15 x16 x17 x18 (kk : Int) S P O Z WA BA nW cW nB cB (a : Int) (b : Int) C g6 Wa.drew) := Lib.hid (hA1.out.below h63 (Nat.lt_succ_self _) (Below.refl _ _).drew)
      have hT2 : Hid (PutAt (g6 + 1) (a : Int) (b : Int) C v0 Wa.drew) := hT1
      have hW2 : Hid (Wa.drew.ownsRow (g6 + 2) 30 1 v0 k (I8s (rowL F k))) := Lib.hid (Kit.own_below hW1.out (Below.refl _ _).drew)
      have hz2 : g6 + 2 ≤ Wa.drew.heap.size := hz1
      clear hA1 hT1 hW1 hz1
      generalize Wa.drew = Wb at HBW hA2 hT2 hW2 hz2 hHeld ⊢
      refine wpAnyH_take (i := 0) (oi := ({ dst := some 46, op := Op.load 29 (Operand.tmp 3), type := 29, pos := "ref.go:63", after := #[], guard := none } : Oper)) (v := ?_) rfl (by kernel_rfl) (by kernel_rfl) (by kernel_rfl) (fun _ _ _ h => h) (Or.inl ⟨by rfl, ?_⟩) (by assumption) ?_
      rotate_left
      · intro wS hSw
        obtain ⟨hq1, hq2, hq3⟩ := hSw
        obtain ⟨s1, s2, s3, s4⟩ := hq1; clear hq2 hq3
        first
          | (go_simp; done)
          | (go_simp; with_reducible rfl)
      try simp only [Act.put, List.setIfInBounds_toArray, List.set_cons_zero, List.set_cons_succ]
      refine wpAnyH_take (i := 1) (oi := ({ dst := some 47, op := Op.load 35 (Operand.tmp 4), type := 35, pos := "ref.go:63", after := #[], guard := none } : Oper)) (v := .agg #[x0, x1, x2, .int .i64 (kk : Int), .int .i64 S, .int .i64 P, .int .i64 O, .int .i8 Z, x8, .slice WA nW cW, .slice BA nB cB, x11, x12, x13, x14, x15, x16, x17, x18]) rfl (by kernel_rfl) (by kernel_rfl) (by kernel_rfl) (fun _ _ _ h => h) (yieldsIf_load_mid (by rfl) _ _ rfl (w.heap.size + 1) 0 rfl [x0, x1, x2, .int .i64 (kk : Int), .int .i64 S, .int .i64 P, .int .i64 O, .int .i8 Z, x8, .slice WA nW cW, .slice BA nB cB, x11, x12, x13, x14, x15, x16, x17, x18] _ (fun w' h => h.2.1) Try.underlying35 rfl (by kernel_rfl)) (by assumption) ?_
      try simp only [Act.put, List.setIfInBounds_toArray, List.set_cons_zero, List.set_cons_succ]
      refine wpAnyH_take (i := 2) (oi := ({ dst := some 48, op := Op.move (Operand.tmp 11), type := 3, pos := "ref.go:63", after := #[], guard := none } : Oper)) (v := ?_) rfl (by kernel_rfl) (by kernel_rfl) (by kernel_rfl) (fun _ _ _ h => h) (Or.inl ⟨by rfl, ?_⟩) (by assumption) ?_
      rotate_left
      · intro wS hSw
        first
          | (go_simp; done)
          | (go_simp; with_reducible rfl)
      try simp only [Act.put, List.setIfInBounds_toArray, List.set_cons_zero, List.set_cons_succ]
      refine wpAnyH_take (i := 3) (oi := ({ dst := some 49, op := Op.fieldAddr 26 (Operand.tmp 8) 2, type := 0, pos := "ref.go:63", after := #[], guard := none } : Oper)) (v := ?_) rfl (by kernel_rfl) (by kernel_rfl) (by kernel_rfl) (fun _ _ _ h => h) (Or.inl ⟨by rfl, ?_⟩) (by assumption) ?_
      rotate_left
      · intro wS hSw
        first
          | (go_simp; done)
          | (go_simp; with_reducible rfl)
      try simp only [Act.put, List.setIfInBounds_toArray, List.set_cons_zero, List.set_cons_succ]
      refine wpAnyH_take (i := 4) (oi := ({ dst := some 50, op := Op.load 3 (Operand.tmp 49), type := 3, pos := "ref.go:63", after := #[{ on := 3, ground := Ground.data }], guard := none } : Oper)) (v := ?_) rfl (by kernel_rfl) (by kernel_rfl) (by kernel_rfl) (fun _ _ _ h => h) (Or.inl ⟨by rfl, ?_⟩) (by assumption) ?_
      rotate_left
      · intro wS hSw
        obtain ⟨hq1, hq2, hq3⟩ := hSw
        obtain ⟨s1, s2, s3⟩ := hq3; clear hq1 hq2
        first
          | (go_simp; done)
          | (go_simp; with_reducible rfl)
      try simp only [Act.put, List.setIfInBounds_toArray, List.set_cons_zero, List.set_cons_succ]
      refine wpAnyH_take (i := 5) (oi := ({ dst := some 51, op := Op.binOp BinOp.quo 3 (Operand.tmp 48) (Operand.tmp 50) 3, type := 3, pos := "ref.go:63", after := #[{ on := 2, ground := Ground.data }, { on := 4, ground := Ground.data }], guard := none } : Oper)) (v := ?_) rfl (by kernel_rfl) (by kernel_rfl) (by kernel_rfl) (fun _ _ _ h => h) (Or.inl ⟨by rfl, ?_⟩) (by assumption) ?_
      rotate_left
      · intro wS hSw
        first
          | (go_simp; done)
          | (go_simp; with_reducible rfl)
      try simp only [Act.put, List.setIfInBounds_toArray, List.set_cons_zero, List.set_cons_succ]
      refine wpAnyH_take (i := 6) (oi := ({ dst := some 52, op := Op.fieldAddr 26 (Operand.tmp 8) 1, type := 0, pos := "ref.go:63", after := #[], guard := none } : Oper)) (v := ?_) rfl (by kernel_rfl) (by kernel_rfl) (by kernel_rfl) (fun _ _ _ h => h) (Or.inl ⟨by rfl, ?_⟩) (by assumption) ?_
      rotate_left
      · intro wS hSw
        first
          | (go_simp; done)
          | (go_simp; with_reducible rfl)
      try simp only [Act.put, List.setIfInBounds_toArray, List.set_cons_zero, List.set_cons_succ]
      refine wpAnyH_take (i := 7) (oi := ({ dst := some 53, op := Op.load 3 (Operand.tmp 52), type := 3, pos := "ref.go:63", after := #[{ on := 6, ground := Ground.data }], guard := none } : Oper)) (v := ?_) rfl (by kernel_rfl) (by kernel_rfl) (by kernel_rfl) (fun _ _ _ h => h) (Or.inl ⟨by rfl, ?_⟩) (by assumption) ?_
      rotate_left
      · intro wS hSw
        obtain ⟨hq1, hq2, hq3⟩ := hSw
        obtain ⟨s1, s2, s3⟩ := hq3; clear hq1 hq2
        first
          | (go_simp; done)
          | (go_simp; with_reducible rfl)
      try simp only [Act.put, List.setIfInBounds_toArray, List.set_cons_zero, List.set_cons_succ]
      refine wpAnyH_take (i := 8) (oi := ({ dst := some 54, op := Op.binOp BinOp.quo 3 (Operand.tmp 51) (Operand.tmp 53) 3, type := 3, pos := "ref.go:63", after := #[{ on := 5, ground := Ground.data }, { on := 7, ground := Ground.data }], guard := none } : Oper)) (v := ?_) rfl (by kernel_rfl) (by kernel_rfl) (by kernel_rfl) (fun _ _ _ h => h) (Or.inl ⟨by rfl, ?_⟩) (by assumption) ?_
      rotate_left
      · intro wS hSw
        first
          | (go_simp; done)
          | (go_simp; with_reducible rfl)
      try simp only [Act.put, List.setIfInBounds_toArray, List.set_cons_zero, List.set_cons_succ]
      refine wpAnyH_take (i := 9) (oi := ({ dst := some 55, op := Op.move (Operand.tmp 11), type := 3, pos := "ref.go:63", after := #[], guard := none } : Oper)) (v := ?_) rfl (by kernel_rfl) (by kernel_rfl) (by kernel_rfl) (fun _ _ _ h => h) (Or.inl ⟨by rfl, ?_⟩) (by assumption) ?_
      rotate_left
      · intro wS hSw
        first
          | (go_simp; done)
          | (go_simp; with_reducible rfl)
      try simp only [Act.put, List.setIfInBounds_toArray, List.set_cons_zero, List.set_cons_succ]
      refine wpAnyH_take (i := 10) (oi := ({ dst := some 56, op := Op.fieldAddr 26 (Operand.tmp 8) 2, type := 0, pos := "ref.go:63", after := #[], guard := none } : Oper)) (v := ?_) rfl (by kernel_rfl) (by kernel_rfl) (by kernel_rfl) (fun _ _ _ h => h) (Or.inl ⟨by rfl, ?_⟩) (by assumption) ?_
      rotate_left
      · intro wS hSw
        first
          | (go_simp; done)
          | (go_simp; with_reducible rfl)
      try simp only [Act.put, List.setIfInBounds_toArray, List.set_cons_zero, List.set_cons_succ]
      refine wpAnyH_take (i := 11) (oi := ({ dst := some 57, op := Op.load 3 (Operand.tmp 56), type := 3, pos := "ref.go:63", after := #[{ on := 10, ground := Ground.data }], guard := none } : Oper)) (v := ?_) rfl (by kernel_rfl) (by kernel_rfl) (by kernel_rfl) (fun _ _ _ h => h) (Or.inl ⟨by rfl, ?_⟩) (by assumption) ?_
      rotate_left
      · intro wS hSw
        obtain ⟨hq1, hq2, hq3⟩ := hSw
        obtain ⟨s1, s2, s3⟩ := hq3; clear hq1 hq2
        first
          | (go_simp; done)
          | (go_simp; with_reducible rfl)
      try simp only [Act.put, List.setIfInBounds_toArray, List.set_cons_zero, List.set_cons_succ]
      refine wpAnyH_take (i := 12) (oi := ({ dst := some 58, op := Op.binOp BinOp.quo 3 (Operand.tmp 55) (Operand.tmp 57) 3, type := 3, pos := "ref.go:63", after := #[{ on := 9, ground := Ground.data }, { on := 11, ground := Ground.data }], guard := none } : Oper)) (v := ?_) rfl (by kernel_rfl) (by kernel_rfl) (by kernel_rfl) (fun _ _ _ h => h) (Or.inl ⟨by rfl, ?_⟩) (by assumption) ?_
      rotate_left
      · intro wS hSw
        first
          | (go_simp; done)
          | (go_simp; with_reducible rfl)
      try simp only [Act.put, List.setIfInBounds_toArray, List.set_cons_zero, List.set_cons_succ]
      refine wpAnyH_take (i := 13) (oi := ({ dst := some 59, op := Op.fieldAddr 26 (Operand.tmp 8) 1, type := 0, pos := "ref.go:63", after := #[], guard := none } : Oper)) (v := ?_) rfl (by kernel_rfl) (by kernel_rfl) (by kernel_rfl) (fun _ _ _ h => h) (Or.inl ⟨by rfl, ?_⟩) (by assumption) ?_
      rotate_left
      · intro wS hSw
        first
          | (go_simp; done)
          | (go_simp; with_reducible rfl)
      try simp only [Act.put, List.setIfInBounds_toArray, List.set_cons_zero, List.set_cons_succ]
      refine wpAnyH_take (i := 14) (oi := ({ dst := some 60, op := Op.load 3 (Operand.tmp 59), type := 3, pos := "ref.go:63", after := #[{ on := 13, ground := Ground.data }], guard := none } : Oper)) (v := ?_) rfl (by kernel_rfl) (by kernel_rfl) (by kernel_rfl) (fun _ _ _ h => h) (Or.inl ⟨by rfl, ?_⟩) (by assumption) ?_
      rotate_left
      · intro wS hSw
        obtain ⟨hq1, hq2, hq3⟩ := hSw
        obtain ⟨s1, s2, s3⟩ := hq3; clear hq1 hq2
        first
          | (go_simp; done)
          | (go_simp; with_reducible rfl)
      try simp only [Act.put, List.setIfInBounds_toArray, List.set_cons_zero, List.set_cons_succ]
      refine wpAnyH_take (i := 15) (oi := ({ dst := some 61, op := Op.binOp BinOp.rem 3 (Operand.tmp 58) (Operand.tmp 60) 3, type := 3, pos := "ref.go:63", after := #[{ on := 12, ground := Ground.data }, { on := 14, ground := Ground.data }], guard := none } : Oper)) (v := ?_) rfl (by kernel_rfl) (by kernel_rfl) (by kernel_rfl) (fun _ _ _ h => h) (Or.inl ⟨by rfl, ?_⟩) (by assumption) ?_
      rotate_left
      · intro wS hSw
        first
          | (go_simp; done)
          | (go_simp; with_reducible rfl)
      try simp only [Act.put, List.setIfInBounds_toArray, List.set_cons_zero, List.set_cons_succ]
      refine wpAnyH_take (i := 16) (oi := ({ dst := some 62, op := Op.move (Operand.tmp 11), type := 3, pos := "ref.go:63", after := #[], guard := none } : Oper)) (v := ?_) rfl (by kernel_rfl) (by kernel_rfl) (by kernel_rfl) (fun _ _ _ h => h) (Or.inl ⟨by rfl, ?_⟩) (by assumption) ?_
      rotate_left
      · intro wS hSw
        first
          | (go_simp; done)
          | (go_simp; with_reducible rfl)
      try simp only [Act.put, List.setIfInBounds_toArray, List.set_cons_zero, List.set_cons_succ]
      refine wpAnyH_take (i := 17) (oi := ({ dst := some 63, op := Op.fieldAddr 26 (Operand.tmp 8) 2, type := 0, pos := "ref.go:63", after := #[], guard := none } : Oper)) (v := ?_) rfl (by kernel_rfl) (by kernel_rfl) (by kernel_rfl) (fun _ _ _ h => h) (Or.inl ⟨by rfl, ?_⟩) (by assumption) ?_
      rotate_left
      · intro wS hSw
        first
          | (go_simp; done)
          | (go_simp; with_reducible rfl)
      try simp only [Act.put, List.setIfInBounds_toArray, List.set_cons_zero, List.set_cons_succ]
      refine wpAnyH_take (i := 18) (oi := ({ dst := some 64, op := Op.load 3 (Operand.tmp 63), type := 3, pos := "ref.go:63", after := #[{ on := 17, ground := Ground.data }], guard := none } : Oper)) (v := ?_) rfl (by kernel_rfl) (by kernel_rfl) (by kernel_rfl) (fun _ _ _ h => h) (Or.inl ⟨by rfl, ?_⟩) (by assumption) ?_
      rotate_left
      · intro wS hSw
        obtain ⟨hq1, hq2, hq3⟩ := hSw
        obtain ⟨s1, s2, s3⟩ := hq3; clear hq1 hq2
        first
          | (go_simp; done)
          | (go_simp; with_reducible rfl)
      try simp only [Act.put, List.setIfInBounds_toArray, List.set_cons_zero, List.set_cons_succ]
      refine wpAnyH_take (i := 19) (oi := ({ dst := some 65, op := Op.binOp BinOp.rem 3 (Operand.tmp 62) (Operand.tmp 64) 3, type := 3, pos := "ref.go:63", after := #[{ on := 16, ground := Ground.data }, { on := 18, ground := Ground.data }], guard := none } : Oper)) (v := ?_) rfl (by kernel_rfl) (by kernel_rfl) (by kernel_rfl) (fun _ _ _ h => h) (Or.inl ⟨by rfl, ?_⟩) (by assumption) ?_
      rotate_left
      · intro wS hSw
        first
          | (go_simp; done)
          | (go_simp; with_reducible rfl)
      try simp only [Act.put, List.setIfInBounds_toArray, List.set_cons_zero, List.set_cons_succ]
      refine wpAnyH_ready (rs := [20]) (by kernel_rfl) (by simp) ?_
      refine AllReadyH.cons (o := ({ dst := some 66, op := Op.call { callee := Callee.value (Operand.func 23), args := #[Operand.tmp 46, Operand.tmp 47, Operand.tmp 54, Operand.tmp 61, Operand.tmp 65], argTypes := #[29, 35, 3, 3, 3] }, type := 27, pos := "ref.go:63", after := #[{ on := 0, ground := Ground.data }, { on := 1, ground := Ground.data }, { on := 8, ground := Ground.data }, { on := 15, ground := Ground.data }, { on := 19, ground := Ground.data }], guard := none } : Oper)) rfl (fun Kq hK => ?_) (AllReadyH.nil)
      go_simp
      go_at_call 23
      refine (refWindow_to H W C A zs n c HN.out HT.out x0 x1 x2 x8 x11 x12 x13 x14 x15 x16 x17 x18 (kk : Int) S P O Z WA BA nW cW nB cB kk o d HD.out rfl hkk7 hod h v hh16 hv16 st1 st2 pd1 pd2 _ ((HR.out.below HBW.out).more HBW.out.size) L HLL.out).mono ?_
      rintro e Wc ⟨lv, rfl, hown, hb1⟩
      have hS1 : BoxAt w.heap.size H W C A n c Wc ∧ NodeAt (w.heap.size + 1) x0 x1 x2 x8 x11 x12 x13 x14 x15 x16 x17 x18 (kk : Int) S P O Z WA BA nW cW nB cB Wc ∧ ShapeAt g6 (a : Int) (b : Int) C Wc := ⟨hHeld.1.below (B' := Wb.heap.size) (by omega) hb1, hHeld.2.1.below (B' := Wb.heap.size) (by omega) hb1, hHeld.2.2.below (B' := Wb.heap.size) (by omega) hb1⟩
      replace HBW := Lib.hid (HBW.out.trans (hb1.mono HBW.out.size))
      replace hA2 := Lib.hid (hA2.out.below h63 (B' := Wb.heap.size) (by omega) hb1)
      replace hT2 := Lib.hid (hT2.out.below (B' := Wb.heap.size) (by omega) hb1)
      replace hW2 := Lib.hid (Kit.own_below hW2.out hb1)
      replace hz2 := Nat.le_trans hz2 hb1.size
      obtain ⟨Al, cl, rfl, -, -, hrd⟩ := Kit.own_rd hown
      have HRL := Lib.hid hrd
      clear hown hrd hb1 hHeld
      dsimp only
      refine hK.out _ _ ?_ (fun hHeld => ?_)
      · exact hS1
      clear hK Kq
      try simp only [Act.put, List.setIfInBounds_toArray, List.set_cons_zero, List.set_cons_succ]
      refine wpAnyH_take (i := 21) (oi := ({ dst := some 12, op := Op.assign (Operand.tmp 66), type := 27, pos := "ref.go:63", after := #[{ on := 20, ground := Ground.data }, { on := 20, ground := Ground.chain }, { on := 0, ground := Ground.phase }, { on := 1, ground := Ground.phase }, { on := 2, ground := Ground.phase }, { on := 3, ground := Ground.phase }, { on := 4, ground := Ground.phase }, { on := 5, ground := Ground.phase }, { on := 6, ground := Ground.phase }, { on := 7, ground := Ground.phase }, { on := 8, ground := Ground.phase }, { on := 9, ground := Ground.phase }, { on := 10, ground := Ground.phase }, { on := 11, ground := Ground.phase }, { on := 12, ground := Ground.phase }, { on := 13, ground := Ground.phase }, { on := 14, ground := Ground.phase }, { on := 15, ground := Ground.phase }, { on := 16, ground := Ground.phase }, { on := 17, ground := Ground.phase }, { on := 18, ground := Ground.phase }, { on := 19, ground := Ground.phase }, { on := 20, ground := Ground.phase }], guard := none } : Oper)) (v := ?_) rfl (by kernel_rfl) (by kernel_rfl) (by kernel_rfl) (fun _ _ _ h => h) (Or.inl ⟨by rfl, ?_⟩) (by assumption) ?_
      rotate_left
      · intro wS hSw
        first
          | (go_simp; done)
          | (go_simp; with_reducible rfl)
      try simp only [Act.put, List.setIfInBounds_toArray, List.set_cons_zero, List.set_cons_succ]
      refine wpAnyH_done (by kernel_rfl) ?_ _
      clear hHeld d1 d2 d3 d4 w1 w2 w3 w4 c0 b0 b0n hha hvb hod
      obtain ⟨Av, cv, rfl, -, -, -⟩ := Kit.own_rd hW2.out
      go_wp2_with (first
        | (go_at_call 24; (refine (refReach_top Al L L.length cl rfl (by omega) x HXX.out _ HRL.out).mono ?_); rintro e Wd ⟨⟨lo, rfl⟩, q, hq⟩; (have hb1 : Below Wc.heap.size Wc Wd := by (rw [hq]; exact Kit.below_drewN (Below.refl _ _) q)); have hA3 : Hid (OfAt w H W C A n c x0 x1 x2 x8 x11 x12 x13 x14 x15 x16 x17 x18 (kk : Int) S P O Z WA BA nW cW nB cB (a : Int) (b : Int) C g6 Wd) := Lib.hid (hA2.out.below h63 (by omega) hb1); have hT3 : Hid (PutAt (g6 + 1) (a : Int) (b : Int) C (.slice Av k cv) Wd) := Lib.hid (hT2.out.below (by omega) hb1); have hW3 := Lib.hid (Kit.own_below hW2.out hb1); have hsz := Nat.le_trans hz2 hb1.size; clear hA2 hT2 hW2 hz2 hq hb1 HRL HBW; obtain ⟨-, -, -, ov3, ovf⟩ := hT3.out)
        | (at_builtin; (refine Kit.wpList_append_rd _ rfl (.tmp 74) (.tmp 76) _ rfl (g6 + 2) 30 i0 (.int .i8 0) 1 1 Try.underlying27 hi0 hi1 hi2 hi3 rfl (by decide) _ k (I8s (rowL F k)) rfl (Kit.own_below hW3.out ((Below.refl _ _).alloc (Nat.le_refl _) _)) _ _ 1 1 [.int .i8 x] rfl rfl (Kit.Rd.new _ _ _ (Nat.lt_succ_self _)) ?_ ?_ ?_ ?_ ?_); (exact Kit.ints_one .i8 [x]); (unfold maxLen; omega); (omega); (simp; omega); intro v5 w5 hown5 hg5 hat5; obtain ⟨A5, c5, rfl, -, -, -⟩ := Kit.own_rd hown5; have hal : Below (g6 + 2) Wd (Wd.alloc (.cells #[.int .i8 x] 30)) := (Below.refl _ _).alloc hsz _; (have hB5 : Below (g6 + 2) Wd w5 := hal.grown hg5 (by (simp; omega)) (fun q hq => Kit.own_block_ge hW3.out q hq)); rw [rowL_succ8 F k x HFK.out] at hown5; replace hA3 := Lib.hid (hA3.out.below h63 (by omega) hB5); replace hT3 := Lib.hid (hT3.out.below (by omega) hB5); replace hW3 := Lib.hid hown5; replace hsz := Nat.le_trans hsz hB5.size; clear hal hB5 hown5 hg5 hat5 ov3 ovf; obtain ⟨-, -, -, ov3, ovf⟩ := hT3.out))
      have hb9 : Below (g6 + 1) w5 (w5.setCell ⟨g6 + 1, 3, none⟩ (.slice A5 (k + 1) c5)) := (Below.refl _ _).setCell (p := ⟨g6 + 1, 3, none⟩) (Nat.le_refl _) _
      have hA4 := Lib.hid (hA3.out.below h63 (Nat.lt_succ_self _) hb9)
      have hT4 := Lib.hid (hT3.out.store (.slice A5 (k + 1) c5))
      have hW4 := Lib.hid (own_set hW3.out ⟨g6 + 1, 3, none⟩ (.slice A5 (k + 1) c5) (by simp))
      have hz4 : g6 + 2 ≤ (w5.setCell ⟨g6 + 1, 3, none⟩ (.slice A5 (k + 1) c5)).heap.size := by simpa using hsz
      clear hA3 hT3 hW3 hsz hb9 ov3 ovf
      go_roundw
      case rel => exact ⟨k + 1, _, by omega, by go_num, hA4, hT4, hW4, hz4⟩
      case measure => simp [intOf]; omega
    · obtain rfl : k = N := by omega
      go_wp2_with (go_at_call 22; (refine (refElems_to (a : Int) (b : Int) C _ HEL.out _).mono ?_); rintro e Wa ⟨rfl, hbe⟩; have hA1 := Lib.hid (hA0.out.below h63 (B' := wr.heap.size) (by omega) hbe); have hT1 := Lib.hid (hT0.out.below (B' := wr.heap.size) (by omega) hbe); have hW1 := Lib.hid (Kit.own_below hW0.out hbe); have hz1 := Nat.le_trans hz0 hbe.size; clear hA0 hT0 hW0 hz0 s1 s2 s3 hbe; obtain ⟨Av0, cv0, rfl, -, -, -⟩ := Kit.own_rd hW1.out; obtain ⟨-, -, ⟨⟨z0, z1, z2, z3⟩, z4, z5, z6, z7⟩, ⟨s1, s2, s3⟩, hbw, hsz⟩ := hA1.out; obtain ⟨o0, o1, o2, o3, -⟩ := hT1.out; have HBW := Lib.hid hbw; clear hbw)
      refine bodyPost_ret (Kit.results_ct rfl _ _ (w.heap.size + 2) 0 [.int .i64 (a : Int), .int .i64 (b : Int), .int .i64 C, .slice Av0 k cv0] _ rfl (range_4 (by go_cell) (by go_cell) (by go_cell) (by go_cell)) Try.underlying29 rfl (by kernel_rfl)) rfl ?_
      refine ⟨_, rfl, Kit.own_base (own_set4 hW1.out ?_) ?_, ?_⟩
      any_goals (first | omega | (simp; done) | (simp; omega))
      exact (((HBW.out.setCell (p := ⟨w.heap.size + 2, 0, none⟩) (by show w.heap.size ≤ w.heap.size + 2; omega) _).setCell (p := ⟨w.heap.size + 2, 1, none⟩) (by show w.heap.size ≤ w.heap.size + 2; omega) _).setCell (p := ⟨w.heap.size + 2, 2, none⟩) (by show w.heap.size ≤ w.heap.size + 2; omega) _).setCell (p := ⟨w.heap.size + 2, 3, none⟩) (by show w.heap.size ≤ w.heap.size + 2; omega) _
end Go.Proofs.Ytccngjgbhbeobaa.CPool
