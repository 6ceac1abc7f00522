/- Layer 11 (patch): the document's sums of rows that are put together again. -/
import Derived.Test.YtbolneejjjjaeaaPatchBackY
import Derived.Test.YtbolneejjjjaeaaPatchRef
import Derived.StillTailTactics
import Derived.Deep.CutRange
namespace Go.Proofs.Ytbolneejjjjaeaa.CPatch
open Go Go.ChangeShapes Go.WideShapes Go.ChangeAt Go.RowKit
open Plain CSat CShape CTensor CConv
set_option linter.unusedVariables false

/-- a list of numbers of 32 bits, of the call's own. -/
def OwnedS (w : World) (n : Nat) (zs : List Int) (e : Ending) (w' : World) : Prop :=
  ∃ v, e = .returned v ∧ w'.ownsRow w.heap.size 21 1 v n (I32v zs) ∧ Below w.heap.size w w'
theorem acc_out {hit : Nat → Option Nat} {D : Nat → Int} {t E : Nat} (h : hit t = none) : listF (accF hit D (t + 1)) E = listF (accF hit D t) E := by
  have e : accF hit D (t + 1) = accF hit D t := by
    funext p
    show (if hit t = some p then _ else accF hit D t p) = _
    rw [if_neg (by rw [h]; simp)]
  rw [e]
/-- the document's memory, behind t numbers. -/
def RefAt (g4 gd g8 B0 : Nat) (H W C K S P b : Int) (AD : Option Addr) (xs : List Int) (E : Nat) (ys : List Int) (w0 w : World) : Prop :=
  (w.cell? ⟨g4, 0, none⟩ = some (.int .i64 H) ∧ w.cell? ⟨g4, 1, none⟩ = some (.int .i64 W) ∧ w.cell? ⟨g4, 2, none⟩ = some (.int .i64 C) ∧ w.cell? ⟨g4 + 1, 3, none⟩ = some (.int .i64 K) ∧ w.cell? ⟨g4 + 1, 4, none⟩ = some (.int .i64 S) ∧ w.cell? ⟨g4 + 1, 5, none⟩ = some (.int .i64 P) ∧ w.cell? ⟨g8, 1, none⟩ = some (.int .i64 b)) ∧
    w.ownsRow B0 21 1 (.slice (some ⟨gd, 0, none⟩) E E) E (I32v ys) ∧ Kit.Rd w B0 AD (I16v xs) ∧ Below B0 w0 w
theorem RefAt.drew {g4 gd g8 B0 : Nat} {H W C K S P b : Int} {AD : Option Addr} {xs : List Int} {E : Nat} {ys : List Int} {w0 w : World} (h : RefAt g4 gd g8 B0 H W C K S P b AD xs E ys w0 w) : RefAt g4 gd g8 B0 H W C K S P b AD xs E ys w0 w.drew :=
  ⟨h.1, Kit.own_below h.2.1 (Below.refl w.heap.size w).drew, h.2.2.1.drew, h.2.2.2.drew⟩
theorem RefAt.set {g4 gd g8 B0 : Nat} {H W C K S P b : Int} {AD : Option Addr} {xs : List Int} {E : Nat} {ys : List Int} {w0 w : World} (h : RefAt g4 gd g8 B0 H W C K S P b AD xs E ys w0 w) (n1 : g4 ≠ gd) (n2 : g4 + 1 ≠ gd) (n3 : g8 ≠ gd) (hB : B0 ≤ gd) (p : Nat) (z : Int) :
    RefAt g4 gd g8 B0 H W C K S P b AD xs E (ys.set p z) w0 (w.setCell ⟨gd, p, none⟩ (.int .i32 z)) := by
  obtain ⟨⟨h0, h1, h2, h3, h4, h5, h6⟩, ho, hr, hb⟩ := h
  have k : ∀ (g o : Nat), g ≠ gd → (w.setCell ⟨gd, p, none⟩ (.int .i32 z)).cell? ⟨g, o, none⟩ = w.cell? ⟨g, o, none⟩ := fun g o hg => World.cell?_setCell_other _ _ _ _ (fun e => hg (congrArg Addr.block e).symm)
  refine ⟨⟨(k _ _ n1).trans h0, (k _ _ n1).trans h1, (k _ _ n1).trans h2, (k _ _ n2).trans h3, (k _ _ n2).trans h4, (k _ _ n2).trans h5, (k _ _ n3).trans h6⟩, ?_, hr.setCell hB _, hb.setCell (p := ⟨gd, p, none⟩) hB _⟩
  have := (ho.stored p (.int .i32 z)).1
  rwa [I32v_set] at this
set_option maxRecDepth 100000 in
set_option maxHeartbeats 8000000 in
theorem refBack_to (AD : Option Addr) (cD N : Nat) (xs : List Int) (H W C : Int) (x0 x1 x2 x8 x11 x12 x13 x14 x15 x16 x17 x18 : Value) (K S P O Z : Int) (WA BA : Option Addr) (nW cW nB cB : Nat) (he : slideE H W C K S P 1 = 0) (a b kk d k2 wd N1 : Nat) (ha : stepsM H K S P = (a : Int)) (hb : stepsM W K S P = (b : Int)) (hk : K = (kk : Int)) (hd : C = (d : Int)) (hk2 : kk * kk = k2) (hwd : k2 * d = wd) (hN1 : a * b = N1) (hN : N1 * wd = N) (hx : xs.length = N) (hxb : ∀ q, -32768 ≤ xs.getD q 0 ∧ xs.getD q 0 ≤ 32767) (E : Nat) (hEl : elemsZ H W C = (E : Int)) (w : World) (hr : Kit.Rd w w.heap.size AD (I16v xs)) :
    Calls Try.prog 10 #[.slice AD N cD, .agg #[.int .i64 H, .int .i64 W, .int .i64 C], .agg #[x0, x1, x2, .int .i64 K, .int .i64 S, .int .i64 P, .int .i64 O, .int .i8 Z, x8, .slice WA nW cW, .slice BA nB cB, x11, x12, x13, x14, x15, x16, x17, x18]] w (OwnedS w E (listF (accF (hitF H W C S P b kk d wd) (fun t => xs.getD t 0) N) E)) := by
  obtain ⟨hs0, har1, har2, -, -, hsr⟩ := slide_ok he
  obtain ⟨g1, g2, g3, g4, g5, g6, g7⟩ := shapeB_yes hs0
  obtain ⟨q1, q2, q3, q4, q5, q6, q7⟩ := shapeB_yes hsr
  obtain ⟨-, -, k1, k5, st1, st4, pd0, pd4, -⟩ := argsB_yes har1
  have hv : slideS H W C K S P 1 = #[.int .i64 (a : Int), .int .i64 (b : Int), .int .i64 1] := by
    unfold slideS; rw [he, if_pos rfl, ha, hb]
  have ha16 : a ≤ 16 := by omega
  have hb16 : b ≤ 16 := by omega
  have hb0 : 0 < b := by omega
  have hN1b : N1 ≤ 256 := by rw [← hN1]; exact Nat.le_trans (Nat.mul_le_mul ha16 hb16) (by omega)
  have hkk1 : 1 ≤ kk := by omega
  have hkk5 : kk ≤ 5 := by omega
  have hk25 : k2 ≤ 25 := by rw [← hk2]; exact Nat.le_trans (Nat.mul_le_mul hkk5 hkk5) (by omega)
  have hk2p : 0 < k2 := by rw [← hk2]; exact Nat.mul_pos hkk1 hkk1
  have hd1 : d ≤ 1024 := by omega
  have hd0 : 1 ≤ d := by omega
  have hwdb : wd ≤ 25600 := by rw [← hwd]; exact Nat.le_trans (Nat.mul_le_mul hk25 hd1) (by omega)
  have hwd0 : 0 < wd := by rw [← hwd]; exact Nat.mul_pos hk2p hd0
  have hm2 : IntKind.i64.wrap (K * K) = (k2 : Int) := by rw [hk, ← Int.natCast_mul, hk2]; exact IntWalk.i64_in _ (by omega)
  have hm3 : IntKind.i64.wrap ((k2 : Int) * C) = (wd : Int) := by rw [hd, ← Int.natCast_mul, hwd]; exact IntWalk.i64_in _ (by omega)
  have hNb : N ≤ 6553600 := by rw [← hN]; exact Nat.le_trans (Nat.mul_le_mul hN1b hwdb) (by omega)
  have hE1 : E ≤ 1024 := by have := elemsZ_bd H W C; omega
  have hEm : (E : Int) = H * W * C := by rw [← hEl]; exact elemsZ_yes hs0
  obtain ⟨hit, hhit⟩ : ∃ h, hitF H W C S P b kk d wd = h := ⟨_, rfl⟩
  rw [hhit]
  obtain ⟨D, hDD⟩ : ∃ D : Nat → Int, D = fun t => xs.getD t 0 := ⟨_, rfl⟩
  rw [← hDD]
  have HE := Lib.hid he
  have HV := Lib.hid hv
  have HEL := Lib.hid hEl
  have HEM := Lib.hid hEm
  have HS0 := Lib.hid hs0
  have HX := Lib.hid hx
  have HXB := Lib.hid hxb
  have HR := Lib.hid hr
  have HHIT := Lib.hid hhit
  have HDDD := Lib.hid hDD
  have HK := Lib.hid hk
  have HD := Lib.hid hd
  have HN1 := Lib.hid hN1
  have HNN := Lib.hid hN
  have HWD := Lib.hid hwd
  have HK2 := Lib.hid hk2
  clear he hv hEl hEm hs0 hx hxb hr hhit hDD hk hd hk2 hwd hN1 hN ha hb har1 har2 hsr g7 q1 q2 q3 q4 q5 q6 q7
  obtain ⟨i0, hi0, hi1, hi2, hi3⟩ := info_parts16 info32
  go_enter Try.func10, Try.ntmps10
  go_upto_region 1 with fail
  have hTB := shapeNew H W C 23 w
  have hTN := NodeAt.new x0 x1 x2 x8 x11 x12 x13 x14 x15 x16 x17 x18 K S P O Z WA BA nW cW nB cB 30 (w.alloc (.cells #[.int .i64 H, .int .i64 W, .int .i64 C] 23))
  have hTB2 := hTB.below (B' := w.heap.size + 1) (by omega) ((Below.refl _ _).alloc (by simp) (.cells #[x0, x1, x2, .int .i64 K, .int .i64 S, .int .i64 P, .int .i64 O, .int .i8 Z, x8, .slice WA nW cW, .slice BA nB cB, x11, x12, x13, x14, x15, x16, x17, x18] 30))
  have hBw : Below w.heap.size w ((w.alloc (.cells #[.int .i64 H, .int .i64 W, .int .i64 C] 23)).alloc (.cells #[x0, x1, x2, .int .i64 K, .int .i64 S, .int .i64 P, .int .i64 O, .int .i8 Z, x8, .slice WA nW cW, .slice BA nB cB, x11, x12, x13, x14, x15, x16, x17, x18] 30)) := ((Below.refl _ _).alloc (Nat.le_refl _) _).alloc (by simp) _
  have hz0 : w.heap.size + 1 < ((w.alloc (.cells #[.int .i64 H, .int .i64 W, .int .i64 C] 23)).alloc (.cells #[x0, x1, x2, .int .i64 K, .int .i64 S, .int .i64 P, .int .i64 O, .int .i8 Z, x8, .slice WA nW cW, .slice BA nB cB, x11, x12, x13, x14, x15, x16, x17, x18] 30)).heap.size := by simp
  rw [World.size_alloc] at hTN
  generalize (w.alloc (.cells #[.int .i64 H, .int .i64 W, .int .i64 C] 23)).alloc (.cells #[x0, x1, x2, .int .i64 K, .int .i64 S, .int .i64 P, .int .i64 O, .int .i8 Z, x8, .slice WA nW cW, .slice BA nB cB, x11, x12, x13, x14, x15, x16, x17, x18] 30) = w0 at hTN hTB2 hBw hz0 ⊢
  have TB := Lib.hid hTB2
  have TN := Lib.hid hTN
  have HBW := Lib.hid hBw
  obtain ⟨t0, t1, t2⟩ := hTB2
  clear hTB hTN hBw
  go_upto_region 2 with (first
    | (go_at_call 8; refine (refElems_to H W C (E : Int) HEL.out _).mono ?_; rintro e w1 ⟨rfl, hb⟩; replace TB := Lib.hid (TB.out.below (by omega) hb); replace TN := Lib.hid (TN.out.below (by omega) hb); replace HBW := Lib.hid (HBW.out.trans (hb.mono HBW.out.size)); have hz1 : w.heap.size + 1 < w1.heap.size := Nat.lt_of_lt_of_le hz0 hb.size; clear hb t0 t1 t2)
    | (at_make; refine wpList_make_full _ rfl (.tmp 18) (.tmp 18) _ rfl w.heap.size 21 i0 (.int .i32 0) 1 Try.underlying26 hi0 hi1 hi2 .i64 .i64 _ _ E rfl rfl rfl rfl (by rw [hi3]; omega) (by unfold maxLen; omega) (by omega) ?_; intro w2 hown hg2))
  have hgw : Below w1.heap.size w1 w2 := (Below.refl w1.heap.size w1).grown hg2 (Nat.le_refl _) (fun q hq => by cases hq)
  have hgd : w1.heap.size < w2.heap.size := Kit.block_lt_of_own hown
  replace TB := Lib.hid (TB.out.below (by omega) hgw)
  replace TN := Lib.hid (TN.out.below (by omega) hgw)
  replace HBW := Lib.hid (HBW.out.trans (hgw.mono HBW.out.size))
  rw [show (madeCells (Value.int IntKind.i32 0).cells (E * 1)).toList = I32v (listF (accF hit D 0) E) by
    rw [Nat.mul_one]; show (madeCells #[Value.int .i32 0] E).toList = _; rw [toList_madeCells_one]
    apply List.ext_getElem <;> simp [I32v, listF, accF]] at hown
  have HO := Lib.hid hown
  obtain ⟨t0, t1, t2⟩ := TB.out
  have n3 := TN.out.at 3 _ rfl
  have n4 := TN.out.at 4 _ rfl
  have n5 := TN.out.at 5 _ rfl
  clear hgw hown hg2
  go_upto_region 3 with (go_at_call 7; refine (refSlide_to H W C K S P 1 0 _ HE.out HV.out _).mono ?_; rintro e w3' ⟨rfl, hb⟩; replace TB := Lib.hid (TB.out.below (by omega) hb); replace TN := Lib.hid (TN.out.below (by omega) hb); replace HBW := Lib.hid (HBW.out.trans (hb.mono HBW.out.size)); replace HO := Lib.hid (Kit.own_below HO.out hb); have hgd3 : w1.heap.size < w3'.heap.size := Nat.lt_of_lt_of_le hgd hb.size; clear hb t0 t1 t2 n3 n4 n5)
  have hal : Below w3'.heap.size w3' (w3'.alloc (.cells #[.int .i64 (a : Int), .int .i64 (b : Int), .int .i64 1] 23)) := (Below.refl _ _).alloc (Nat.le_refl _) _
  have hRA : RefAt w.heap.size w1.heap.size w3'.heap.size w.heap.size H W C K S P (b : Int) AD xs E (listF (accF hit D 0) E) w (w3'.alloc (.cells #[.int .i64 (a : Int), .int .i64 (b : Int), .int .i64 1] 23)) := by
    have h1 := TB.out.below (by omega) hal
    have h2 := TN.out.below (by omega) hal
    have h3 := HBW.out.trans (hal.mono HBW.out.size)
    exact ⟨⟨h1.1, h1.2.1, h1.2.2, h2.at 3 _ rfl, h2.at 4 _ rfl, h2.at 5 _ rfl, Kit.new_cell _ _ _ _⟩, Kit.own_below HO.out hal, HR.out.below h3, h3⟩
  have HRA := Lib.hid hRA
  have h93 : w.heap.size ≠ w1.heap.size ∧ w.heap.size + 1 ≠ w1.heap.size ∧ w3'.heap.size ≠ w1.heap.size ∧ w.heap.size ≤ w1.heap.size := by omega
  have HNE := Lib.hid h93
  clear hal hRA TB TN HBW HO h93 hgd hgd3 hz1 hz0
  generalize (w3'.alloc (.cells #[.int .i64 (a : Int), .int .i64 (b : Int), .int .i64 1] 23)) = w4 at HRA ⊢
  generalize w3'.heap.size = g8 at HRA HNE ⊢
  generalize w1.heap.size = gd at HRA HNE ⊢
  obtain ⟨⟨t0, t1, t2, n3, n4, n5, m1⟩, -, -, -⟩ := HRA.out
  go_wp2_with fail
  clear t0 t1 t2 n3 n4 n5 m1 hm2 hm3
  go_loopw [11] (fun u wr => ∃ t : Nat, t ≤ N ∧ u = .int .i64 t ∧ Hid (RefAt w.heap.size gd g8 w.heap.size H W C K S P (b : Int) AD xs E (listF (accF hit D t) E) w wr)) (fun u _ => N - (intOf u).toNat)
  case atStart => exact ⟨0, Nat.zero_le _, rfl, HRA⟩
  case round =>
    clear HRA
    obtain ⟨t, ht, rfl, HRA⟩ := hrel
    by_cases hlt : t < N
    · have hti : (t : Int) < (N : Int) := by omega
      obtain ⟨q, hq⟩ : ∃ q, t / wd = q := ⟨_, rfl⟩
      obtain ⟨r, hr⟩ : ∃ r, t % wd = r := ⟨_, rfl⟩
      obtain ⟨h1, hh1⟩ : ∃ x, q / b = x := ⟨_, rfl⟩
      obtain ⟨h2, hh2⟩ : ∃ x, q % b = x := ⟨_, rfl⟩
      obtain ⟨cc, hcc⟩ : ∃ x, r / d = x := ⟨_, rfl⟩
      obtain ⟨ch, hch⟩ : ∃ x, r % d = x := ⟨_, rfl⟩
      obtain ⟨i, hi⟩ : ∃ x, cc / kk = x := ⟨_, rfl⟩
      obtain ⟨j, hj⟩ : ∃ x, cc % kk = x := ⟨_, rfl⟩
      have hqN : q < N1 := by rw [← hq]; exact Nat.div_lt_of_lt_mul (by rw [Nat.mul_comm]; rw [HNN.out]; exact hlt)
      have hrw : r < wd := by rw [← hr]; exact Nat.mod_lt _ hwd0
      have hh1b : h1 ≤ 256 := by rw [← hh1]; exact Nat.le_trans (Nat.div_le_self _ _) (by omega)
      have hh2b : h2 < 16 := by rw [← hh2]; exact Nat.lt_of_lt_of_le (Nat.mod_lt _ hb0) hb16
      have hccb : cc ≤ 25600 := by rw [← hcc]; exact Nat.le_trans (Nat.div_le_self _ _) (by omega)
      have hchd : ch < d := by rw [← hch]; exact Nat.mod_lt _ hd0
      have hib : i ≤ 25600 := by rw [← hi]; exact Nat.le_trans (Nat.div_le_self _ _) hccb
      have hjb : j < 5 := by rw [← hj]; exact Nat.lt_of_lt_of_le (Nat.mod_lt _ hkk1) hkk5
      obtain ⟨hs, hhs⟩ : ∃ x : Int, (h1 : Int) * S = x := ⟨_, rfl⟩
      obtain ⟨vs, hvs⟩ : ∃ x : Int, (h2 : Int) * S = x := ⟨_, rfl⟩
      have bs1 : 0 ≤ hs ∧ hs ≤ 1024 := by
        rw [← hhs]
        exact ⟨Int.mul_nonneg (by omega) (by omega), Int.le_trans (Int.mul_le_mul (show (h1 : Int) ≤ 256 by omega) st4 (by omega) (by omega)) (by omega)⟩
      have bs2 : 0 ≤ vs ∧ vs ≤ 1024 := by
        rw [← hvs]
        exact ⟨Int.mul_nonneg (by omega) (by omega), Int.le_trans (Int.mul_le_mul (show (h2 : Int) ≤ 256 by omega) st4 (by omega) (by omega)) (by omega)⟩
      obtain ⟨y, hy⟩ : ∃ y : Int, hs + (i : Int) - P = y := ⟨_, rfl⟩
      obtain ⟨x, hx⟩ : ∃ x : Int, vs + (j : Int) - P = x := ⟨_, rfl⟩
      have a1 : ¬ (wd : Int) = 0 := by omega
      have a2 : ¬ (b : Int) = 0 := by omega
      have a1n : ¬ wd = 0 := by omega
      have a2n : ¬ b = 0 := by omega
      have a3 : ¬ C = 0 := by omega
      have a4 : ¬ K = 0 := by omega
      have d1 : (t : Int).tdiv (wd : Int) = (q : Int) := by rw [Int.tdiv_eq_ediv_of_nonneg (by omega), ← hq]; simp
      have d2 : (t : Int).tmod (wd : Int) = (r : Int) := by rw [Int.tmod_eq_emod_of_nonneg (by omega), ← hr]; simp
      have d2' : (t : Int) % (wd : Int) = (r : Int) := by rw [← hr]; simp
      have d3 : (q : Int).tdiv (b : Int) = (h1 : Int) := by rw [Int.tdiv_eq_ediv_of_nonneg (by omega), ← hh1]; simp
      have d4 : (q : Int).tmod (b : Int) = (h2 : Int) := by rw [Int.tmod_eq_emod_of_nonneg (by omega), ← hh2]; simp
      have d4' : (q : Int) % (b : Int) = (h2 : Int) := by rw [← hh2]; simp
      have d5 : (r : Int).tdiv C = (cc : Int) := by rw [HD.out, Int.tdiv_eq_ediv_of_nonneg (by omega), ← hcc]; simp
      have d6 : (r : Int).tmod C = (ch : Int) := by rw [HD.out, Int.tmod_eq_emod_of_nonneg (by omega), ← hch]; simp
      have d6' : (r : Int) % C = (ch : Int) := by rw [HD.out, ← hch]; simp
      have d7 : (cc : Int).tdiv K = (i : Int) := by rw [HK.out, Int.tdiv_eq_ediv_of_nonneg (by omega), ← hi]; simp
      have d8 : (cc : Int).tmod K = (j : Int) := by rw [HK.out, Int.tmod_eq_emod_of_nonneg (by omega), ← hj]; simp
      have d8' : (cc : Int) % K = (j : Int) := by rw [HK.out, ← hj]; simp
      have w1 : IntKind.i64.wrap (q : Int) = (q : Int) := IntWalk.i64_in _ (by omega)
      have w2 : IntKind.i64.wrap (r : Int) = (r : Int) := IntWalk.i64_in _ (by omega)
      have w3 : IntKind.i64.wrap (h1 : Int) = (h1 : Int) := IntWalk.i64_in _ (by omega)
      have w4' : IntKind.i64.wrap (h2 : Int) = (h2 : Int) := IntWalk.i64_in _ (by omega)
      have w5 : IntKind.i64.wrap (cc : Int) = (cc : Int) := IntWalk.i64_in _ (by omega)
      have w6 : IntKind.i64.wrap (ch : Int) = (ch : Int) := IntWalk.i64_in _ (by omega)
      have w7 : IntKind.i64.wrap (i : Int) = (i : Int) := IntWalk.i64_in _ (by omega)
      have w8 : IntKind.i64.wrap (j : Int) = (j : Int) := IntWalk.i64_in _ (by omega)
      have w9 : IntKind.i64.wrap ((h1 : Int) * S) = hs := by rw [hhs]; exact IntWalk.i64_in _ (by omega)
      have w10 : IntKind.i64.wrap ((h2 : Int) * S) = vs := by rw [hvs]; exact IntWalk.i64_in _ (by omega)
      have w11 : IntKind.i64.wrap (hs + (i : Int)) = hs + (i : Int) := IntWalk.i64_in _ (by omega)
      have w12 : IntKind.i64.wrap (vs + (j : Int)) = vs + (j : Int) := IntWalk.i64_in _ (by omega)
      have w13 : IntKind.i64.wrap (hs + (i : Int) - P) = y := by rw [hy]; exact IntWalk.i64_in _ (by omega)
      have w14 : IntKind.i64.wrap (vs + (j : Int) - P) = x := by rw [hx]; exact IntWalk.i64_in _ (by omega)
      have hhit2 : hit t = if 0 ≤ y ∧ y < H ∧ 0 ≤ x ∧ x < W then some ((y * W + x) * C + (ch : Int)).toNat else none := by
        rw [← HHIT.out]; unfold hitF
        rw [hq, hr, hh1, hh2, hcc, hch, hi, hj, hhs, hvs, show hs - P + (i : Int) = y by omega, show vs - P + (j : Int) = x by omega]
      have HH2 := Lib.hid hhit2
      clear hq hr hh1 hh2 hcc hch hi hj hhs hvs hy hx hhit2 bs1 bs2 hqN hrw hh1b hh2b hccb hib hjb
      go_wp2_with fail
      refine wp_region_held_drew (S := fun WW : World => WW.cell? ⟨w.heap.size, 0, none⟩ = some (.int .i64 H) ∧ WW.cell? ⟨w.heap.size, 1, none⟩ = some (.int .i64 W) ∧ WW.cell? ⟨w.heap.size, 2, none⟩ = some (.int .i64 C) ∧ WW.cell? ⟨w.heap.size + 1, 3, none⟩ = some (.int .i64 K) ∧ WW.cell? ⟨w.heap.size + 1, 4, none⟩ = some (.int .i64 S) ∧ WW.cell? ⟨w.heap.size + 1, 5, none⟩ = some (.int .i64 P) ∧ WW.cell? ⟨g8, 1, none⟩ = some (.int .i64 (b : Int))) (by kernel_rfl) HRA.out.drew.1 (fun hHeld => ?_)
      replace HRA := Lib.hid HRA.out.drew
      generalize wr.drew = Wa at HRA hHeld ⊢
      refine wpAnyH_take (i := 0) (oi := ({ dst := some 45, op := Op.move (Operand.tmp 11), type := 3, pos := "ref.go:46", after := #[], guard := none } : Oper)) (v := ?_) rfl (by kernel_rfl) (by kernel_rfl) (by kernel_rfl) (fun _ _ _ h => h) (Or.inl ⟨by rfl, ?_⟩) (by assumption) ?_
      rotate_left
      · intro wS hSw
        first
          | (go_simp; done)
          | (go_simp; with_reducible rfl)
      try simp only [Act.put, List.setIfInBounds_toArray, List.set_cons_zero, List.set_cons_succ]
      refine wpAnyH_take (i := 1) (oi := ({ dst := some 46, op := Op.move (Operand.tmp 10), type := 3, pos := "ref.go:46", after := #[], guard := none } : Oper)) (v := ?_) rfl (by kernel_rfl) (by kernel_rfl) (by kernel_rfl) (fun _ _ _ h => h) (Or.inl ⟨by rfl, ?_⟩) (by assumption) ?_
      rotate_left
      · intro wS hSw
        first
          | (go_simp; done)
          | (go_simp; with_reducible rfl)
      try simp only [Act.put, List.setIfInBounds_toArray, List.set_cons_zero, List.set_cons_succ]
      refine wpAnyH_take (i := 2) (oi := ({ dst := some 47, op := Op.binOp BinOp.quo 3 (Operand.tmp 45) (Operand.tmp 46) 3, type := 3, pos := "ref.go:46", after := #[{ on := 0, ground := Ground.data }, { on := 1, ground := Ground.data }], guard := none } : Oper)) (v := ?_) rfl (by kernel_rfl) (by kernel_rfl) (by kernel_rfl) (fun _ _ _ h => h) (Or.inl ⟨by rfl, ?_⟩) (by assumption) ?_
      rotate_left
      · intro wS hSw
        first
          | (go_simp; done)
          | (go_simp; with_reducible rfl)
      try simp only [Act.put, List.setIfInBounds_toArray, List.set_cons_zero, List.set_cons_succ]
      refine wpAnyH_take (i := 3) (oi := ({ dst := some 48, op := Op.move (Operand.tmp 11), type := 3, pos := "ref.go:46", after := #[{ on := 6, ground := Ground.gcOnly Departure.lateStores }], guard := none } : Oper)) (v := ?_) rfl (by kernel_rfl) (by kernel_rfl) (by kernel_rfl) (fun _ _ _ h => h) (Or.inl ⟨by rfl, ?_⟩) (by assumption) ?_
      rotate_left
      · intro wS hSw
        first
          | (go_simp; done)
          | (go_simp; with_reducible rfl)
      try simp only [Act.put, List.setIfInBounds_toArray, List.set_cons_zero, List.set_cons_succ]
      refine wpAnyH_take (i := 4) (oi := ({ dst := some 49, op := Op.move (Operand.tmp 10), type := 3, pos := "ref.go:46", after := #[{ on := 6, ground := Ground.gcOnly Departure.lateStores }], guard := none } : Oper)) (v := ?_) rfl (by kernel_rfl) (by kernel_rfl) (by kernel_rfl) (fun _ _ _ h => h) (Or.inl ⟨by rfl, ?_⟩) (by assumption) ?_
      rotate_left
      · intro wS hSw
        first
          | (go_simp; done)
          | (go_simp; with_reducible rfl)
      try simp only [Act.put, List.setIfInBounds_toArray, List.set_cons_zero, List.set_cons_succ]
      refine wpAnyH_take (i := 5) (oi := ({ dst := some 50, op := Op.binOp BinOp.rem 3 (Operand.tmp 48) (Operand.tmp 49) 3, type := 3, pos := "ref.go:46", after := #[{ on := 3, ground := Ground.data }, { on := 4, ground := Ground.data }, { on := 6, ground := Ground.gcOnly Departure.lateStores }], guard := none } : Oper)) (v := ?_) rfl (by kernel_rfl) (by kernel_rfl) (by kernel_rfl) (fun _ _ _ h => h) (Or.inl ⟨by rfl, ?_⟩) (by assumption) ?_
      rotate_left
      · intro wS hSw
        first
          | (go_simp; done)
          | (go_simp; with_reducible rfl)
      try simp only [Act.put, List.setIfInBounds_toArray, List.set_cons_zero, List.set_cons_succ]
      refine wpAnyH_take (i := 6) (oi := ({ dst := some 12, op := Op.assign (Operand.tmp 47), type := 3, pos := "ref.go:46", after := #[{ on := 2, ground := Ground.data }, { on := 0, ground := Ground.phase }, { on := 1, ground := Ground.phase }, { on := 2, ground := Ground.phase }, { on := 3, ground := Ground.textOnly Departure.lateStores }, { on := 4, ground := Ground.textOnly Departure.lateStores }, { on := 5, ground := Ground.textOnly Departure.lateStores }], guard := none } : Oper)) (v := ?_) rfl (by kernel_rfl) (by kernel_rfl) (by kernel_rfl) (fun _ _ _ h => h) (Or.inl ⟨by rfl, ?_⟩) (by assumption) ?_
      rotate_left
      · intro wS hSw
        first
          | (go_simp; done)
          | (go_simp; with_reducible rfl)
      try simp only [Act.put, List.setIfInBounds_toArray, List.set_cons_zero, List.set_cons_succ]
      refine wpAnyH_take (i := 7) (oi := ({ dst := some 13, op := Op.assign (Operand.tmp 50), type := 3, pos := "ref.go:46", after := #[{ on := 5, ground := Ground.data }, { on := 6, ground := Ground.chain }, { on := 0, ground := Ground.phase }, { on := 1, ground := Ground.phase }, { on := 2, ground := Ground.phase }, { on := 3, ground := Ground.phase }, { on := 4, ground := Ground.phase }, { on := 5, ground := Ground.phase }, { on := 6, ground := Ground.phase }], guard := none } : Oper)) (v := ?_) rfl (by kernel_rfl) (by kernel_rfl) (by kernel_rfl) (fun _ _ _ h => h) (Or.inl ⟨by rfl, ?_⟩) (by assumption) ?_
      rotate_left
      · intro wS hSw
        first
          | (go_simp; done)
          | (go_simp; with_reducible rfl)
      try simp only [Act.put, List.setIfInBounds_toArray, List.set_cons_zero, List.set_cons_succ]
      refine wpAnyH_done (by kernel_rfl) ?_ _
      clear hHeld
      go_wp2_with fail
      refine wp_region_held_drew (S := fun WW : World => WW.cell? ⟨w.heap.size, 0, none⟩ = some (.int .i64 H) ∧ WW.cell? ⟨w.heap.size, 1, none⟩ = some (.int .i64 W) ∧ WW.cell? ⟨w.heap.size, 2, none⟩ = some (.int .i64 C) ∧ WW.cell? ⟨w.heap.size + 1, 3, none⟩ = some (.int .i64 K) ∧ WW.cell? ⟨w.heap.size + 1, 4, none⟩ = some (.int .i64 S) ∧ WW.cell? ⟨w.heap.size + 1, 5, none⟩ = some (.int .i64 P) ∧ WW.cell? ⟨g8, 1, none⟩ = some (.int .i64 (b : Int))) (by kernel_rfl) HRA.out.drew.1 (fun hHeld => ?_)
      replace HRA := Lib.hid HRA.out.drew
      generalize Wa.drew = Wb at HRA hHeld ⊢
      refine wpAnyH_take (i := 0) (oi := ({ dst := some 51, op := Op.move (Operand.tmp 12), type := 3, pos := "ref.go:47", after := #[], guard := none } : Oper)) (v := ?_) rfl (by kernel_rfl) (by kernel_rfl) (by kernel_rfl) (fun _ _ _ h => h) (Or.inl ⟨by rfl, ?_⟩) (by assumption) ?_
      rotate_left
      · intro wS hSw
        first
          | (go_simp; done)
          | (go_simp; with_reducible rfl)
      try simp only [Act.put, List.setIfInBounds_toArray, List.set_cons_zero, List.set_cons_succ]
      refine wpAnyH_take (i := 1) (oi := ({ dst := some 52, op := Op.fieldAddr 23 (Operand.tmp 8) 1, type := 0, pos := "ref.go:47", after := #[], guard := none } : Oper)) (v := ?_) rfl (by kernel_rfl) (by kernel_rfl) (by kernel_rfl) (fun _ _ _ h => h) (Or.inl ⟨by rfl, ?_⟩) (by assumption) ?_
      rotate_left
      · intro wS hSw
        first
          | (go_simp; done)
          | (go_simp; with_reducible rfl)
      try simp only [Act.put, List.setIfInBounds_toArray, List.set_cons_zero, List.set_cons_succ]
      refine wpAnyH_take (i := 2) (oi := ({ dst := some 53, op := Op.load 3 (Operand.tmp 52), type := 3, pos := "ref.go:47", after := #[{ on := 1, ground := Ground.data }], guard := none } : Oper)) (v := ?_) rfl (by kernel_rfl) (by kernel_rfl) (by kernel_rfl) (fun _ _ _ h => h) (Or.inl ⟨by rfl, ?_⟩) (by assumption) ?_
      rotate_left
      · intro wS hSw
        obtain ⟨e0, e1, e2, e3, e4, e5, e6⟩ := hSw
        first
          | (go_simp; done)
          | (go_simp; with_reducible rfl)
      try simp only [Act.put, List.setIfInBounds_toArray, List.set_cons_zero, List.set_cons_succ]
      refine wpAnyH_take (i := 3) (oi := ({ dst := some 54, op := Op.binOp BinOp.quo 3 (Operand.tmp 51) (Operand.tmp 53) 3, type := 3, pos := "ref.go:47", after := #[{ on := 0, ground := Ground.data }, { on := 2, ground := Ground.data }], guard := none } : Oper)) (v := ?_) rfl (by kernel_rfl) (by kernel_rfl) (by kernel_rfl) (fun _ _ _ h => h) (Or.inl ⟨by rfl, ?_⟩) (by assumption) ?_
      rotate_left
      · intro wS hSw
        first
          | (go_simp; done)
          | (go_simp; with_reducible rfl)
      try simp only [Act.put, List.setIfInBounds_toArray, List.set_cons_zero, List.set_cons_succ]
      refine wpAnyH_take (i := 4) (oi := ({ dst := some 55, op := Op.fieldAddr 30 (Operand.tmp 5) 4, type := 0, pos := "ref.go:47", after := #[], guard := none } : Oper)) (v := ?_) rfl (by kernel_rfl) (by kernel_rfl) (by kernel_rfl) (fun _ _ _ h => h) (Or.inl ⟨by rfl, ?_⟩) (by assumption) ?_
      rotate_left
      · intro wS hSw
        first
          | (go_simp; done)
          | (go_simp; with_reducible rfl)
      try simp only [Act.put, List.setIfInBounds_toArray, List.set_cons_zero, List.set_cons_succ]
      refine wpAnyH_take (i := 5) (oi := ({ dst := some 56, op := Op.load 3 (Operand.tmp 55), type := 3, pos := "ref.go:47", after := #[{ on := 4, ground := Ground.data }], guard := none } : Oper)) (v := ?_) rfl (by kernel_rfl) (by kernel_rfl) (by kernel_rfl) (fun _ _ _ h => h) (Or.inl ⟨by rfl, ?_⟩) (by assumption) ?_
      rotate_left
      · intro wS hSw
        obtain ⟨e0, e1, e2, e3, e4, e5, e6⟩ := hSw
        first
          | (go_simp; done)
          | (go_simp; with_reducible rfl)
      try simp only [Act.put, List.setIfInBounds_toArray, List.set_cons_zero, List.set_cons_succ]
      refine wpAnyH_take (i := 6) (oi := ({ dst := some 57, op := Op.binOp BinOp.mul 3 (Operand.tmp 54) (Operand.tmp 56) 3, type := 3, pos := "ref.go:47", after := #[{ on := 3, ground := Ground.data }, { on := 5, ground := Ground.data }], guard := none } : Oper)) (v := ?_) rfl (by kernel_rfl) (by kernel_rfl) (by kernel_rfl) (fun _ _ _ h => h) (Or.inl ⟨by rfl, ?_⟩) (by assumption) ?_
      rotate_left
      · intro wS hSw
        first
          | (go_simp; done)
          | (go_simp; with_reducible rfl)
      try simp only [Act.put, List.setIfInBounds_toArray, List.set_cons_zero, List.set_cons_succ]
      refine wpAnyH_take (i := 7) (oi := ({ dst := some 58, op := Op.move (Operand.tmp 13), type := 3, pos := "ref.go:47", after := #[], guard := none } : Oper)) (v := ?_) rfl (by kernel_rfl) (by kernel_rfl) (by kernel_rfl) (fun _ _ _ h => h) (Or.inl ⟨by rfl, ?_⟩) (by assumption) ?_
      rotate_left
      · intro wS hSw
        first
          | (go_simp; done)
          | (go_simp; with_reducible rfl)
      try simp only [Act.put, List.setIfInBounds_toArray, List.set_cons_zero, List.set_cons_succ]
      refine wpAnyH_take (i := 8) (oi := ({ dst := some 59, op := Op.fieldAddr 23 (Operand.tmp 4) 2, type := 0, pos := "ref.go:47", after := #[], guard := none } : Oper)) (v := ?_) rfl (by kernel_rfl) (by kernel_rfl) (by kernel_rfl) (fun _ _ _ h => h) (Or.inl ⟨by rfl, ?_⟩) (by assumption) ?_
      rotate_left
      · intro wS hSw
        first
          | (go_simp; done)
          | (go_simp; with_reducible rfl)
      try simp only [Act.put, List.setIfInBounds_toArray, List.set_cons_zero, List.set_cons_succ]
      refine wpAnyH_take (i := 9) (oi := ({ dst := some 60, op := Op.load 3 (Operand.tmp 59), type := 3, pos := "ref.go:47", after := #[{ on := 8, ground := Ground.data }], guard := none } : Oper)) (v := ?_) rfl (by kernel_rfl) (by kernel_rfl) (by kernel_rfl) (fun _ _ _ h => h) (Or.inl ⟨by rfl, ?_⟩) (by assumption) ?_
      rotate_left
      · intro wS hSw
        obtain ⟨e0, e1, e2, e3, e4, e5, e6⟩ := hSw
        first
          | (go_simp; done)
          | (go_simp; with_reducible rfl)
      try simp only [Act.put, List.setIfInBounds_toArray, List.set_cons_zero, List.set_cons_succ]
      refine wpAnyH_take (i := 10) (oi := ({ dst := some 61, op := Op.binOp BinOp.quo 3 (Operand.tmp 58) (Operand.tmp 60) 3, type := 3, pos := "ref.go:47", after := #[{ on := 7, ground := Ground.data }, { on := 9, ground := Ground.data }], guard := none } : Oper)) (v := ?_) rfl (by kernel_rfl) (by kernel_rfl) (by kernel_rfl) (fun _ _ _ h => h) (Or.inl ⟨by rfl, ?_⟩) (by assumption) ?_
      rotate_left
      · intro wS hSw
        first
          | (go_simp; done)
          | (go_simp; with_reducible rfl)
      try simp only [Act.put, List.setIfInBounds_toArray, List.set_cons_zero, List.set_cons_succ]
      refine wpAnyH_take (i := 11) (oi := ({ dst := some 62, op := Op.fieldAddr 30 (Operand.tmp 5) 3, type := 0, pos := "ref.go:47", after := #[], guard := none } : Oper)) (v := ?_) rfl (by kernel_rfl) (by kernel_rfl) (by kernel_rfl) (fun _ _ _ h => h) (Or.inl ⟨by rfl, ?_⟩) (by assumption) ?_
      rotate_left
      · intro wS hSw
        first
          | (go_simp; done)
          | (go_simp; with_reducible rfl)
      try simp only [Act.put, List.setIfInBounds_toArray, List.set_cons_zero, List.set_cons_succ]
      refine wpAnyH_take (i := 12) (oi := ({ dst := some 63, op := Op.load 3 (Operand.tmp 62), type := 3, pos := "ref.go:47", after := #[{ on := 11, ground := Ground.data }], guard := none } : Oper)) (v := ?_) rfl (by kernel_rfl) (by kernel_rfl) (by kernel_rfl) (fun _ _ _ h => h) (Or.inl ⟨by rfl, ?_⟩) (by assumption) ?_
      rotate_left
      · intro wS hSw
        obtain ⟨e0, e1, e2, e3, e4, e5, e6⟩ := hSw
        first
          | (go_simp; done)
          | (go_simp; with_reducible rfl)
      try simp only [Act.put, List.setIfInBounds_toArray, List.set_cons_zero, List.set_cons_succ]
      refine wpAnyH_take (i := 13) (oi := ({ dst := some 64, op := Op.binOp BinOp.quo 3 (Operand.tmp 61) (Operand.tmp 63) 3, type := 3, pos := "ref.go:47", after := #[{ on := 10, ground := Ground.data }, { on := 12, ground := Ground.data }], guard := none } : Oper)) (v := ?_) rfl (by kernel_rfl) (by kernel_rfl) (by kernel_rfl) (fun _ _ _ h => h) (Or.inl ⟨by rfl, ?_⟩) (by assumption) ?_
      rotate_left
      · intro wS hSw
        first
          | (go_simp; done)
          | (go_simp; with_reducible rfl)
      try simp only [Act.put, List.setIfInBounds_toArray, List.set_cons_zero, List.set_cons_succ]
      refine wpAnyH_take (i := 14) (oi := ({ dst := some 65, op := Op.binOp BinOp.add 3 (Operand.tmp 57) (Operand.tmp 64) 3, type := 3, pos := "ref.go:47", after := #[{ on := 6, ground := Ground.data }, { on := 13, ground := Ground.data }], guard := none } : Oper)) (v := ?_) rfl (by kernel_rfl) (by kernel_rfl) (by kernel_rfl) (fun _ _ _ h => h) (Or.inl ⟨by rfl, ?_⟩) (by assumption) ?_
      rotate_left
      · intro wS hSw
        first
          | (go_simp; done)
          | (go_simp; with_reducible rfl)
      try simp only [Act.put, List.setIfInBounds_toArray, List.set_cons_zero, List.set_cons_succ]
      refine wpAnyH_take (i := 15) (oi := ({ dst := some 66, op := Op.fieldAddr 30 (Operand.tmp 5) 5, type := 0, pos := "ref.go:47", after := #[], guard := none } : Oper)) (v := ?_) rfl (by kernel_rfl) (by kernel_rfl) (by kernel_rfl) (fun _ _ _ h => h) (Or.inl ⟨by rfl, ?_⟩) (by assumption) ?_
      rotate_left
      · intro wS hSw
        first
          | (go_simp; done)
          | (go_simp; with_reducible rfl)
      try simp only [Act.put, List.setIfInBounds_toArray, List.set_cons_zero, List.set_cons_succ]
      refine wpAnyH_take (i := 16) (oi := ({ dst := some 67, op := Op.load 3 (Operand.tmp 66), type := 3, pos := "ref.go:47", after := #[{ on := 15, ground := Ground.data }], guard := none } : Oper)) (v := ?_) rfl (by kernel_rfl) (by kernel_rfl) (by kernel_rfl) (fun _ _ _ h => h) (Or.inl ⟨by rfl, ?_⟩) (by assumption) ?_
      rotate_left
      · intro wS hSw
        obtain ⟨e0, e1, e2, e3, e4, e5, e6⟩ := hSw
        first
          | (go_simp; done)
          | (go_simp; with_reducible rfl)
      try simp only [Act.put, List.setIfInBounds_toArray, List.set_cons_zero, List.set_cons_succ]
      refine wpAnyH_take (i := 17) (oi := ({ dst := some 68, op := Op.binOp BinOp.sub 3 (Operand.tmp 65) (Operand.tmp 67) 3, type := 3, pos := "ref.go:47", after := #[{ on := 14, ground := Ground.data }, { on := 16, ground := Ground.data }], guard := none } : Oper)) (v := ?_) rfl (by kernel_rfl) (by kernel_rfl) (by kernel_rfl) (fun _ _ _ h => h) (Or.inl ⟨by rfl, ?_⟩) (by assumption) ?_
      rotate_left
      · intro wS hSw
        first
          | (go_simp; done)
          | (go_simp; with_reducible rfl)
      try simp only [Act.put, List.setIfInBounds_toArray, List.set_cons_zero, List.set_cons_succ]
      refine wpAnyH_take (i := 18) (oi := ({ dst := some 14, op := Op.assign (Operand.tmp 68), type := 3, pos := "ref.go:47", after := #[{ on := 17, ground := Ground.data }, { on := 0, ground := Ground.phase }, { on := 1, ground := Ground.phase }, { on := 2, ground := Ground.phase }, { on := 3, ground := Ground.phase }, { on := 4, ground := Ground.phase }, { on := 5, ground := Ground.phase }, { on := 6, ground := Ground.phase }, { on := 7, ground := Ground.phase }, { on := 8, ground := Ground.phase }, { on := 9, ground := Ground.phase }, { on := 10, ground := Ground.phase }, { on := 11, ground := Ground.phase }, { on := 12, ground := Ground.phase }, { on := 13, ground := Ground.phase }, { on := 14, ground := Ground.phase }, { on := 15, ground := Ground.phase }, { on := 16, ground := Ground.phase }, { on := 17, ground := Ground.phase }], guard := none } : Oper)) (v := ?_) rfl (by kernel_rfl) (by kernel_rfl) (by kernel_rfl) (fun _ _ _ h => h) (Or.inl ⟨by rfl, ?_⟩) (by assumption) ?_
      rotate_left
      · intro wS hSw
        first
          | (go_simp; done)
          | (go_simp; with_reducible rfl)
      try simp only [Act.put, List.setIfInBounds_toArray, List.set_cons_zero, List.set_cons_succ]
      refine wpAnyH_done (by kernel_rfl) ?_ _
      clear hHeld
      go_wp2_with fail
      refine wp_region_held_drew (S := fun WW : World => WW.cell? ⟨w.heap.size, 0, none⟩ = some (.int .i64 H) ∧ WW.cell? ⟨w.heap.size, 1, none⟩ = some (.int .i64 W) ∧ WW.cell? ⟨w.heap.size, 2, none⟩ = some (.int .i64 C) ∧ WW.cell? ⟨w.heap.size + 1, 3, none⟩ = some (.int .i64 K) ∧ WW.cell? ⟨w.heap.size + 1, 4, none⟩ = some (.int .i64 S) ∧ WW.cell? ⟨w.heap.size + 1, 5, none⟩ = some (.int .i64 P) ∧ WW.cell? ⟨g8, 1, none⟩ = some (.int .i64 (b : Int))) (by kernel_rfl) HRA.out.drew.1 (fun hHeld => ?_)
      replace HRA := Lib.hid HRA.out.drew
      generalize Wb.drew = Wc at HRA hHeld ⊢
      refine wpAnyH_take (i := 0) (oi := ({ dst := some 69, op := Op.move (Operand.tmp 12), type := 3, pos := "ref.go:48", after := #[], guard := none } : Oper)) (v := ?_) rfl (by kernel_rfl) (by kernel_rfl) (by kernel_rfl) (fun _ _ _ h => h) (Or.inl ⟨by rfl, ?_⟩) (by assumption) ?_
      rotate_left
      · intro wS hSw
        first
          | (go_simp; done)
          | (go_simp; with_reducible rfl)
      try simp only [Act.put, List.setIfInBounds_toArray, List.set_cons_zero, List.set_cons_succ]
      refine wpAnyH_take (i := 1) (oi := ({ dst := some 70, op := Op.fieldAddr 23 (Operand.tmp 8) 1, type := 0, pos := "ref.go:48", after := #[], guard := none } : Oper)) (v := ?_) rfl (by kernel_rfl) (by kernel_rfl) (by kernel_rfl) (fun _ _ _ h => h) (Or.inl ⟨by rfl, ?_⟩) (by assumption) ?_
      rotate_left
      · intro wS hSw
        first
          | (go_simp; done)
          | (go_simp; with_reducible rfl)
      try simp only [Act.put, List.setIfInBounds_toArray, List.set_cons_zero, List.set_cons_succ]
      refine wpAnyH_take (i := 2) (oi := ({ dst := some 71, op := Op.load 3 (Operand.tmp 70), type := 3, pos := "ref.go:48", after := #[{ on := 1, ground := Ground.data }], guard := none } : Oper)) (v := ?_) rfl (by kernel_rfl) (by kernel_rfl) (by kernel_rfl) (fun _ _ _ h => h) (Or.inl ⟨by rfl, ?_⟩) (by assumption) ?_
      rotate_left
      · intro wS hSw
        obtain ⟨e0, e1, e2, e3, e4, e5, e6⟩ := hSw
        first
          | (go_simp; done)
          | (go_simp; with_reducible rfl)
      try simp only [Act.put, List.setIfInBounds_toArray, List.set_cons_zero, List.set_cons_succ]
      refine wpAnyH_take (i := 3) (oi := ({ dst := some 72, op := Op.binOp BinOp.rem 3 (Operand.tmp 69) (Operand.tmp 71) 3, type := 3, pos := "ref.go:48", after := #[{ on := 0, ground := Ground.data }, { on := 2, ground := Ground.data }], guard := none } : Oper)) (v := ?_) rfl (by kernel_rfl) (by kernel_rfl) (by kernel_rfl) (fun _ _ _ h => h) (Or.inl ⟨by rfl, ?_⟩) (by assumption) ?_
      rotate_left
      · intro wS hSw
        first
          | (go_simp; done)
          | (go_simp; with_reducible rfl)
      try simp only [Act.put, List.setIfInBounds_toArray, List.set_cons_zero, List.set_cons_succ]
      refine wpAnyH_take (i := 4) (oi := ({ dst := some 73, op := Op.fieldAddr 30 (Operand.tmp 5) 4, type := 0, pos := "ref.go:48", after := #[], guard := none } : Oper)) (v := ?_) rfl (by kernel_rfl) (by kernel_rfl) (by kernel_rfl) (fun _ _ _ h => h) (Or.inl ⟨by rfl, ?_⟩) (by assumption) ?_
      rotate_left
      · intro wS hSw
        first
          | (go_simp; done)
          | (go_simp; with_reducible rfl)
      try simp only [Act.put, List.setIfInBounds_toArray, List.set_cons_zero, List.set_cons_succ]
      refine wpAnyH_take (i := 5) (oi := ({ dst := some 74, op := Op.load 3 (Operand.tmp 73), type := 3, pos := "ref.go:48", after := #[{ on := 4, ground := Ground.data }], guard := none } : Oper)) (v := ?_) rfl (by kernel_rfl) (by kernel_rfl) (by kernel_rfl) (fun _ _ _ h => h) (Or.inl ⟨by rfl, ?_⟩) (by assumption) ?_
      rotate_left
      · intro wS hSw
        obtain ⟨e0, e1, e2, e3, e4, e5, e6⟩ := hSw
        first
          | (go_simp; done)
          | (go_simp; with_reducible rfl)
      try simp only [Act.put, List.setIfInBounds_toArray, List.set_cons_zero, List.set_cons_succ]
      refine wpAnyH_take (i := 6) (oi := ({ dst := some 75, op := Op.binOp BinOp.mul 3 (Operand.tmp 72) (Operand.tmp 74) 3, type := 3, pos := "ref.go:48", after := #[{ on := 3, ground := Ground.data }, { on := 5, ground := Ground.data }], guard := none } : Oper)) (v := ?_) rfl (by kernel_rfl) (by kernel_rfl) (by kernel_rfl) (fun _ _ _ h => h) (Or.inl ⟨by rfl, ?_⟩) (by assumption) ?_
      rotate_left
      · intro wS hSw
        first
          | (go_simp; done)
          | (go_simp; with_reducible rfl)
      try simp only [Act.put, List.setIfInBounds_toArray, List.set_cons_zero, List.set_cons_succ]
      refine wpAnyH_take (i := 7) (oi := ({ dst := some 76, op := Op.move (Operand.tmp 13), type := 3, pos := "ref.go:48", after := #[], guard := none } : Oper)) (v := ?_) rfl (by kernel_rfl) (by kernel_rfl) (by kernel_rfl) (fun _ _ _ h => h) (Or.inl ⟨by rfl, ?_⟩) (by assumption) ?_
      rotate_left
      · intro wS hSw
        first
          | (go_simp; done)
          | (go_simp; with_reducible rfl)
      try simp only [Act.put, List.setIfInBounds_toArray, List.set_cons_zero, List.set_cons_succ]
      refine wpAnyH_take (i := 8) (oi := ({ dst := some 77, op := Op.fieldAddr 23 (Operand.tmp 4) 2, type := 0, pos := "ref.go:48", after := #[], guard := none } : Oper)) (v := ?_) rfl (by kernel_rfl) (by kernel_rfl) (by kernel_rfl) (fun _ _ _ h => h) (Or.inl ⟨by rfl, ?_⟩) (by assumption) ?_
      rotate_left
      · intro wS hSw
        first
          | (go_simp; done)
          | (go_simp; with_reducible rfl)
      try simp only [Act.put, List.setIfInBounds_toArray, List.set_cons_zero, List.set_cons_succ]
      refine wpAnyH_take (i := 9) (oi := ({ dst := some 78, op := Op.load 3 (Operand.tmp 77), type := 3, pos := "ref.go:48", after := #[{ on := 8, ground := Ground.data }], guard := none } : Oper)) (v := ?_) rfl (by kernel_rfl) (by kernel_rfl) (by kernel_rfl) (fun _ _ _ h => h) (Or.inl ⟨by rfl, ?_⟩) (by assumption) ?_
      rotate_left
      · intro wS hSw
        obtain ⟨e0, e1, e2, e3, e4, e5, e6⟩ := hSw
        first
          | (go_simp; done)
          | (go_simp; with_reducible rfl)
      try simp only [Act.put, List.setIfInBounds_toArray, List.set_cons_zero, List.set_cons_succ]
      refine wpAnyH_take (i := 10) (oi := ({ dst := some 79, op := Op.binOp BinOp.quo 3 (Operand.tmp 76) (Operand.tmp 78) 3, type := 3, pos := "ref.go:48", after := #[{ on := 7, ground := Ground.data }, { on := 9, ground := Ground.data }], guard := none } : Oper)) (v := ?_) rfl (by kernel_rfl) (by kernel_rfl) (by kernel_rfl) (fun _ _ _ h => h) (Or.inl ⟨by rfl, ?_⟩) (by assumption) ?_
      rotate_left
      · intro wS hSw
        first
          | (go_simp; done)
          | (go_simp; with_reducible rfl)
      try simp only [Act.put, List.setIfInBounds_toArray, List.set_cons_zero, List.set_cons_succ]
      refine wpAnyH_take (i := 11) (oi := ({ dst := some 80, op := Op.fieldAddr 30 (Operand.tmp 5) 3, type := 0, pos := "ref.go:48", after := #[], guard := none } : Oper)) (v := ?_) rfl (by kernel_rfl) (by kernel_rfl) (by kernel_rfl) (fun _ _ _ h => h) (Or.inl ⟨by rfl, ?_⟩) (by assumption) ?_
      rotate_left
      · intro wS hSw
        first
          | (go_simp; done)
          | (go_simp; with_reducible rfl)
      try simp only [Act.put, List.setIfInBounds_toArray, List.set_cons_zero, List.set_cons_succ]
      refine wpAnyH_take (i := 12) (oi := ({ dst := some 81, op := Op.load 3 (Operand.tmp 80), type := 3, pos := "ref.go:48", after := #[{ on := 11, ground := Ground.data }], guard := none } : Oper)) (v := ?_) rfl (by kernel_rfl) (by kernel_rfl) (by kernel_rfl) (fun _ _ _ h => h) (Or.inl ⟨by rfl, ?_⟩) (by assumption) ?_
      rotate_left
      · intro wS hSw
        obtain ⟨e0, e1, e2, e3, e4, e5, e6⟩ := hSw
        first
          | (go_simp; done)
          | (go_simp; with_reducible rfl)
      try simp only [Act.put, List.setIfInBounds_toArray, List.set_cons_zero, List.set_cons_succ]
      refine wpAnyH_take (i := 13) (oi := ({ dst := some 82, op := Op.binOp BinOp.rem 3 (Operand.tmp 79) (Operand.tmp 81) 3, type := 3, pos := "ref.go:48", after := #[{ on := 10, ground := Ground.data }, { on := 12, ground := Ground.data }], guard := none } : Oper)) (v := ?_) rfl (by kernel_rfl) (by kernel_rfl) (by kernel_rfl) (fun _ _ _ h => h) (Or.inl ⟨by rfl, ?_⟩) (by assumption) ?_
      rotate_left
      · intro wS hSw
        first
          | (go_simp; done)
          | (go_simp; with_reducible rfl)
      try simp only [Act.put, List.setIfInBounds_toArray, List.set_cons_zero, List.set_cons_succ]
      refine wpAnyH_take (i := 14) (oi := ({ dst := some 83, op := Op.binOp BinOp.add 3 (Operand.tmp 75) (Operand.tmp 82) 3, type := 3, pos := "ref.go:48", after := #[{ on := 6, ground := Ground.data }, { on := 13, ground := Ground.data }], guard := none } : Oper)) (v := ?_) rfl (by kernel_rfl) (by kernel_rfl) (by kernel_rfl) (fun _ _ _ h => h) (Or.inl ⟨by rfl, ?_⟩) (by assumption) ?_
      rotate_left
      · intro wS hSw
        first
          | (go_simp; done)
          | (go_simp; with_reducible rfl)
      try simp only [Act.put, List.setIfInBounds_toArray, List.set_cons_zero, List.set_cons_succ]
      refine wpAnyH_take (i := 15) (oi := ({ dst := some 84, op := Op.fieldAddr 30 (Operand.tmp 5) 5, type := 0, pos := "ref.go:48", after := #[], guard := none } : Oper)) (v := ?_) rfl (by kernel_rfl) (by kernel_rfl) (by kernel_rfl) (fun _ _ _ h => h) (Or.inl ⟨by rfl, ?_⟩) (by assumption) ?_
      rotate_left
      · intro wS hSw
        first
          | (go_simp; done)
          | (go_simp; with_reducible rfl)
      try simp only [Act.put, List.setIfInBounds_toArray, List.set_cons_zero, List.set_cons_succ]
      refine wpAnyH_take (i := 16) (oi := ({ dst := some 85, op := Op.load 3 (Operand.tmp 84), type := 3, pos := "ref.go:48", after := #[{ on := 15, ground := Ground.data }], guard := none } : Oper)) (v := ?_) rfl (by kernel_rfl) (by kernel_rfl) (by kernel_rfl) (fun _ _ _ h => h) (Or.inl ⟨by rfl, ?_⟩) (by assumption) ?_
      rotate_left
      · intro wS hSw
        obtain ⟨e0, e1, e2, e3, e4, e5, e6⟩ := hSw
        first
          | (go_simp; done)
          | (go_simp; with_reducible rfl)
      try simp only [Act.put, List.setIfInBounds_toArray, List.set_cons_zero, List.set_cons_succ]
      refine wpAnyH_take (i := 17) (oi := ({ dst := some 86, op := Op.binOp BinOp.sub 3 (Operand.tmp 83) (Operand.tmp 85) 3, type := 3, pos := "ref.go:48", after := #[{ on := 14, ground := Ground.data }, { on := 16, ground := Ground.data }], guard := none } : Oper)) (v := ?_) rfl (by kernel_rfl) (by kernel_rfl) (by kernel_rfl) (fun _ _ _ h => h) (Or.inl ⟨by rfl, ?_⟩) (by assumption) ?_
      rotate_left
      · intro wS hSw
        first
          | (go_simp; done)
          | (go_simp; with_reducible rfl)
      try simp only [Act.put, List.setIfInBounds_toArray, List.set_cons_zero, List.set_cons_succ]
      refine wpAnyH_take (i := 18) (oi := ({ dst := some 15, op := Op.assign (Operand.tmp 86), type := 3, pos := "ref.go:48", after := #[{ on := 17, ground := Ground.data }, { on := 0, ground := Ground.phase }, { on := 1, ground := Ground.phase }, { on := 2, ground := Ground.phase }, { on := 3, ground := Ground.phase }, { on := 4, ground := Ground.phase }, { on := 5, ground := Ground.phase }, { on := 6, ground := Ground.phase }, { on := 7, ground := Ground.phase }, { on := 8, ground := Ground.phase }, { on := 9, ground := Ground.phase }, { on := 10, ground := Ground.phase }, { on := 11, ground := Ground.phase }, { on := 12, ground := Ground.phase }, { on := 13, ground := Ground.phase }, { on := 14, ground := Ground.phase }, { on := 15, ground := Ground.phase }, { on := 16, ground := Ground.phase }, { on := 17, ground := Ground.phase }], guard := none } : Oper)) (v := ?_) rfl (by kernel_rfl) (by kernel_rfl) (by kernel_rfl) (fun _ _ _ h => h) (Or.inl ⟨by rfl, ?_⟩) (by assumption) ?_
      rotate_left
      · intro wS hSw
        first
          | (go_simp; done)
          | (go_simp; with_reducible rfl)
      try simp only [Act.put, List.setIfInBounds_toArray, List.set_cons_zero, List.set_cons_succ]
      refine wpAnyH_done (by kernel_rfl) ?_ _
      clear hHeld
      clear d1 d2 d2' d3 d4 d4' d5 d7 d8 d8' w1 w2 w3 w4' w5 w7 w8 w9 w10 w11 w12 w13 w14 a1 a1n a2 a2n a4
      obtain ⟨⟨t0, t1, t2, n3, n4, n5, m1⟩, -, -, -⟩ := HRA.out
      by_cases hin : 0 ≤ y ∧ y < H ∧ 0 ≤ x ∧ x < W
      · obtain ⟨i1, i2, i3, i4⟩ := hin
        have hsh := HH2.out
        rw [if_pos ⟨i1, i2, i3, i4⟩] at hsh
        obtain ⟨b1, b2, b3, b4, b5⟩ := at_bd HS0.out i1 i2 i3 i4 (c := (ch : Int)) (by omega) (by have := HD.out; omega)
        rw [← HEM.out] at b4 b5
        obtain ⟨yW, hyW⟩ : ∃ v : Int, y * W = v := ⟨_, rfl⟩
        rw [hyW] at b1 b2 b3 b4 hsh
        obtain ⟨sC, hsC⟩ : ∃ v : Int, (yW + x) * C = v := ⟨_, rfl⟩
        rw [hsC] at b3 b4 hsh
        obtain ⟨pn, hpn⟩ : ∃ pn : Nat, (sC + (ch : Int)).toNat = pn := ⟨_, rfl⟩
        have hpi : sC + (ch : Int) = (pn : Int) := by omega
        rw [hpn] at hsh
        have v1 : IntKind.i64.wrap (y * W) = yW := by rw [hyW]; exact IntWalk.i64_in _ (by omega)
        have v2 : IntKind.i64.wrap (yW + x) = yW + x := IntWalk.i64_in _ (by omega)
        have v3 : IntKind.i64.wrap ((yW + x) * C) = sC := by rw [hsC]; exact IntWalk.i64_in _ (by omega)
        have v4 : IntKind.i64.wrap (sC + (ch : Int)) = (pn : Int) := by rw [hpi]; exact IntWalk.i64_in _ (by omega)
        have p1 : (0 : Int) ≤ (pn : Int) := by omega
        have p2 : (pn : Int) < (E : Int) := by omega
        have hpE : pn < E := by omega
        have HSH := Lib.hid hsh
        clear hsh b1 b2 b3 b4 b5 hyW hsC hpn hpi HH2
        go_wp2_with fail
        clear t0 t1 t2 n3 n4 n5 m1
        refine wp_region_held_drew (S := fun WW : World => WW.cell? ⟨w.heap.size, 0, none⟩ = some (.int .i64 H) ∧ WW.cell? ⟨w.heap.size, 1, none⟩ = some (.int .i64 W) ∧ WW.cell? ⟨w.heap.size, 2, none⟩ = some (.int .i64 C) ∧ WW.cell? ⟨w.heap.size + 1, 3, none⟩ = some (.int .i64 K) ∧ WW.cell? ⟨w.heap.size + 1, 4, none⟩ = some (.int .i64 S) ∧ WW.cell? ⟨w.heap.size + 1, 5, none⟩ = some (.int .i64 P) ∧ WW.cell? ⟨g8, 1, none⟩ = some (.int .i64 (b : Int))) (by kernel_rfl) HRA.out.drew.1 (fun hHeld => ?_)
        replace HRA := Lib.hid HRA.out.drew
        generalize Wc.drew = Wd at HRA hHeld ⊢
        refine wpAnyH_take (i := 0) (oi := ({ dst := some 105, op := Op.move (Operand.tmp 14), type := 3, pos := "ref.go:50", after := #[], guard := none } : Oper)) (v := ?_) rfl (by kernel_rfl) (by kernel_rfl) (by kernel_rfl) (fun _ _ _ h => h) (Or.inl ⟨by rfl, ?_⟩) (by assumption) ?_
        rotate_left
        · intro wS hSw
          first
            | (go_simp; done)
            | (go_simp; with_reducible rfl)
        try simp only [Act.put, List.setIfInBounds_toArray, List.set_cons_zero, List.set_cons_succ]
        refine wpAnyH_take (i := 1) (oi := ({ dst := some 106, op := Op.fieldAddr 23 (Operand.tmp 4) 1, type := 0, pos := "ref.go:50", after := #[], guard := none } : Oper)) (v := ?_) rfl (by kernel_rfl) (by kernel_rfl) (by kernel_rfl) (fun _ _ _ h => h) (Or.inl ⟨by rfl, ?_⟩) (by assumption) ?_
        rotate_left
        · intro wS hSw
          first
            | (go_simp; done)
            | (go_simp; with_reducible rfl)
        try simp only [Act.put, List.setIfInBounds_toArray, List.set_cons_zero, List.set_cons_succ]
        refine wpAnyH_take (i := 2) (oi := ({ dst := some 107, op := Op.load 3 (Operand.tmp 106), type := 3, pos := "ref.go:50", after := #[{ on := 1, ground := Ground.data }], guard := none } : Oper)) (v := ?_) rfl (by kernel_rfl) (by kernel_rfl) (by kernel_rfl) (fun _ _ _ h => h) (Or.inl ⟨by rfl, ?_⟩) (by assumption) ?_
        rotate_left
        · intro wS hSw
          obtain ⟨e0, e1, e2, e3, e4, e5, e6⟩ := hSw
          first
            | (go_simp; done)
            | (go_simp; with_reducible rfl)
        try simp only [Act.put, List.setIfInBounds_toArray, List.set_cons_zero, List.set_cons_succ]
        refine wpAnyH_take (i := 3) (oi := ({ dst := some 108, op := Op.binOp BinOp.mul 3 (Operand.tmp 105) (Operand.tmp 107) 3, type := 3, pos := "ref.go:50", after := #[{ on := 0, ground := Ground.data }, { on := 2, ground := Ground.data }], guard := none } : Oper)) (v := ?_) rfl (by kernel_rfl) (by kernel_rfl) (by kernel_rfl) (fun _ _ _ h => h) (Or.inl ⟨by rfl, ?_⟩) (by assumption) ?_
        rotate_left
        · intro wS hSw
          first
            | (go_simp; done)
            | (go_simp; with_reducible rfl)
        try simp only [Act.put, List.setIfInBounds_toArray, List.set_cons_zero, List.set_cons_succ]
        refine wpAnyH_take (i := 4) (oi := ({ dst := some 109, op := Op.move (Operand.tmp 15), type := 3, pos := "ref.go:50", after := #[], guard := none } : Oper)) (v := ?_) rfl (by kernel_rfl) (by kernel_rfl) (by kernel_rfl) (fun _ _ _ h => h) (Or.inl ⟨by rfl, ?_⟩) (by assumption) ?_
        rotate_left
        · intro wS hSw
          first
            | (go_simp; done)
            | (go_simp; with_reducible rfl)
        try simp only [Act.put, List.setIfInBounds_toArray, List.set_cons_zero, List.set_cons_succ]
        refine wpAnyH_take (i := 5) (oi := ({ dst := some 110, op := Op.binOp BinOp.add 3 (Operand.tmp 108) (Operand.tmp 109) 3, type := 3, pos := "ref.go:50", after := #[{ on := 3, ground := Ground.data }, { on := 4, ground := Ground.data }], guard := none } : Oper)) (v := ?_) rfl (by kernel_rfl) (by kernel_rfl) (by kernel_rfl) (fun _ _ _ h => h) (Or.inl ⟨by rfl, ?_⟩) (by assumption) ?_
        rotate_left
        · intro wS hSw
          first
            | (go_simp; done)
            | (go_simp; with_reducible rfl)
        try simp only [Act.put, List.setIfInBounds_toArray, List.set_cons_zero, List.set_cons_succ]
        refine wpAnyH_take (i := 6) (oi := ({ dst := some 111, op := Op.fieldAddr 23 (Operand.tmp 4) 2, type := 0, pos := "ref.go:50", after := #[], guard := none } : Oper)) (v := ?_) rfl (by kernel_rfl) (by kernel_rfl) (by kernel_rfl) (fun _ _ _ h => h) (Or.inl ⟨by rfl, ?_⟩) (by assumption) ?_
        rotate_left
        · intro wS hSw
          first
            | (go_simp; done)
            | (go_simp; with_reducible rfl)
        try simp only [Act.put, List.setIfInBounds_toArray, List.set_cons_zero, List.set_cons_succ]
        refine wpAnyH_take (i := 7) (oi := ({ dst := some 112, op := Op.load 3 (Operand.tmp 111), type := 3, pos := "ref.go:50", after := #[{ on := 6, ground := Ground.data }], guard := none } : Oper)) (v := ?_) rfl (by kernel_rfl) (by kernel_rfl) (by kernel_rfl) (fun _ _ _ h => h) (Or.inl ⟨by rfl, ?_⟩) (by assumption) ?_
        rotate_left
        · intro wS hSw
          obtain ⟨e0, e1, e2, e3, e4, e5, e6⟩ := hSw
          first
            | (go_simp; done)
            | (go_simp; with_reducible rfl)
        try simp only [Act.put, List.setIfInBounds_toArray, List.set_cons_zero, List.set_cons_succ]
        refine wpAnyH_take (i := 8) (oi := ({ dst := some 113, op := Op.binOp BinOp.mul 3 (Operand.tmp 110) (Operand.tmp 112) 3, type := 3, pos := "ref.go:50", after := #[{ on := 5, ground := Ground.data }, { on := 7, ground := Ground.data }], guard := none } : Oper)) (v := ?_) rfl (by kernel_rfl) (by kernel_rfl) (by kernel_rfl) (fun _ _ _ h => h) (Or.inl ⟨by rfl, ?_⟩) (by assumption) ?_
        rotate_left
        · intro wS hSw
          first
            | (go_simp; done)
            | (go_simp; with_reducible rfl)
        try simp only [Act.put, List.setIfInBounds_toArray, List.set_cons_zero, List.set_cons_succ]
        refine wpAnyH_take (i := 9) (oi := ({ dst := some 114, op := Op.move (Operand.tmp 13), type := 3, pos := "ref.go:50", after := #[], guard := none } : Oper)) (v := ?_) rfl (by kernel_rfl) (by kernel_rfl) (by kernel_rfl) (fun _ _ _ h => h) (Or.inl ⟨by rfl, ?_⟩) (by assumption) ?_
        rotate_left
        · intro wS hSw
          first
            | (go_simp; done)
            | (go_simp; with_reducible rfl)
        try simp only [Act.put, List.setIfInBounds_toArray, List.set_cons_zero, List.set_cons_succ]
        refine wpAnyH_take (i := 10) (oi := ({ dst := some 115, op := Op.fieldAddr 23 (Operand.tmp 4) 2, type := 0, pos := "ref.go:50", after := #[], guard := none } : Oper)) (v := ?_) rfl (by kernel_rfl) (by kernel_rfl) (by kernel_rfl) (fun _ _ _ h => h) (Or.inl ⟨by rfl, ?_⟩) (by assumption) ?_
        rotate_left
        · intro wS hSw
          first
            | (go_simp; done)
            | (go_simp; with_reducible rfl)
        try simp only [Act.put, List.setIfInBounds_toArray, List.set_cons_zero, List.set_cons_succ]
        refine wpAnyH_take (i := 11) (oi := ({ dst := some 116, op := Op.load 3 (Operand.tmp 115), type := 3, pos := "ref.go:50", after := #[{ on := 10, ground := Ground.data }], guard := none } : Oper)) (v := ?_) rfl (by kernel_rfl) (by kernel_rfl) (by kernel_rfl) (fun _ _ _ h => h) (Or.inl ⟨by rfl, ?_⟩) (by assumption) ?_
        rotate_left
        · intro wS hSw
          obtain ⟨e0, e1, e2, e3, e4, e5, e6⟩ := hSw
          first
            | (go_simp; done)
            | (go_simp; with_reducible rfl)
        try simp only [Act.put, List.setIfInBounds_toArray, List.set_cons_zero, List.set_cons_succ]
        refine wpAnyH_take (i := 12) (oi := ({ dst := some 117, op := Op.binOp BinOp.rem 3 (Operand.tmp 114) (Operand.tmp 116) 3, type := 3, pos := "ref.go:50", after := #[{ on := 9, ground := Ground.data }, { on := 11, ground := Ground.data }], guard := none } : Oper)) (v := ?_) rfl (by kernel_rfl) (by kernel_rfl) (by kernel_rfl) (fun _ _ _ h => h) (Or.inl ⟨by rfl, ?_⟩) (by assumption) ?_
        rotate_left
        · intro wS hSw
          first
            | (go_simp; done)
            | (go_simp; with_reducible rfl)
        try simp only [Act.put, List.setIfInBounds_toArray, List.set_cons_zero, List.set_cons_succ]
        refine wpAnyH_take (i := 13) (oi := ({ dst := some 118, op := Op.binOp BinOp.add 3 (Operand.tmp 113) (Operand.tmp 117) 3, type := 3, pos := "ref.go:50", after := #[{ on := 8, ground := Ground.data }, { on := 12, ground := Ground.data }], guard := none } : Oper)) (v := ?_) rfl (by kernel_rfl) (by kernel_rfl) (by kernel_rfl) (fun _ _ _ h => h) (Or.inl ⟨by rfl, ?_⟩) (by assumption) ?_
        rotate_left
        · intro wS hSw
          first
            | (go_simp; done)
            | (go_simp; with_reducible rfl)
        try simp only [Act.put, List.setIfInBounds_toArray, List.set_cons_zero, List.set_cons_succ]
        refine wpAnyH_take (i := 14) (oi := ({ dst := some 16, op := Op.assign (Operand.tmp 118), type := 3, pos := "ref.go:50", after := #[{ on := 13, ground := Ground.data }, { on := 0, ground := Ground.phase }, { on := 1, ground := Ground.phase }, { on := 2, ground := Ground.phase }, { on := 3, ground := Ground.phase }, { on := 4, ground := Ground.phase }, { on := 5, ground := Ground.phase }, { on := 6, ground := Ground.phase }, { on := 7, ground := Ground.phase }, { on := 8, ground := Ground.phase }, { on := 9, ground := Ground.phase }, { on := 10, ground := Ground.phase }, { on := 11, ground := Ground.phase }, { on := 12, ground := Ground.phase }, { on := 13, ground := Ground.phase }], guard := none } : Oper)) (v := ?_) rfl (by kernel_rfl) (by kernel_rfl) (by kernel_rfl) (fun _ _ _ h => h) (Or.inl ⟨by rfl, ?_⟩) (by assumption) ?_
        rotate_left
        · intro wS hSw
          first
            | (go_simp; done)
            | (go_simp; with_reducible rfl)
        try simp only [Act.put, List.setIfInBounds_toArray, List.set_cons_zero, List.set_cons_succ]
        refine wpAnyH_done (by kernel_rfl) ?_ _
        clear hHeld
        obtain ⟨⟨t0, t1, t2, n3, n4, n5, m1⟩, hown, hrdx, hbx⟩ := HRA.out
        obtain ⟨bx, ox, rfl, hbb, hcz⟩ := ints_getD hrdx (j := t) (by have := HX.out; omega)
        have hcx := hcz t (by have := HX.out; omega)
        obtain ⟨e1, e2⟩ := HXB.out t
        have hDt : D t = xs.getD t 0 := by rw [HDDD.out]
        obtain ⟨u, hu⟩ : ∃ u, xs.getD t 0 = u := ⟨_, rfl⟩
        rw [hu] at hcx e1 e2 hDt
        obtain ⟨old, ho⟩ : ∃ o, accF hit D t pn = o := ⟨_, rfl⟩
        obtain ⟨z, hz⟩ : ∃ z, IntKind.i32.wrap (old + u) = z := ⟨_, rfl⟩
        have hset := acc_set (E := E) HSH.out z (by rw [ho, hDt]; exact hz)
        have hco : Wd.cell? ⟨gd, pn, none⟩ = some (.int .i32 old) := (hown.cellAt pn (by omega)).trans (by
          unfold I32v
          rw [List.getElem?_map, listF_at _ hpE, ho]; rfl)
        have hfr : Wd.frozen? ⟨gd, pn, none⟩ = false := hown.frozenAt pn
        have k1 : IntKind.i32.wrap u = u := IntWalk.i32_in _ (by omega)
        have c1 : Wd.drew.cell? ⟨gd, pn, none⟩ = some (.int .i32 old) := hco
        have c2 : Wd.drew.cell? ⟨bx, ox + t, none⟩ = some (.int .i16 u) := hcx
        have c3 : Wd.drew.frozen? ⟨gd, pn, none⟩ = false := hfr
        have c4 : (0 : Int) ≤ (t : Int) := by omega
        have hRS := HRA.out.drew.set HNE.out.1 HNE.out.2.1 HNE.out.2.2.1 HNE.out.2.2.2 pn z
        rw [hset] at hRS
        replace HRA := Lib.hid hRS
        clear hcz hcx hDt hu ho hset hco hfr hRS t0 t1 t2 n3 n4 n5 m1 hown hrdx hbx hbb v1 v2 v3 v4 e1 e2
        go_wp2_with fail
        refine wp_region_still_tail 13 (by kernel_rfl) (by kernel_rfl) ?_
        rw [show ({ Wd with drawn := Wd.drawn + 1 } : World) = Wd.drew from rfl]
        generalize Wd.drew = We at c1 c2 c3 HRA ⊢
        simp only [List.take_succ_cons, List.take_zero, List.drop_succ_cons, List.drop_zero]
        repeat still_step
        refine wpStill_nil ?_
        go_wp2_with fail
        go_roundw
        case rel => exact ⟨t + 1, by omega, by go_num, HRA⟩
        case measure => simp [intOf]; omega
      · have hsh := HH2.out
        rw [if_neg hin] at hsh
        have e1 := acc_out (D := D) (E := E) hsh
        rw [← e1] at HRA
        have hcs : ¬ 0 ≤ y ∨ (0 ≤ y ∧ ¬ y < H) ∨ (0 ≤ y ∧ y < H ∧ ¬ 0 ≤ x) ∨ (0 ≤ y ∧ y < H ∧ 0 ≤ x ∧ ¬ x < W) := by omega
        clear hsh e1 hin HH2 d6 d6' w6
        rcases hcs with c1 | ⟨c1, c2⟩ | ⟨c1, c2, c3⟩ | ⟨c1, c2, c3, c4⟩
        all_goals
          go_wp2_with fail
          go_roundw
          case rel => exact ⟨t + 1, by omega, by go_num, HRA⟩
          case measure => simp [intOf]; omega
    · obtain rfl : t = N := by omega
      go_wp2_with fail
      go_ret
      obtain ⟨-, hown, -, hbx⟩ := HRA.out
      exact ⟨_, rfl, hown, hbx⟩
end Go.Proofs.Ytbolneejjjjaeaa.CPatch
