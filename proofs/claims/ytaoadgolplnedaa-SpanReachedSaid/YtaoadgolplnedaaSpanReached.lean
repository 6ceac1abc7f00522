/- SpanReached: neither too wide nor too narrow: whatever numbers a row weighs, their sum lies within its range, and some numbers make the least, others the greatest; the call returns true and leaves its arguments as they were. No condition. -/
import Derived.Test.YtaoadgolplnedaaSpanKnown
import Derived.Test.YtaoadgolplnedaaRows
import Derived.ProofKit
import Derived.OpenShut
import Derived.Outline
import Derived.Deep.CutRange
namespace Go.Proofs.Ytaoadgolplnedaa.lawSpanReached
open Go Go.ChangeShapes Go.WideShapes Go.ChangeAt Go.RowKit Go.Deep
open Plain CSat CFix CShape CTensor CConv CSpan
set_option linter.unusedVariables false

set_option maxRecDepth 100000 in
set_option maxHeartbeats 4000000 in
theorem walk_no {w : World} (A B : Option Addr) (n c nx d : Nat) (bias lo hi z : Int) (hfew : 300 < n ∨ nx < n ∨ hi < lo) :
    Calls Try.prog 5 #[.slice A n c, .slice B nx d, .int .i32 bias, .int .i8 lo, .int .i8 hi, .int .i8 z] w fun e w' => e = .returned (.bool true) ∧ Below w.heap.size w w' := by
  go_enter Try.func5, Try.ntmps5
  by_cases h1 : 300 < n
  · have h2 : (n : Int) > 300 := by omega
    go_wp2_with (go_at_call 7; (refine (known24 _).mono ?_); rintro e w4 ⟨rfl, hb4⟩)
    go_ret
    exact ⟨rfl, hb4⟩
  · have h2 : ¬ (n : Int) > 300 := by omega
    by_cases h3 : nx < n
    · have h4 : (nx : Int) < (n : Int) := by omega
      clear hfew h1 h3
      go_wp2_with (go_at_call 7; (refine (known24 _).mono ?_); rintro e w4 ⟨rfl, hb4⟩)
      go_ret
      exact ⟨rfl, hb4⟩
    · have h4 : ¬ (nx : Int) < (n : Int) := by omega
      have h5 : lo > hi := by omega
      clear hfew h1 h3
      go_wp2_with (go_at_call 7; (refine (known24 _).mono ?_); rintro e w4 ⟨rfl, hb4⟩)
      go_ret
      exact ⟨rfl, hb4⟩
/-- the numbers that are weighed. -/
def vF (xs : List Int) (lo hi : Int) (k : Nat) : Int := lo + (xs.getD k 0).tmod (hi - lo + 1)
theorem vF_bd {xs : List Int} {lo hi : Int} (hl : lo ≤ hi) {k : Nat} (hx : 0 ≤ xs.getD k 0) : lo ≤ vF xs lo hi k ∧ vF xs lo hi k ≤ hi := by
  unfold vF
  have h1 := Int.tmod_nonneg (hi - lo + 1) hx
  have h2 := Int.tmod_lt_of_pos (xs.getD k 0) (show 0 < hi - lo + 1 by omega)
  omega
def U8b (xs : List Int) : Prop := ∀ q, 0 ≤ xs.getD q 0 ∧ xs.getD q 0 ≤ 255
theorem u8b_of {zs : List Int} (h : ∀ n ∈ zs, (Lit.int .u8 n).wf = true) : U8b zs := fun q => by
  rw [List.getD_eq_getElem?_getD]
  cases hq : zs[q]? with
  | none => simp
  | some x =>
    have hx := h x (List.mem_of_getElem? hq)
    have ⟨a, b⟩ : 0 ≤ x ∧ x ≤ 255 := by simpa [Lit.wf, IntKind.min, IntKind.max, IntKind.signed, IntKind.bits] using hx
    simpa using ⟨a, b⟩
theorem i8b_of {zs : List Int} (h : ∀ n ∈ zs, (Lit.int .i8 n).wf = true) : I8b zs := fun q => by
  rw [List.getD_eq_getElem?_getD]
  cases hq : zs[q]? with
  | none => simp
  | some x =>
    have hx := h x (List.mem_of_getElem? hq)
    have ⟨a, b⟩ : -128 ≤ x ∧ x ≤ 127 := by simpa [Lit.wf, IntKind.min, IntKind.max, IntKind.signed, IntKind.bits] using hx
    simpa using ⟨a, b⟩
def U8s (zs : List Int) : List Value := zs.map (.int .u8)
set_option maxRecDepth 100000 in
set_option maxHeartbeats 8000000 in
theorem walk_yes {w : World} (A B : Option Addr) (ws xs : List Int) (n c nx d : Nat) (hn : ws.length = n) (hnx : xs.length = nx) (hw : I8b ws) (hx : U8b xs) (bias lo hi z : Int) (b1 : -2147483648 ≤ bias) (b2 : bias ≤ 2147483647) (l1 : -128 ≤ lo) (l2 : lo ≤ 127) (h1 : -128 ≤ hi) (h2 : hi ≤ 127) (z1 : -128 ≤ z) (z2 : z ≤ 127)
    (hf1 : n ≤ 300) (hf2 : n ≤ nx) (hlo : lo ≤ hi) (hr : Kit.Rd w w.heap.size A (I8s ws)) (hrx : Kit.Rd w w.heap.size B (U8s xs)) :
    Calls Try.prog 5 #[.slice A n c, .slice B nx d, .int .i32 bias, .int .i8 lo, .int .i8 hi, .int .i8 z] w fun e w' => e = .returned (.bool true) ∧ Below w.heap.size w w' := by
  obtain ⟨X, hX⟩ : ∃ X, bias + psum (dnF ws lo hi z false) n = X := ⟨_, rfl⟩
  obtain ⟨Y, hY⟩ : ∃ Y, bias + psum (upF ws lo hi z false) n = Y := ⟨_, rfl⟩
  obtain ⟨X', hX'⟩ : ∃ X, bias + psum (dnF ws lo hi z true) n = X := ⟨_, rfl⟩
  obtain ⟨Y', hY'⟩ : ∃ Y, bias + psum (upF ws lo hi z true) n = Y := ⟨_, rfl⟩
  obtain ⟨S, hS⟩ : ∃ S, bias + psum (fun k => ws.getD k 0 * (vF xs lo hi k - z)) n = S := ⟨_, rfl⟩
  have hb := fun k (hk : k < n) => between (ws := ws) (z := z) (k := k) (vF_bd hlo (hx k).1).1 (vF_bd hlo (hx k).1).2
  have i1 : X ≤ S := by have := psum_mono (F := dnF ws lo hi z false) (G := fun k => ws.getD k 0 * (vF xs lo hi k - z)) (n := n) (fun k hk => (hb k hk).1); omega
  have i2 : S ≤ Y := by have := psum_mono (F := fun k => ws.getD k 0 * (vF xs lo hi k - z)) (G := upF ws lo hi z false) (n := n) (fun k hk => (hb k hk).2); omega
  have i3 : X' ≤ X := by have := psum_mono (F := dnF ws lo hi z true) (G := dnF ws lo hi z false) (n := n) (fun k hk => (gaps_wide ws lo hi z k).1); omega
  have i4 : Y ≤ Y' := by have := psum_mono (F := upF ws lo hi z false) (G := upF ws lo hi z true) (n := n) (fun k hk => (gaps_wide ws lo hi z k).2.1); omega
  have i5 : X' ≤ bias := by have := psum_neg (F := dnF ws lo hi z true) (n := n) (fun k => (gaps_wide ws lo hi z k).2.2.1); omega
  have i6 : bias ≤ Y' := by have := psum_nonneg (F := upF ws lo hi z true) (n := n) (fun k => (gaps_wide ws lo hi z k).2.2.2); omega
  have hC1 := fun (w : World) (h : Kit.Rd w w.heap.size A (I8s ws)) => crow_to A ws n c hn (by omega) hw bias lo hi z b1 b2 l1 l2 h1 h2 z1 z2 false X Y hX hY w h
  have hC2 := fun (w : World) (h : Kit.Rd w w.heap.size A (I8s ws)) => crow_to A ws n c hn (by omega) hw bias lo hi z b1 b2 l1 l2 h1 h2 z1 z2 true X' Y' hX' hY' w h
  have hdb := fun (k : Nat) => psum_bd (G := dnF ws lo hi z false) (b := 32640) (n := k) (fun j _ => dnF_bd hw l1 l2 h1 h2 z1 z2 false j)
  have hub := fun (k : Nat) => psum_bd (G := upF ws lo hi z false) (b := 32640) (n := k) (fun j _ => upF_bd hw l1 l2 h1 h2 z1 z2 false j)
  have hsb := fun (k : Nat) => psum_bd (G := fun k => ws.getD k 0 * (vF xs lo hi k - z)) (b := 32640) (n := k) (fun j _ => mul_255 (hw j).1 (hw j).2 (by have := (vF_bd hlo (hx j).1).1; omega) (by have := (vF_bd hlo (hx j).1).2; omega) z1 z2)
  have HC1 := Lib.hid hC1
  have HC2 := Lib.hid hC2
  have HDB := Lib.hid hdb
  have HUB := Lib.hid hub
  have HSB := Lib.hid hsb
  have HX := Lib.hid hX
  have HY := Lib.hid hY
  have HS := Lib.hid hS
  have HN := Lib.hid hn
  have HNX := Lib.hid hnx
  have HW := Lib.hid hw
  have HU := Lib.hid hx
  have HR := Lib.hid hr
  have HRX := Lib.hid hrx
  have IS := Lib.hid (And.intro i1 (And.intro i2 (And.intro i3 (And.intro i4 (And.intro i5 i6)))))
  have j1 : ¬ (n : Int) > 300 := by omega
  have j2 : ¬ (nx : Int) < (n : Int) := by omega
  have j3 : ¬ lo > hi := by omega
  have eb : IntKind.i64.wrap bias = bias := IntWalk.i64_in _ (by omega)
  clear hX hY hX' hY' hS hb i1 i2 i3 i4 i5 i6 hC1 hC2 hdb hub hsb hn hnx hw hx hr hrx
  go_enter Try.func5, Try.ntmps5
  go_upto_region 4 with (go_at_call 14; (refine (HC1.out _ HR.out).mono ?_); rintro e w1 ⟨rfl, hb1⟩; (have HR1 := Lib.hid ((HR.out.below hb1).more hb1.size)); (have HB1 := Lib.hid hb1); clear hb1)
  have c0 := Kit.new_cell w1 #[.int .i64 X, .int .i64 Y] 35 0
  have c1 := Kit.new_cell w1 #[.int .i64 X, .int .i64 Y] 35 1
  have hal1 : Below w1.heap.size w1 (w1.alloc (.cells #[.int .i64 X, .int .i64 Y] 35)) := (Below.refl _ _).alloc (Nat.le_refl _) _
  replace HR1 := Lib.hid ((HR1.out.below hal1).more hal1.size)
  replace HB1 := Lib.hid (HB1.out.trans (hal1.mono HB1.out.size))
  have y1 : w1.heap.size < (w1.alloc (.cells #[.int .i64 X, .int .i64 Y] 35)).heap.size := by simp
  clear hal1
  generalize w1.alloc (.cells #[.int .i64 X, .int .i64 Y] 35) = W1 at c0 c1 HR1 HB1 y1 ⊢
  have C0 := Lib.hid c0
  have C1 := Lib.hid c1
  clear c0 c1
  generalize w1.heap.size = g1 at C0 C1 y1 ⊢
  go_upto_region 5 with (go_at_call 14; (refine (HC2.out _ HR1.out).mono ?_); rintro e w2 ⟨rfl, hb2⟩; (replace HB1 := Lib.hid (HB1.out.trans (hb2.mono HB1.out.size))); (replace C0 := Lib.hid ((hb2.cell (p := ⟨g1, 0, none⟩) y1).trans C0.out)); (replace C1 := Lib.hid ((hb2.cell (p := ⟨g1, 1, none⟩) y1).trans C1.out)); (replace y1 := Nat.lt_of_lt_of_le y1 hb2.size); clear hb2)
  have c2 := Kit.new_cell w2 #[.int .i64 X', .int .i64 Y'] 35 0
  have c3 := Kit.new_cell w2 #[.int .i64 X', .int .i64 Y'] 35 1
  have hal2 : Below w2.heap.size w2 (w2.alloc (.cells #[.int .i64 X', .int .i64 Y'] 35)) := (Below.refl _ _).alloc (Nat.le_refl _) _
  replace HB1 := Lib.hid (HB1.out.trans (hal2.mono HB1.out.size))
  have c0 := (hal2.cell (p := ⟨g1, 0, none⟩) y1).trans C0.out
  have c1 := (hal2.cell (p := ⟨g1, 1, none⟩) y1).trans C1.out
  clear hal2 C0 C1
  generalize w2.alloc (.cells #[.int .i64 X', .int .i64 Y'] 35) = W2 at c0 c1 c2 c3 HB1 ⊢
  have C0 := Lib.hid c0
  have C1 := Lib.hid c1
  have C2 := Lib.hid c2
  have C3 := Lib.hid c3
  clear c0 c1 c2 c3 y1
  generalize w2.heap.size = g2 at C2 C3 ⊢
  go_wp2_with fail
  clear eb j1 j2 j3
  go_loopw [15, 16, 17, 18] (fun s a b u wr => ∃ k nq : Nat, k ≤ n ∧ u = .int .i64 k ∧ s = .int .i64 (bias + psum (fun k => ws.getD k 0 * (vF xs lo hi k - z)) k) ∧ a = .int .i64 (bias + psum (dnF ws lo hi z false) k) ∧ b = .int .i64 (bias + psum (upF ws lo hi z false) k) ∧ Hid (wr = W2.drewN nq)) (fun _ _ _ u _ => n - (intOf u).toNat)
  case atStart => exact ⟨0, 0, Nat.zero_le _, rfl, by simp [psum], by simp [psum], by simp [psum], Lib.hid rfl⟩
  case round =>
    obtain ⟨k, nq, hk, rfl, rfl, rfl, rfl, hwr⟩ := hrel
    obtain rfl := hwr.out
    clear hwr
    by_cases hlt : k < n
    · obtain ⟨ba, oa, rfl, hba, hca⟩ := ints_getD HR.out (j := 0) (by have := HN.out; omega)
      obtain ⟨bb, ob, rfl, hbb, hcb⟩ := ints_getD HRX.out (j := 0) (by have := HNX.out; omega)
      have hcx := (HB1.out.cell (p := ⟨ba, oa + k, none⟩) hba).trans (hca k (by have := HN.out; omega))
      have hcy := (HB1.out.cell (p := ⟨bb, ob + k, none⟩) hbb).trans (hcb k (by have := HNX.out; omega))
      have hk0 : (0 : Int) ≤ (k : Int) := by omega
      have hkn : (k : Int) < (n : Int) := by omega
      have hkx : (k : Int) < (nx : Int) := by omega
      obtain ⟨y1, y2⟩ := HW.out k
      obtain ⟨x1, x2⟩ := HU.out k
      obtain ⟨v1, v2⟩ := vF_bd hlo x1
      obtain ⟨s1, s2⟩ := HSB.out k
      obtain ⟨d1, d2⟩ := HDB.out k
      obtain ⟨u1, u2⟩ := HUB.out k
      have S1 := Lib.hid (show bias + psum (fun k => ws.getD k 0 * (vF xs lo hi k - z)) (k + 1) = bias + psum (fun k => ws.getD k 0 * (vF xs lo hi k - z)) k + ws.getD k 0 * (vF xs lo hi k - z) by simp only [psum]; omega)
      have S2 := Lib.hid (show bias + psum (dnF ws lo hi z false) (k + 1) = bias + psum (dnF ws lo hi z false) k + dnF ws lo hi z false k by simp only [psum]; omega)
      have S3 := Lib.hid (show bias + psum (upF ws lo hi z false) (k + 1) = bias + psum (upF ws lo hi z false) k + upF ws lo hi z false k by simp only [psum]; omega)
      have m1 := mul_255 y1 y2 (show -128 ≤ vF xs lo hi k by omega) (show vF xs lo hi k ≤ 127 by omega) z1 z2
      have m2 := mul_255 y1 y2 l1 l2 z1 z2
      have m3 := mul_255 y1 y2 h1 h2 z1 z2
      obtain ⟨P1, hP1⟩ : ∃ P, bias + psum (fun k => ws.getD k 0 * (vF xs lo hi k - z)) k = P := ⟨_, rfl⟩
      obtain ⟨P2, hP2⟩ : ∃ P, bias + psum (dnF ws lo hi z false) k = P := ⟨_, rfl⟩
      obtain ⟨P3, hP3⟩ : ∃ P, bias + psum (upF ws lo hi z false) k = P := ⟨_, rfl⟩
      have bP : (-40000000000 ≤ P1 ∧ P1 ≤ 40000000000) ∧ (-40000000000 ≤ P2 ∧ P2 ≤ 40000000000) ∧ (-40000000000 ≤ P3 ∧ P3 ≤ 40000000000) := by omega
      rw [hP1, hP2, hP3]
      rw [hP1] at S1
      rw [hP2] at S2
      rw [hP3] at S3
      obtain ⟨⟨p1, p2⟩, ⟨p3, p4⟩, ⟨p5, p6⟩⟩ := bP
      have hvd : vF xs lo hi k = lo + (xs.getD k 0).tmod (hi - lo + 1) := rfl
      obtain ⟨D, hD⟩ : ∃ D, hi - lo + 1 = D := ⟨_, rfl⟩
      rw [hD] at hvd
      have hD0 : ¬ D = 0 := by omega
      have hD1 : 1 ≤ D := by omega
      have hD2 : D ≤ 256 := by omega
      have hDc := fun h => dnF_neg (ws := ws) (z := z) (k := k) hlo h
      have hUc := fun h => dnF_pos (ws := ws) (z := z) (k := k) hlo h
      generalize dnF ws lo hi z false k = dn at S2 hDc hUc
      generalize upF ws lo hi z false k = up at S3 hDc hUc
      generalize vF xs lo hi k = vv at v1 v2 m1 S1 hvd
      obtain ⟨q, hq⟩ : ∃ q, (xs.getD k 0).tmod D = q := ⟨_, rfl⟩
      rw [hq] at hvd
      have HH := Lib.hid (And.intro hDc hUc)
      generalize ws.getD k 0 = y at hcx y1 y2 m1 m2 m3 S1 HH
      generalize xs.getD k 0 = xx at hcy x1 x2 hq
      obtain ⟨mv, hmv⟩ : ∃ m, y * (vv - z) = m := ⟨_, rfl⟩
      obtain ⟨ml, hml⟩ : ∃ m, y * (lo - z) = m := ⟨_, rfl⟩
      obtain ⟨mh, hmh⟩ : ∃ m, y * (hi - z) = m := ⟨_, rfl⟩
      rw [hmv] at m1 S1
      rw [hml] at m2
      rw [hmh] at m3
      rw [hml, hmh] at HH
      obtain ⟨m1a, m1b⟩ := m1
      obtain ⟨m2a, m2b⟩ := m2
      obtain ⟨m3a, m3b⟩ := m3
      have e1 : IntKind.i64.wrap y = y := IntWalk.i64_in _ (by omega)
      have e2 : IntKind.i64.wrap lo = lo := IntWalk.i64_in _ (by omega)
      have e3 : IntKind.i64.wrap hi = hi := IntWalk.i64_in _ (by omega)
      have e4 : IntKind.i64.wrap z = z := IntWalk.i64_in _ (by omega)
      have e5 : IntKind.i64.wrap xx = xx := IntWalk.i64_in _ (by omega)
      have e6 : IntKind.i64.wrap (hi - lo) = hi - lo := IntWalk.i64_in _ (by omega)
      have e7 : IntKind.i64.wrap (hi - lo + 1) = D := by rw [hD]; exact IntWalk.i64_in _ (by omega)
      have e8 : IntKind.i64.wrap q = q := IntWalk.i64_in _ (by omega)
      have e9 : IntKind.i64.wrap (lo + q) = vv := by rw [← hvd]; exact IntWalk.i64_in _ (by omega)
      have e10 : IntKind.i64.wrap (vv - z) = vv - z := IntWalk.i64_in _ (by omega)
      have e11 : IntKind.i64.wrap (lo - z) = lo - z := IntWalk.i64_in _ (by omega)
      have e12 : IntKind.i64.wrap (hi - z) = hi - z := IntWalk.i64_in _ (by omega)
      have e13 : IntKind.i64.wrap (y * (vv - z)) = mv := by rw [hmv]; exact IntWalk.i64_in _ (by omega)
      have e14 : IntKind.i64.wrap (y * (lo - z)) = ml := by rw [hml]; exact IntWalk.i64_in _ (by omega)
      have e15 : IntKind.i64.wrap (y * (hi - z)) = mh := by rw [hmh]; exact IntWalk.i64_in _ (by omega)
      have HVD := Lib.hid hvd
      clear hP1 hP2 hP3 hD hmv hml hmh hDc hUc hca hcb s1 s2 d1 d2 u1 u2 hvd
      by_cases hy : y < 0
      · obtain ⟨hdn, hup⟩ := HH.out.1 hy
        have SD := Lib.hid (show P2 + mh = P2 + dn by rw [hdn])
        have SU := Lib.hid (show P3 + ml = P3 + up by rw [hup])
        clear hdn hup HH
        go_wp2_with fail
        go_quiet (fail)
        go_wp2
        go_roundw
        case rel => exact ⟨k + 1, _, by omega, by go_num, congrArg _ S1.out.symm, congrArg _ (SD.out.trans S2.out.symm), congrArg _ (SU.out.trans S3.out.symm), Lib.hid rfl⟩
        case measure => simp [intOf]; omega
      · obtain ⟨hdn, hup⟩ := HH.out.2 (by omega)
        have SD := Lib.hid (show P2 + ml = P2 + dn by rw [hdn])
        have SU := Lib.hid (show P3 + mh = P3 + up by rw [hup])
        clear hdn hup HH
        go_wp2_with fail
        go_quiet (fail)
        go_wp2
        go_roundw
        case rel => exact ⟨k + 1, _, by omega, by go_num, congrArg _ S1.out.symm, congrArg _ (SD.out.trans S2.out.symm), congrArg _ (SU.out.trans S3.out.symm), Lib.hid rfl⟩
        case measure => simp [intOf]; omega
    · obtain rfl : k = n := by omega
      rw [HX.out, HY.out, HS.out]
      obtain ⟨i1, i2, i3, i4, i5, i6⟩ := IS.out
      have c0 : (W2.drewN nq).cell? ⟨g1, 0, none⟩ = some (.int .i64 X) := C0.out
      have c1 : (W2.drewN nq).cell? ⟨g1, 1, none⟩ = some (.int .i64 Y) := C1.out
      have c2 : (W2.drewN nq).cell? ⟨g2, 0, none⟩ = some (.int .i64 X') := C2.out
      have c3 : (W2.drewN nq).cell? ⟨g2, 1, none⟩ = some (.int .i64 Y') := C3.out
      have HBZ := Lib.hid (Kit.below_drewN HB1.out nq)
      generalize W2.drewN nq = W3 at c0 c1 c2 c3 HBZ ⊢
      have eb : IntKind.i64.wrap bias = bias := IntWalk.i64_in _ (by omega)
      have g1' : S ≥ X := i1
      have g2' : Y' ≥ Y := i4
      have g3' : Y' ≥ bias := i6
      clear HX HY HS IS HB1
      go_wp2_with (go_at_call 7; (refine (known24 _).mono ?_); rintro e w9 ⟨rfl, hb9⟩)
      go_ret
      exact ⟨rfl, HBZ.out.trans (hb9.mono HBZ.out.size)⟩
theorem walk {w : World} (A : Option Addr) (ws : List Int) (c : Nat) (hc : ws.length ≤ c) (hm : c ≤ maxLen) (hw : ∀ n ∈ ws, (Lit.int .i8 n).wf = true) (hr : Kit.Rd w w.heap.size A (ws.map (.int .i8)))
    (B : Option Addr) (xs : List Int) (d : Nat) (hc' : xs.length ≤ d) (hm' : d ≤ maxLen) (hw' : ∀ n ∈ xs, (Lit.int .u8 n).wf = true) (hr' : Kit.Rd w w.heap.size B (xs.map (.int .u8)))
    (bias : Int) (wb : (Lit.int .i32 bias).wf = true) (lo : Int) (wl : (Lit.int .i8 lo).wf = true) (hi : Int) (wh : (Lit.int .i8 hi).wf = true) (z : Int) (wz : (Lit.int .i8 z).wf = true) :
    Calls Try.prog 5 #[.slice A ws.length c, .slice B xs.length d, .int .i32 bias, .int .i8 lo, .int .i8 hi, .int .i8 z] w fun e w' => e = .returned (.bool true) ∧ Below w.heap.size w w' := by
  by_cases hf : 300 < ws.length ∨ xs.length < ws.length ∨ hi < lo
  · exact walk_no A B _ c _ d bias lo hi z hf
  · have ⟨b1, b2⟩ : -2147483648 ≤ bias ∧ bias ≤ 2147483647 := by simpa [Lit.wf, IntKind.min, IntKind.max, IntKind.signed, IntKind.bits] using wb
    have ⟨l1, l2⟩ : -128 ≤ lo ∧ lo ≤ 127 := by simpa [Lit.wf, IntKind.min, IntKind.max, IntKind.signed, IntKind.bits] using wl
    have ⟨h1, h2⟩ : -128 ≤ hi ∧ hi ≤ 127 := by simpa [Lit.wf, IntKind.min, IntKind.max, IntKind.signed, IntKind.bits] using wh
    have ⟨z1, z2⟩ : -128 ≤ z ∧ z ≤ 127 := by simpa [Lit.wf, IntKind.min, IntKind.max, IntKind.signed, IntKind.bits] using wz
    exact walk_yes A B ws xs _ c _ d rfl rfl (i8b_of hw) (u8b_of hw') bias lo hi z b1 b2 l1 l2 h1 h2 z1 z2 (by omega) (by omega) (by omega) hr hr'
/-! ### the frame: written by program -/
theorem own : ownKnob Try.prog.godebug = none := by kernel_rfl
theorem laid : laidOutB Try.prog = true := by kernel_rfl
theorem contract {H : Type} {enc : TypeId × Value → H} {W : World} {base : Nat} {args : Array Value} {ds gs : List (DataW H)} {before : List MemPlace}
    (hval0 : ∀ (j : Nat) t v, Try.f5.params[j]? = some t → args[j]? = some v → Value.okWide Try.prog W .any base t v)
    (hW : DataW.Whole enc Try.prog Try.f5.params.toList Rows.spanReachedSpec.vars false W args.toList ds gs before) :
    Calls Try.prog 5 args W fun e W' => e = .returned (.bool true) ∧ Below W.heap.size W W' := by
  have hval : ∀ (j : Nat) t v, Try.f5.params[j]? = some t → args[j]? = some v → Value.okWide Try.prog W .any base t v := hval0
  obtain ⟨p, q, hA0, hV, rfl, hfz, hnd⟩ := hW
  have hA : DataW.TrodAll enc Try.prog W 0 (fun _ => true) true Try.f5.params.toList args.toList ds p := hA0
  rw [Try.params5] at hA hval
  obtain ⟨v0, vs0, d0, ds0, p0, q0, hargs, rfl, rfl, h0, r0⟩ := trodAll_cons hA
  obtain ⟨v1, vs1, d1, ds1, p1, q1, rfl, rfl, rfl, h1, r1⟩ := trodAll_cons r0
  obtain ⟨v2, vs2, d2, ds2, p2, q2, rfl, rfl, rfl, h2, r2⟩ := trodAll_cons r1
  obtain ⟨v3, vs3, d3, ds3, p3, q3, rfl, rfl, rfl, h3, r3⟩ := trodAll_cons r2
  obtain ⟨v4, vs4, d4, ds4, p4, q4, rfl, rfl, rfl, h4, r4⟩ := trodAll_cons r3
  obtain ⟨v5, vs5, d5, ds5, p5, q5, rfl, rfl, rfl, h5, r5⟩ := trodAll_cons r4
  obtain ⟨rfl, rfl, rfl⟩ := trodAll_nil r5
  obtain rfl : args = #[v0, v1, v2, v3, v4, v5] := by cases args; simp_all
  clear hA0 hval0
  obtain ⟨A0, z0, c0, rfl, hc0, hm0, hw0, hr0⟩ := Kit.open_islice Try.underlying23 Try.underlying22 (by kernel_rfl) (hval 0 23 v0 rfl rfl) h0
  obtain ⟨A1, z1, c1, rfl, hc1, hm1, hw1, hr1⟩ := Kit.open_islice Try.underlying45 Try.underlying5 (by kernel_rfl) (hval 1 45 v1 rfl rfl) h1
  obtain ⟨a2, rfl, rfl, rfl, w2⟩ := open_int Try.underlying21 (hval 2 21 v2 rfl rfl) h2
  obtain ⟨a3, rfl, rfl, rfl, w3⟩ := open_int Try.underlying22 (hval 3 22 v3 rfl rfl) h3
  obtain ⟨a4, rfl, rfl, rfl, w4⟩ := open_int Try.underlying22 (hval 4 22 v4 rfl rfl) h4
  obtain ⟨a5, rfl, rfl, rfl, w5⟩ := open_int Try.underlying22 (hval 5 22 v5 rfl rfl) h5
  exact walk (w := W) A0 z0 c0 hc0 hm0 hw0 hr0 A1 z1 c1 hc1 hm1 hw1 hr1 a2 w2 a3 w3 a4 w4 a5 w5
theorem fnIs {H : Type} : ∀ ds : List (DataW H), ds.length = Try.f5.params.toList.length → Rows.spanReachedSpec.fn H ds = { results := [.lit (.bool true)], args := ds } := by
  intro ds h
  rw [Try.params5] at h
  match ds, h with
  | [d1, d2, d3, d4, d5, d6], _ => rfl
set_option maxRecDepth 100000 in
theorem lifted (os : Os) (started : os.Started) (H : Type) (enc : TypeId × Value → H) :
    ReturnsInHanded {} Try.checked os 5 .any (Rows.spanReachedSpec.pre6 enc Try.prog Try.f5 Rows.spanReachedRow.domain false) (Rows.spanReachedSpec.post enc Try.prog Try.f5 false true false false) := by
  refine returnsInHanded_of_change (C := Try.checked) own started (by kernel_rfl) Try.func5
    (ChangeSpec.witness6 (enc := enc) (C := Try.checked) false ⟨#[], #[.slice none 0 0, .slice none 0 0, .int .i32 0, .int .i8 0, .int .i8 0, .int .i8 0], []⟩ 8 (by kernel_rfl) (by kernel_rfl) (by kernel_rfl) (by kernel_rfl)) ?_
  intro W base args ds gs before hval hW _ _
  refine (contract hval hW).mono fun e W' ⟨he, hg⟩ => ?_
  subst he
  exact ⟨_, rfl, Kit.law_post (tb := 4) laid (by kernel_rfl) rfl (by kernel_rfl) Try.underlying4 fnIs hW hg⟩
theorem over : Rows.spanReachedRow.holds Try.pinned (OpenSpec.ofChange Rows.spanReachedSpec) :=
  OpenClaim.holds_of_wide 5 Try.f5 rfl rfl rfl rfl rfl rfl rfl ⟨rfl, rfl, rfl, rfl, rfl⟩ rfl rfl rfl rfl rfl (by kernel_rfl) Try.func5 (by kernel_rfl)
    (of_decide_eq_true (by kernel_rfl)) (by unfold Func.isWrapper; first | (rw [if_pos (by decide +kernel)]; kernel_rfl) | (rw [if_neg (by decide +kernel)]; exact ⟨rfl, rfl⟩))
    (fun os started H enc _ => lifted os started H enc)
/-- the statement. -/
theorem proved : Rows.SpanReachedSaid :=
  over
end Go.Proofs.Ytaoadgolplnedaa.lawSpanReached
