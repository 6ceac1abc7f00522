/- Layer 18 (dense): a row of weights multiplied by a closure; a line of sums (code). -/
import Derived.Test.YtmnhcmkcdchmkaaConvOf
import Derived.BigQuiet
import Derived.Laws.MakeOwn
namespace Go.Proofs.Ytmnhcmkcdchmkaa.CDense
open Go Go.ChangeShapes Go.WideShapes Go.ChangeAt Go.RowKit
open Plain CSat CShape CTensor CConv
set_option linter.unusedVariables false

theorem term00 (zs ws : List Int) (Z : Int) (k : Nat) : termF zs ws 0 0 Z k = ws.getD k 0 * (zs.getD k 0 - Z) := by unfold termF; rw [Nat.zero_add]
set_option maxRecDepth 100000 in
set_option maxHeartbeats 2000000 in
theorem weigh_to (A : Option Addr) (zs : List Int) (n c : Nat) (hn : zs.length = n) (hn2 : n ≤ 1000000) (hz : I8b zs) (WA : Option Addr) (ws : List Int) (m cW : Nat) (hws : ws.length = m) (hm : n ≤ m) (hwb : I8b ws) (Z : Int) (z1 : -128 ≤ Z) (z2 : Z ≤ 127)
    (bx bz : Nat) (w : World) (hx : w.cell? ⟨bx, 0, none⟩ = some (.slice A n c)) (hzc : w.cell? ⟨bz, 0, none⟩ = some (.int .i8 Z)) {B1 B2 : Nat} (hr : Kit.Rd w B1 A (I8s zs)) (hrw : Kit.Rd w B2 WA (I8s ws)) (R : Int) (hR : IntKind.i32.wrap (psum (termF zs ws 0 0 Z) n) = R) :
    Calls Try.prog 30 #[.slice WA m cW, .pointer (some ⟨bx, 0, none⟩), .pointer (some ⟨bz, 0, none⟩)] w fun e w' => e = .returned (.int .i32 R) ∧ ∃ q, w' = w.drewN q := by
  have HR := Lib.hid hR
  have HA := Lib.hid hr
  have HB := Lib.hid hrw
  have HZ := Lib.hid hz
  have HWB := Lib.hid hwb
  have HN := Lib.hid hn
  have HWS := Lib.hid hws
  have HX := Lib.hid hx
  clear hR hr hrw hz hwb hn hws
  go_enter Try.func30, Try.ntmps30
  go_wp2_with fail
  clear hx
  go_loopw [5, 10] (fun s u wr => ∃ k nq : Nat, k ≤ n ∧ u = .int .i64 k ∧ s = .int .i32 (IntKind.i32.wrap (psum (termF zs ws 0 0 Z) k)) ∧ Hid (wr = w.drewN nq)) (fun _ u _ => n - (intOf u).toNat)
  case atStart => exact ⟨0, 0, Nat.zero_le _, rfl, congrArg (Value.int .i32) (by simp [psum, IntKind.wrap_i32]), Lib.hid rfl⟩
  case round =>
    obtain ⟨k, nq, hk, rfl, rfl, hw⟩ := hrel
    obtain rfl := hw.out
    clear hw
    by_cases hlt : k < n
    · obtain ⟨b1, o1, rfl, _, hcx0⟩ := ints_getD HA.out (j := 0) (by have := HN.out; omega)
      obtain ⟨b2, o2, rfl, _, hcy0⟩ := ints_getD HB.out (j := 0) (by have := HWS.out; omega)
      have hcx := hcx0 k (by have := HN.out; omega)
      have hcy := hcy0 k (by have := HWS.out; omega)
      clear hcx0 hcy0
      have hk0 : (0 : Int) ≤ (k : Int) := by omega
      have hkn : (k : Int) < (n : Int) := by omega
      have hkm : (k : Int) < (m : Int) := by omega
      obtain ⟨x1, x2⟩ := HZ.out k
      obtain ⟨y1, y2⟩ := HWB.out k
      obtain ⟨t1, t2⟩ := term_bd x1 x2 y1 y2 z1 z2
      have hnext : IntKind.i32.wrap (IntKind.i32.wrap (psum (termF zs ws 0 0 Z) k) + ws.getD k 0 * (zs.getD k 0 - Z)) = IntKind.i32.wrap (psum (termF zs ws 0 0 Z) (k + 1)) := by
        rw [wrap32_add]; simp only [psum]; rw [term00]
      generalize zs.getD k 0 = x at hcx x1 x2 t1 t2 hnext
      generalize ws.getD k 0 = y at hcy y1 y2 t1 t2 hnext
      obtain ⟨u1, hu1⟩ : ∃ u1, IntKind.i32.wrap (psum (termF zs ws 0 0 Z) k) = u1 := ⟨_, rfl⟩
      obtain ⟨u2, hu2⟩ : ∃ u2, IntKind.i32.wrap (psum (termF zs ws 0 0 Z) (k + 1)) = u2 := ⟨_, rfl⟩
      have HU2 := Lib.hid hu2
      rw [hu1, hu2] at hnext
      rw [hu1]
      have e1 : IntKind.i32.wrap x = x := IntWalk.i32_in _ (by omega)
      have e2 : IntKind.i32.wrap y = y := IntWalk.i32_in _ (by omega)
      have e3 : IntKind.i32.wrap Z = Z := IntWalk.i32_in _ (by omega)
      have e4 : IntKind.i32.wrap (x - Z) = x - Z := IntWalk.i32_in _ (by omega)
      have e5 : IntKind.i32.wrap (y * (x - Z)) = y * (x - Z) := IntWalk.i32_in _ (by omega)
      clear hu1 hu2 t1 t2
      go_wp2_with fail
      go_quiet (fail)
      go_wp2
      go_roundw
      case rel => exact ⟨k + 1, _, by omega, by go_num, congrArg _ HU2.out.symm, Lib.hid rfl⟩
      case measure => simp [intOf]; omega
    · obtain rfl : k = n := by omega
      rw [HR.out]
      go_wp2_with fail
      go_ret
      exact ⟨rfl, nq, rfl⟩

theorem weighing_to (A : Option Addr) (n c : Nat) (Z : Int) (w : World) :
    Calls Try.prog 23 #[.slice A n c, .int .i8 Z] w fun e w' => e = .returned (.func (.func 30) #[] #[.pointer (some ⟨w.heap.size, 0, none⟩), .pointer (some ⟨w.heap.size + 1, 0, none⟩)]) ∧ w' = (w.alloc (.cells #[.slice A n c] 24)).alloc (.cells #[.int .i8 Z] 46) := by
  go_enter Try.func23, Try.ntmps23
  go_wp2_with fail
  go_ret
  exact ⟨rfl, rfl⟩
/-- a row of which the first o are made. -/
def madeD (F : Nat → Int) (o i : Nat) : Int := if i < o then F i else 0
theorem made_zero (F : Nat → Int) (N : Nat) : I32v (rowL (madeD F 0) N) = List.replicate N (.int .i32 0) := by
  refine List.ext_getElem (by simp [I32v, rowL]) fun i h1 h2 => ?_
  simp [I32v, rowL, madeD]
theorem made_all (F : Nat → Int) (N : Nat) : rowL (madeD F N) N = rowL F N := by
  refine List.ext_getElem (by simp [rowL]) fun i h1 h2 => ?_
  have : i < N := by simpa [rowL] using h1
  simp [rowL, madeD, this]
theorem made_set (F : Nat → Int) {N o : Nat} (v : Int) (hv : F o = v) : (I32v (rowL (madeD F o) N)).set o (.int .i32 v) = I32v (rowL (madeD F (o + 1)) N) := by
  refine List.ext_getElem (by simp [I32v, rowL]) fun i h1 h2 => ?_
  rw [List.getElem_set]
  by_cases e : o = i
  · subst e
    rw [if_pos rfl]
    simp [I32v, rowL, madeD, hv]
  · rw [if_neg e]
    simp only [I32v, rowL, List.map_map, List.getElem_map, List.getElem_range, Function.comp, madeD]
    by_cases h : i < o
    · rw [if_pos h, if_pos (by omega)]
    · rw [if_neg h, if_neg (by omega)]
def lineF (zs ws bs : List Int) (n : Nat) (Z : Int) (o : Nat) : Int := IntKind.i32.wrap (bs.getD o 0 + psum (termF zs ws 0 (o * n) Z) n)
theorem info_i32d : (Try.prog.info? 21).map (fun i => (i.zero, i.size, i.bytes)) = some (some (.int .i32 0), 1, 4) := by kernel_rfl
/-- a call that hands back a list of its own. -/
def Owned (w : World) (T n : Nat) (xs : List Value) (e : Ending) (w' : World) : Prop :=
  ∃ v, e = .returned v ∧ w'.ownsRow w.heap.size T 1 v n xs ∧ Below w.heap.size w w'
set_option maxRecDepth 100000 in
set_option maxHeartbeats 4000000 in
theorem line_yes (A : Option Addr) (zs : List Int) (n c : Nat) (hn : zs.length = n) (hn1 : 1 ≤ n) (hn2 : n ≤ 1000000) (hz : I8b zs) (WA : Option Addr) (ws : List Int) (nW cW : Nat) (hws : ws.length = nW) (hwc : nW ≤ cW) (hwb : I8b ws)
    (BA : Option Addr) (bs : List Int) (nB cB : Nat) (hbs : bs.length = nB) (hB1 : 1 ≤ nB) (hB2 : nB ≤ 1000000) (hnW : n * nB = nW) (hW2 : nW ≤ 1000000) (Z : Int) (z1 : -128 ≤ Z) (z2 : Z ≤ 127) (F : Nat → Int) (hF : ∀ o, lineF zs ws bs n Z o = F o)
    (w : World) (hr : Kit.Rd w w.heap.size A (I8s zs)) (hrw : Kit.Rd w w.heap.size WA (I8s ws)) (hrb : Kit.Rd w w.heap.size BA (I32v bs)) :
    Calls Try.prog 13 #[.slice A n c, .slice WA nW cW, .slice BA nB cB, .int .i8 Z] w (Owned w 21 nB (I32v (rowL F nB))) := by
  obtain ⟨bw, ow, rfl, hbw, -⟩ := ints_getD hrw (j := 0) (by rw [hws, ← hnW]; exact Nat.mul_pos (by omega) (by omega))
  obtain ⟨bb, ob, rfl, hbb, hcb⟩ := ints_getD hrb (j := 0) (by omega)
  have hN0 : (n : Int) ≠ 0 := by omega
  have hN0b : ((n : Int) == 0) = false := by simp; omega
  have hB0b : ((nB : Int) == 0) = false := by simp; omega
  have hmulw : IntKind.i64.wrap ((n : Int) * (nB : Int)) = (nW : Int) := by rw [← Int.natCast_mul, hnW]; exact IntWalk.i64_in _ (by omega)
  have HN := Lib.hid hn
  have HZ := Lib.hid hz
  have HWS := Lib.hid hws
  have HWB := Lib.hid hwb
  have HNW := Lib.hid hnW
  have HF := Lib.hid hF
  have HR := Lib.hid hr
  have HRW := Lib.hid hrw
  have HCB := Lib.hid hcb
  have HBS := Lib.hid hbs
  clear hn hz hws hwb hnW hF hr hrw hcb hrb hbs
  go_enter Try.func13, Try.ntmps13
  obtain ⟨i0, hi0, hi1, hi2, hi3⟩ := info_parts32 info_i32d
  go_wp2_with (first
    | (go_at_call 23; (refine (weighing_to A n c Z _).mono ?_); rintro e w1 ⟨rfl, hw1⟩; subst hw1)
    | (at_make; refine wpList_make_full _ rfl (.tmp 35) (.tmp 35) _ rfl (w.heap.size + 2) 21 i0 (.int .i32 0) 1 Try.underlying27 hi0 hi1 hi2 .i64 .i64 _ _ nB rfl rfl rfl rfl (by rw [hi3]; omega) (by unfold maxLen; omega) (by simp) ?_; intro w2 hown hg2))
  have hB2 : Below (w.heap.size + 2) ((w.alloc (.cells #[.slice A n c] 24)).alloc (.cells #[.int .i8 Z] 46)) w2 :=
    (Below.refl _ _).grown hg2 (by simp) (fun q hq => by cases hq)
  rw [show (madeCells (Value.int IntKind.i32 0).cells (nB * 1)).toList = List.replicate nB (.int .i32 0) by rw [Nat.mul_one]; exact toList_madeCells_one _ _] at hown
  have c0 : w2.cell? ⟨w.heap.size, 0, none⟩ = some (.slice A n c) := (hB2.cell (p := ⟨w.heap.size, 0, none⟩) (by simp)).trans ((World.cell?_alloc_lt _ _ _ (by simp)).trans (Kit.new_cell _ _ _ _))
  have c1 : w2.cell? ⟨w.heap.size + 1, 0, none⟩ = some (.int .i8 Z) := (hB2.cell (p := ⟨w.heap.size + 1, 0, none⟩) (by simp)).trans (by have := Kit.new_cell (w.alloc (.cells #[.slice A n c] 24)) #[.int .i8 Z] 46 0; rw [World.size_alloc] at this; exact this)
  have hB0 : Below w.heap.size w w2 := (((Below.refl _ _).alloc (Nat.le_refl _) _).alloc (by simp) _).trans (hB2.mono (by omega))
  have hgs : ((w.alloc (.cells #[.slice A n c] 24)).alloc (.cells #[.int .i8 Z] 46)).heap.size = w.heap.size + 2 := by simp
  simp only [World.size_alloc] at hown
  rw [← made_zero F nB] at hown
  have HOWN := Lib.hid hown
  have C0 := Lib.hid c0
  have C1 := Lib.hid c1
  have HB0 := Lib.hid hB0
  have hs2 : w.heap.size + 2 ≤ w2.heap.size := by have := hB2.size; rw [hgs] at this; exact this
  clear hown c0 c1 hB0 hB2 hg2 hi0 hi1 hi2 hi3
  go_loopw [39] (fun u wr => ∃ o : Nat, o ≤ nB ∧ u = .int .i64 o ∧ Hid (wr.ownsRow (w.heap.size + 2) 21 1 (.slice (some ⟨w.heap.size + 1 + 1, 0, none⟩) nB nB) nB (I32v (rowL (madeD F o) nB))) ∧ Hid (Below (w.heap.size + 2) w2 wr)) (fun u _ => nB - (intOf u).toNat)
  case atStart => exact ⟨0, Nat.zero_le _, rfl, HOWN, Lib.hid (Below.refl _ _)⟩
  case round =>
    obtain ⟨o, ho, rfl, HO, HB⟩ := hrel
    clear HOWN
    by_cases hlt : o < nB
    · have hbt := HB.out
      have k0 : wr.cell? ⟨w.heap.size, 0, none⟩ = some (.slice A n c) := (hbt.cell (p := ⟨w.heap.size, 0, none⟩) (by simp)).trans C0.out
      have k1 : wr.cell? ⟨w.heap.size + 1, 0, none⟩ = some (.int .i8 Z) := (hbt.cell (p := ⟨w.heap.size + 1, 0, none⟩) (by simp)).trans C1.out
      have hbw2 : Below w.heap.size w wr := HB0.out.trans (hbt.mono (by omega))
      have kb : wr.cell? ⟨bb, ob + o, none⟩ = some (.int .i32 (bs.getD o 0)) := (hbw2.cell (p := ⟨bb, ob + o, none⟩) hbb).trans (HCB.out o (by have := HBS.out; omega))
      have hle : o * n + n ≤ nW := by
        rw [← HNW.out, Nat.mul_comm n nB]
        have := Nat.mul_le_mul_right n (show o + 1 ≤ nB by omega)
        rwa [Nat.add_mul, Nat.one_mul] at this
      have hv : IntKind.i32.wrap (bs.getD o 0 + IntKind.i32.wrap (psum (termF zs (ws.drop (o * n)) 0 0 Z) n)) = F o := by
        rw [wrap32_add', drop_term]; exact HF.out o
      obtain ⟨R1, hR1⟩ : ∃ R1, IntKind.i32.wrap (psum (termF zs (ws.drop (o * n)) 0 0 Z) n) = R1 := ⟨_, rfl⟩
      rw [hR1] at hv
      obtain ⟨v, hvF⟩ : ∃ v, F o = v := ⟨_, rfl⟩
      rw [hvF] at hv
      obtain ⟨P, hP⟩ : ∃ P, o * n = P := ⟨_, rfl⟩
      have hmul : IntKind.i64.wrap ((o : Int) * (n : Int)) = (P : Int) := by rw [← Int.natCast_mul, hP]; exact IntWalk.i64_in _ (by omega)
      have hwt := fun (w' : World) (h1 : w'.cell? ⟨w.heap.size, 0, none⟩ = some (.slice A n c)) (h2 : w'.cell? ⟨w.heap.size + 1, 0, none⟩ = some (.int .i8 Z)) (h3 : Kit.Rd w' w.heap.size A (I8s zs)) (h4 : Kit.Rd w' w.heap.size (some ⟨bw, ow + o * n, none⟩) (I8s (ws.drop (o * n)))) =>
        weigh_to A zs n c HN.out hn2 HZ.out (some ⟨bw, ow + o * n, none⟩) (ws.drop (o * n)) (nW - o * n) (cW - o * n) (by rw [List.length_drop, HWS.out]) (by omega) (drop_I8b HWB.out _) Z z1 z2 w.heap.size (w.heap.size + 1) w' h1 h2 h3 h4 R1 hR1
      have hdrop := (HRW.out.below hbw2).drop (o * n)
      rw [i8s_drop, show (Option.map (fun a : Addr => a.add (o * n)) (some ⟨bw, ow, none⟩)) = some (⟨bw, ow + o * n, none⟩ : Addr) by rw [Option.map_some, Go.WideShapes.add_plain]] at hdrop
      rw [hP] at hwt hdrop hle
      have HWT := Lib.hid hwt
      have HDR := Lib.hid hdrop
      have HRD := Lib.hid (HR.out.below hbw2)
      have hst := fun q => (Kit.own_below HO.out (Kit.below_drewN (Below.refl wr.heap.size wr) q)).stored o (.int .i32 v)
      rw [made_set F v hvF] at hst
      have HST := Lib.hid hst
      have ks : ∃ x, wr.cell? ⟨w.heap.size + 1 + 1, o, none⟩ = some x := ⟨_, (HO.out.cellAt o (by omega)).trans (List.getElem?_eq_getElem (by simp [I32v, rowL]; exact hlt))⟩
      obtain ⟨x0, ks⟩ := ks
      have fs : wr.frozen? ⟨w.heap.size + 1 + 1, o, none⟩ = false := HO.out.frozenAt o
      have h0 : (0 : Int) ≤ (o : Int) := by omega
      have h1 : (o : Int) < (nB : Int) := by omega
      have p0 : (0 : Int) ≤ (P : Int) := by omega
      have p1 : (P : Int) ≤ (nW : Int) := by omega
      have p2 : (P : Int) ≤ (cW : Int) := by omega
      have p3 : ¬ cW = P := by omega
      have p4 : ¬ P = cW := by omega
      generalize bs.getD o 0 = b0 at kb hv
      clear hwt hdrop hbt hbw2 hR1 hvF hP hst
      have K0 := Lib.hid k0
      have K1 := Lib.hid k1
      clear k0 k1
      go_wp2_with (go_at_call 30; (refine (HWT.out _ K0.out K1.out HRD.out HDR.out).mono ?_); rintro e w3 ⟨rfl, q, rfl⟩)
      go_roundw
      case rel => exact ⟨o + 1, by omega, by go_num, Lib.hid (HST.out q).1, Lib.hid ((Kit.below_drewN HB.out q).setCell (by simp) _)⟩
      case measure => simp [intOf]; omega
    · obtain rfl : o = nB := by omega
      have hfin := HO.out
      rw [made_all] at hfin
      have HFI := Lib.hid hfin
      clear hfin
      go_wp2_with fail
      go_ret
      exact ⟨_, rfl, Kit.own_base HFI.out (by omega), HB0.out.trans (HB.out.mono (by omega))⟩
end Go.Proofs.Ytmnhcmkcdchmkaa.CDense
