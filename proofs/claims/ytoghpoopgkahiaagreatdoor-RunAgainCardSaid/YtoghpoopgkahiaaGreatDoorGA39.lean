/- Texts of this seat, one behind the other: Dense, KindSame, DepthBoth, PoolMean, JoinAll, ActSums, PadBoth. -/
import Derived.BigQuiet
import Derived.Laws.MakeOwn
import Derived.Laws.StructEq
import Derived.Deep.CutRange
import Derived.Deep.RegionHeld3
import Derived.Deep.MidRow
import Derived.Test.YtoghpoopgkahiaaGreatDoorGA5
import Derived.Test.YtoghpoopgkahiaaGreatDoorGA7
import Derived.Test.YtoghpoopgkahiaaGreatDoorGA8
import Derived.Test.YtoghpoopgkahiaaGreatDoorGA9
import Derived.Test.YtoghpoopgkahiaaGreatDoorGA12
import Derived.Test.YtoghpoopgkahiaaGreatDoorGA13
import Derived.Test.YtoghpoopgkahiaaGreatDoorGA14
import Derived.Test.YtoghpoopgkahiaaGreatDoorGA22
import Derived.Test.YtoghpoopgkahiaaGreatDoorGA29
import Derived.Test.YtoghpoopgkahiaaGreatDoorGA30
import Derived.Test.YtoghpoopgkahiaaGreatDoorGA31
import Derived.Test.YtoghpoopgkahiaaGreatDoorGA33
import Derived.Test.YtoghpoopgkahiaaGreatDoorGA34
import Derived.Test.YtoghpoopgkahiaaGreatDoorGA35
import Derived.Test.YtoghpoopgkahiaaGreatDoorGA36
import Derived.Test.YtoghpoopgkahiaaGreatDoorGA38
section
namespace Go.Proofs.YtoghpoopgkahiaaGreatDoor.CDense
open Go Go.ChangeShapes Go.WideShapes Go.ChangeAt Go.RowKit
open Plain CSat CShape CTensor CConv
set_option linter.unusedVariables false
theorem term00 (zs ws : List Int) (Z : Int) (k : Nat) : termF zs ws 0 0 Z k = ws.getD k 0 * (zs.getD k 0 - Z) := by unfold termF; rw [Nat.zero_add]
set_option maxRecDepth 100000 in
set_option maxHeartbeats 2000000 in
theorem weigh_to (A : Option Addr) (zs : List Int) (n c : Nat) (hn : zs.length = n) (hn2 : n ≤ 1000000) (hz : I8b zs) (WA : Option Addr) (ws : List Int) (m cW : Nat) (hws : ws.length = m) (hm : n ≤ m) (hwb : I8b ws) (Z : Int) (z1 : -128 ≤ Z) (z2 : Z ≤ 127)
    (bx bz : Nat) (w : World) (hx : w.cell? ⟨bx, 0, none⟩ = some (.slice A n c)) (hzc : w.cell? ⟨bz, 0, none⟩ = some (.int .i8 Z)) {B1 B2 : Nat} (hr : Kit.Rd w B1 A (I8s zs)) (hrw : Kit.Rd w B2 WA (I8s ws)) (R : Int) (hR : IntKind.i32.wrap (psum (termF zs ws 0 0 Z) n) = R) :
    Calls Tryz.prog 148 #[.slice WA m cW, .pointer (some ⟨bx, 0, none⟩), .pointer (some ⟨bz, 0, none⟩)] w fun e w' => e = .returned (.int .i32 R) ∧ ∃ q, w' = w.drewN q := by
  have HR := Lib.hid hR
  have HA := Lib.hid hr
  have HB := Lib.hid hrw
  have HZ := Lib.hid hz
  have HWB := Lib.hid hwb
  have HN := Lib.hid hn
  have HWS := Lib.hid hws
  have HX := Lib.hid hx
  clear hR hr hrw hz hwb hn hws
  go_enter Tryz.func148, Tryz.ntmps148
  go_wp2_with fail
  clear hx
  go_loopw [5, 10] (fun s u wr => ∃ k nq : Nat, k ≤ n ∧ u = .int .i64 k ∧ s = .int .i32 (IntKind.i32.wrap (psum (termF zs ws 0 0 Z) k)) ∧ Hid (wr = w.drewN nq)) (fun _ u _ => n - (intOf u).toNat)
  case atStart => exact ⟨0, 0, Nat.zero_le _, rfl, congrArg (Value.int .i32) (by simp [psum, IntKind.wrap_i32]), Lib.hid rfl⟩
  case round =>
    obtain ⟨k, nq, hk, rfl, rfl, hw⟩ := hrel
    obtain rfl := hw.out
    clear hw
    by_cases hlt : k < n
    · obtain ⟨b1, o1, rfl, _, hcx0⟩ := ints_getD HA.out (j := 0) (by have := HN.out; omega)
      obtain ⟨b2, o2, rfl, _, hcy0⟩ := ints_getD HB.out (j := 0) (by have := HWS.out; omega)
      have hcx := hcx0 k (by have := HN.out; omega)
      have hcy := hcy0 k (by have := HWS.out; omega)
      clear hcx0 hcy0
      have hk0 : (0 : Int) ≤ (k : Int) := by omega
      have hkn : (k : Int) < (n : Int) := by omega
      have hkm : (k : Int) < (m : Int) := by omega
      obtain ⟨x1, x2⟩ := HZ.out k
      obtain ⟨y1, y2⟩ := HWB.out k
      obtain ⟨t1, t2⟩ := term_bd x1 x2 y1 y2 z1 z2
      have hnext : IntKind.i32.wrap (IntKind.i32.wrap (psum (termF zs ws 0 0 Z) k) + ws.getD k 0 * (zs.getD k 0 - Z)) = IntKind.i32.wrap (psum (termF zs ws 0 0 Z) (k + 1)) := by
        rw [wrap32_add]; simp only [psum]; rw [term00]
      generalize zs.getD k 0 = x at hcx x1 x2 t1 t2 hnext
      generalize ws.getD k 0 = y at hcy y1 y2 t1 t2 hnext
      obtain ⟨u1, hu1⟩ : ∃ u1, IntKind.i32.wrap (psum (termF zs ws 0 0 Z) k) = u1 := ⟨_, rfl⟩
      obtain ⟨u2, hu2⟩ : ∃ u2, IntKind.i32.wrap (psum (termF zs ws 0 0 Z) (k + 1)) = u2 := ⟨_, rfl⟩
      have HU2 := Lib.hid hu2
      rw [hu1, hu2] at hnext
      rw [hu1]
      have e1 : IntKind.i32.wrap x = x := IntWalk.i32_in _ (by omega)
      have e2 : IntKind.i32.wrap y = y := IntWalk.i32_in _ (by omega)
      have e3 : IntKind.i32.wrap Z = Z := IntWalk.i32_in _ (by omega)
      have e4 : IntKind.i32.wrap (x - Z) = x - Z := IntWalk.i32_in _ (by omega)
      have e5 : IntKind.i32.wrap (y * (x - Z)) = y * (x - Z) := IntWalk.i32_in _ (by omega)
      clear hu1 hu2 t1 t2
      go_wp2_with fail
      go_quiet (fail)
      go_wp2
      go_roundw
      case rel => exact ⟨k + 1, _, by omega, by go_num, congrArg _ HU2.out.symm, Lib.hid rfl⟩
      case measure => simp [intOf]; omega
    · obtain rfl : k = n := by omega
      rw [HR.out]
      go_wp2_with fail
      go_ret
      exact ⟨rfl, nq, rfl⟩
theorem weighing_to (A : Option Addr) (n c : Nat) (Z : Int) (w : World) :
    Calls Tryz.prog 134 #[.slice A n c, .int .i8 Z] w fun e w' => e = .returned (.func (.func 148) #[] #[.pointer (some ⟨w.heap.size, 0, none⟩), .pointer (some ⟨w.heap.size + 1, 0, none⟩)]) ∧ w' = (w.alloc (.cells #[.slice A n c] 23)).alloc (.cells #[.int .i8 Z] 22) := by
  go_enter Tryz.func134, Tryz.ntmps134
  go_wp2_with fail
  go_ret
  exact ⟨rfl, rfl⟩
/-- a row of which the first o are made. -/
def madeD (F : Nat → Int) (o i : Nat) : Int := if i < o then F i else 0
theorem made_zero (F : Nat → Int) (N : Nat) : I32v (rowL (madeD F 0) N) = List.replicate N (.int .i32 0) := by
  refine List.ext_getElem (by simp [I32v, rowL]) fun i h1 h2 => ?_
  simp [I32v, rowL, madeD]
theorem made_all (F : Nat → Int) (N : Nat) : rowL (madeD F N) N = rowL F N := by
  refine List.ext_getElem (by simp [rowL]) fun i h1 h2 => ?_
  have : i < N := by simpa [rowL] using h1
  simp [rowL, madeD, this]
theorem made_set (F : Nat → Int) {N o : Nat} (v : Int) (hv : F o = v) : (I32v (rowL (madeD F o) N)).set o (.int .i32 v) = I32v (rowL (madeD F (o + 1)) N) := by
  refine List.ext_getElem (by simp [I32v, rowL]) fun i h1 h2 => ?_
  rw [List.getElem_set]
  by_cases e : o = i
  · subst e
    rw [if_pos rfl]
    simp [I32v, rowL, madeD, hv]
  · rw [if_neg e]
    simp only [I32v, rowL, List.map_map, List.getElem_map, List.getElem_range, Function.comp, madeD]
    by_cases h : i < o
    · rw [if_pos h, if_pos (by omega)]
    · rw [if_neg h, if_neg (by omega)]
def lineF (zs ws bs : List Int) (n : Nat) (Z : Int) (o : Nat) : Int := IntKind.i32.wrap (bs.getD o 0 + psum (termF zs ws 0 (o * n) Z) n)
theorem info_i32d : (Tryz.prog.info? 21).map (fun i => (i.zero, i.size, i.bytes)) = some (some (.int .i32 0), 1, 4) := by kernel_rfl
/-- a call that hands back a list of its own. -/
def Owned (w : World) (T n : Nat) (xs : List Value) (e : Ending) (w' : World) : Prop :=
  ∃ v, e = .returned v ∧ w'.ownsRow w.heap.size T 1 v n xs ∧ Below w.heap.size w w'
set_option maxRecDepth 100000 in
set_option maxHeartbeats 4000000 in
theorem line_yes (A : Option Addr) (zs : List Int) (n c : Nat) (hn : zs.length = n) (hn1 : 1 ≤ n) (hn2 : n ≤ 1000000) (hz : I8b zs) (WA : Option Addr) (ws : List Int) (nW cW : Nat) (hws : ws.length = nW) (hwc : nW ≤ cW) (hwb : I8b ws)
    (BA : Option Addr) (bs : List Int) (nB cB : Nat) (hbs : bs.length = nB) (hB1 : 1 ≤ nB) (hB2 : nB ≤ 1000000) (hnW : n * nB = nW) (hW2 : nW ≤ 1000000) (Z : Int) (z1 : -128 ≤ Z) (z2 : Z ≤ 127) (F : Nat → Int) (hF : ∀ o, lineF zs ws bs n Z o = F o)
    (w : World) (hr : Kit.Rd w w.heap.size A (I8s zs)) (hrw : Kit.Rd w w.heap.size WA (I8s ws)) (hrb : Kit.Rd w w.heap.size BA (I32v bs)) :
    Calls Tryz.prog 91 #[.slice A n c, .slice WA nW cW, .slice BA nB cB, .int .i8 Z] w (Owned w 21 nB (I32v (rowL F nB))) := by
  obtain ⟨bw, ow, rfl, hbw, -⟩ := ints_getD hrw (j := 0) (by rw [hws, ← hnW]; exact Nat.mul_pos (by omega) (by omega))
  obtain ⟨bb, ob, rfl, hbb, hcb⟩ := ints_getD hrb (j := 0) (by omega)
  have hN0 : (n : Int) ≠ 0 := by omega
  have hN0b : ((n : Int) == 0) = false := by simp; omega
  have hB0b : ((nB : Int) == 0) = false := by simp; omega
  have hmulw : IntKind.i64.wrap ((n : Int) * (nB : Int)) = (nW : Int) := by rw [← Int.natCast_mul, hnW]; exact IntWalk.i64_in _ (by omega)
  have HN := Lib.hid hn
  have HZ := Lib.hid hz
  have HWS := Lib.hid hws
  have HWB := Lib.hid hwb
  have HNW := Lib.hid hnW
  have HF := Lib.hid hF
  have HR := Lib.hid hr
  have HRW := Lib.hid hrw
  have HCB := Lib.hid hcb
  have HBS := Lib.hid hbs
  clear hn hz hws hwb hnW hF hr hrw hcb hrb hbs
  go_enter Tryz.func91, Tryz.ntmps91
  obtain ⟨i0, hi0, hi1, hi2, hi3⟩ := info_parts32 info_i32d
  go_wp2_with (first
    | (go_at_call 134; (refine (weighing_to A n c Z _).mono ?_); rintro e w1 ⟨rfl, hw1⟩; subst hw1)
    | (at_make; refine wpList_make_full _ rfl (.tmp 35) (.tmp 35) _ rfl (w.heap.size + 2) 21 i0 (.int .i32 0) 1 Tryz.underlying24 hi0 hi1 hi2 .i64 .i64 _ _ nB rfl rfl rfl rfl (by rw [hi3]; omega) (by unfold maxLen; omega) (by simp) ?_; intro w2 hown hg2))
  have hB2 : Below (w.heap.size + 2) ((w.alloc (.cells #[.slice A n c] 23)).alloc (.cells #[.int .i8 Z] 22)) w2 :=
    (Below.refl _ _).grown hg2 (by simp) (fun q hq => by cases hq)
  rw [show (madeCells (Value.int IntKind.i32 0).cells (nB * 1)).toList = List.replicate nB (.int .i32 0) by rw [Nat.mul_one]; exact toList_madeCells_one _ _] at hown
  have c0 : w2.cell? ⟨w.heap.size, 0, none⟩ = some (.slice A n c) := (hB2.cell (p := ⟨w.heap.size, 0, none⟩) (by simp)).trans ((World.cell?_alloc_lt _ _ _ (by simp)).trans (Kit.new_cell _ _ _ _))
  have c1 : w2.cell? ⟨w.heap.size + 1, 0, none⟩ = some (.int .i8 Z) := (hB2.cell (p := ⟨w.heap.size + 1, 0, none⟩) (by simp)).trans (by have := Kit.new_cell (w.alloc (.cells #[.slice A n c] 23)) #[.int .i8 Z] 22 0; rw [World.size_alloc] at this; exact this)
  have hB0 : Below w.heap.size w w2 := (((Below.refl _ _).alloc (Nat.le_refl _) _).alloc (by simp) _).trans (hB2.mono (by omega))
  have hgs : ((w.alloc (.cells #[.slice A n c] 23)).alloc (.cells #[.int .i8 Z] 22)).heap.size = w.heap.size + 2 := by simp
  simp only [World.size_alloc] at hown
  rw [← made_zero F nB] at hown
  have HOWN := Lib.hid hown
  have C0 := Lib.hid c0
  have C1 := Lib.hid c1
  have HB0 := Lib.hid hB0
  have hs2 : w.heap.size + 2 ≤ w2.heap.size := by have := hB2.size; rw [hgs] at this; exact this
  clear hown c0 c1 hB0 hB2 hg2 hi0 hi1 hi2 hi3
  go_loopw [39] (fun u wr => ∃ o : Nat, o ≤ nB ∧ u = .int .i64 o ∧ Hid (wr.ownsRow (w.heap.size + 2) 21 1 (.slice (some ⟨w.heap.size + 1 + 1, 0, none⟩) nB nB) nB (I32v (rowL (madeD F o) nB))) ∧ Hid (Below (w.heap.size + 2) w2 wr)) (fun u _ => nB - (intOf u).toNat)
  case atStart => exact ⟨0, Nat.zero_le _, rfl, HOWN, Lib.hid (Below.refl _ _)⟩
  case round =>
    obtain ⟨o, ho, rfl, HO, HB⟩ := hrel
    clear HOWN
    by_cases hlt : o < nB
    · have hbt := HB.out
      have k0 : wr.cell? ⟨w.heap.size, 0, none⟩ = some (.slice A n c) := (hbt.cell (p := ⟨w.heap.size, 0, none⟩) (by simp)).trans C0.out
      have k1 : wr.cell? ⟨w.heap.size + 1, 0, none⟩ = some (.int .i8 Z) := (hbt.cell (p := ⟨w.heap.size + 1, 0, none⟩) (by simp)).trans C1.out
      have hbw2 : Below w.heap.size w wr := HB0.out.trans (hbt.mono (by omega))
      have kb : wr.cell? ⟨bb, ob + o, none⟩ = some (.int .i32 (bs.getD o 0)) := (hbw2.cell (p := ⟨bb, ob + o, none⟩) hbb).trans (HCB.out o (by have := HBS.out; omega))
      have hle : o * n + n ≤ nW := by
        rw [← HNW.out, Nat.mul_comm n nB]
        have := Nat.mul_le_mul_right n (show o + 1 ≤ nB by omega)
        rwa [Nat.add_mul, Nat.one_mul] at this
      have hv : IntKind.i32.wrap (bs.getD o 0 + IntKind.i32.wrap (psum (termF zs (ws.drop (o * n)) 0 0 Z) n)) = F o := by
        rw [wrap32_add', drop_term]; exact HF.out o
      obtain ⟨R1, hR1⟩ : ∃ R1, IntKind.i32.wrap (psum (termF zs (ws.drop (o * n)) 0 0 Z) n) = R1 := ⟨_, rfl⟩
      rw [hR1] at hv
      obtain ⟨v, hvF⟩ : ∃ v, F o = v := ⟨_, rfl⟩
      rw [hvF] at hv
      obtain ⟨P, hP⟩ : ∃ P, o * n = P := ⟨_, rfl⟩
      have hmul : IntKind.i64.wrap ((o : Int) * (n : Int)) = (P : Int) := by rw [← Int.natCast_mul, hP]; exact IntWalk.i64_in _ (by omega)
      have hwt := fun (w' : World) (h1 : w'.cell? ⟨w.heap.size, 0, none⟩ = some (.slice A n c)) (h2 : w'.cell? ⟨w.heap.size + 1, 0, none⟩ = some (.int .i8 Z)) (h3 : Kit.Rd w' w.heap.size A (I8s zs)) (h4 : Kit.Rd w' w.heap.size (some ⟨bw, ow + o * n, none⟩) (I8s (ws.drop (o * n)))) =>
        weigh_to A zs n c HN.out hn2 HZ.out (some ⟨bw, ow + o * n, none⟩) (ws.drop (o * n)) (nW - o * n) (cW - o * n) (by rw [List.length_drop, HWS.out]) (by omega) (drop_I8b HWB.out _) Z z1 z2 w.heap.size (w.heap.size + 1) w' h1 h2 h3 h4 R1 hR1
      have hdrop := (HRW.out.below hbw2).drop (o * n)
      rw [i8s_drop, show (Option.map (fun a : Addr => a.add (o * n)) (some ⟨bw, ow, none⟩)) = some (⟨bw, ow + o * n, none⟩ : Addr) by rw [Option.map_some, Go.WideShapes.add_plain]] at hdrop
      rw [hP] at hwt hdrop hle
      have HWT := Lib.hid hwt
      have HDR := Lib.hid hdrop
      have HRD := Lib.hid (HR.out.below hbw2)
      have hst := fun q => (Kit.own_below HO.out (Kit.below_drewN (Below.refl wr.heap.size wr) q)).stored o (.int .i32 v)
      rw [made_set F v hvF] at hst
      have HST := Lib.hid hst
      have ks : ∃ x, wr.cell? ⟨w.heap.size + 1 + 1, o, none⟩ = some x := ⟨_, (HO.out.cellAt o (by omega)).trans (List.getElem?_eq_getElem (by simp [I32v, rowL]; exact hlt))⟩
      obtain ⟨x0, ks⟩ := ks
      have fs : wr.frozen? ⟨w.heap.size + 1 + 1, o, none⟩ = false := HO.out.frozenAt o
      have h0 : (0 : Int) ≤ (o : Int) := by omega
      have h1 : (o : Int) < (nB : Int) := by omega
      have p0 : (0 : Int) ≤ (P : Int) := by omega
      have p1 : (P : Int) ≤ (nW : Int) := by omega
      have p2 : (P : Int) ≤ (cW : Int) := by omega
      have p3 : ¬ cW = P := by omega
      have p4 : ¬ P = cW := by omega
      generalize bs.getD o 0 = b0 at kb hv
      clear hwt hdrop hbt hbw2 hR1 hvF hP hst
      have K0 := Lib.hid k0
      have K1 := Lib.hid k1
      clear k0 k1
      go_wp2_with (go_at_call 148; (refine (HWT.out _ K0.out K1.out HRD.out HDR.out).mono ?_); rintro e w3 ⟨rfl, q, rfl⟩)
      go_roundw
      case rel => exact ⟨o + 1, by omega, by go_num, Lib.hid (HST.out q).1, Lib.hid ((Kit.below_drewN HB.out q).setCell (by simp) _)⟩
      case measure => simp [intOf]; omega
    · obtain rfl : o = nB := by omega
      have hfin := HO.out
      rw [made_all] at hfin
      have HFI := Lib.hid hfin
      clear hfin
      go_wp2_with fail
      go_ret
      exact ⟨_, rfl, Kit.own_base HFI.out (by omega), HB0.out.trans (HB.out.mono (by omega))⟩
end Go.Proofs.YtoghpoopgkahiaaGreatDoor.CDense
end
section
namespace Go.Proofs.YtoghpoopgkahiaaGreatDoor.CKind
open Go Go.ChangeShapes Go.WideShapes Go.ChangeAt Go.RowKit Go.Deep
open Plain CSat CShape CTensor CConv
set_option linter.unusedVariables false
set_option linter.unusedSimpArgs false
theorem eqQuantK (a b c x y z : Int) (w : World) : (Op.equalIn 10000 26 (.agg #[.int .i32 a, .int .i64 b, .int .i8 c]) (.agg #[.int .i32 x, .int .i64 y, .int .i8 z])).run Tryz.prog w = .ok (a == x && (b == y && c == z)) w := by
  have u1 := Tryz.underlying21
  have a1 := Tryz.isAgg21
  have z1 := Tryz.sizeOf21
  have u2 := Tryz.underlying22
  have a2 := Tryz.isAgg22
  have z2 := Tryz.sizeOf22
  have u3 := Tryz.underlying3
  have a3 := Tryz.isAgg3
  have z3 := Tryz.sizeOf3
  have hS : Tryz.prog.underlying 26 = some (.struct (Tryz.prog.fieldsOf 26)) := by kernel_rfl
  rw [show (10000 : Nat) = 9999 + 1 from rfl, run_equalIn_agg w 9999 26 _ _ hS Tryz.stoodInHeld26]
  simp only [Program.fieldsOf, Tryz.underlying26]
  go_simp
  by_cases h1 : a = x <;> by_cases h2 : b = y <;> by_cases h3 : c = z <;> simp [h1, h2, h3]
end Go.Proofs.YtoghpoopgkahiaaGreatDoor.CKind
end
section
namespace Go.Proofs.YtoghpoopgkahiaaGreatDoor.CDepth
open Go Go.ChangeShapes Go.WideShapes Go.ChangeAt Go.RowKit
open Plain CSat CShape CTensor CConv
set_option linter.unusedVariables false
/-- the letters of a node that fits. -/
theorem dep_letters {H W C K S P : Int} {nW nB : Nat} (he : depthE H W C K S P nW nB = 0) :
    ∃ a b d kk : Nat, stepsM H K S P = (a : Int) ∧ stepsM W K S P = (b : Int) ∧ C = (d : Int) ∧ K = (kk : Int) ∧ a * b * d ≤ 1024 := by
  obtain ⟨hsl, hnW, hn16, hnB⟩ := depthE_ok he
  obtain ⟨hs0, har1, har2, -, -, hsr⟩ := slide_ok hsl
  obtain ⟨q1, q2, q3, q4, q5, q6, q7⟩ := shapeB_yes hsr
  obtain ⟨-, -, k1, k2, -⟩ := argsB_yes har1
  obtain ⟨a, ha⟩ : ∃ a : Nat, stepsM H K S P = (a : Int) := ⟨(stepsM H K S P).toNat, by omega⟩
  obtain ⟨b, hb⟩ : ∃ b : Nat, stepsM W K S P = (b : Int) := ⟨(stepsM W K S P).toNat, by omega⟩
  obtain ⟨d, hd⟩ : ∃ d : Nat, C = (d : Int) := ⟨C.toNat, by omega⟩
  obtain ⟨kk, hk⟩ : ∃ kk : Nat, K = (kk : Int) := ⟨K.toNat, by omega⟩
  have hN : ((a * b * d : Nat) : Int) ≤ 1024 := by
    have : ((a * b * d : Nat) : Int) = stepsM H K S P * stepsM W K S P * C := by rw [ha, hb, hd]; simp
    omega
  exact ⟨a, b, d, kk, ha, hb, hd, hk, by omega⟩
end Go.Proofs.YtoghpoopgkahiaaGreatDoor.CDepth
end
section
namespace Go.Proofs.YtoghpoopgkahiaaGreatDoor.CPool
open Go Go.ChangeShapes Go.WideShapes Go.ChangeAt Go.RowKit
open Plain CSat CShape CTensor CConv
set_option linter.unusedVariables false
/-- one number of the pool: the mean of a window. -/
def meanF (zs : List Int) (H W C S P : Int) (kk : Nat) (h v o : Nat) : Int := meanZ (windowL zs H W C ((h : Int) * S - P) ((v : Int) * S - P) kk o)
theorem rowL_succ8 (F : Nat → Int) (k : Nat) (x : Int) (h : F k = x) : I8s (rowL F k) ++ [.int .i8 x] = I8s (rowL F (k + 1)) := by
  simp [I8s, rowL, List.range_succ, h]
end Go.Proofs.YtoghpoopgkahiaaGreatDoor.CPool
end
section
namespace Go.Proofs.YtoghpoopgkahiaaGreatDoor.CJoin
set_option maxRecDepth 100000
open Go Go.ChangeShapes Go.WideShapes Go.ChangeAt Go.RowKit Go.Deep
open Plain CSat CFix CShape CTensor CConv
set_option linter.unusedVariables false
theorem tens_pos {H W C : Int} {n : Nat} (h : tensB H W C n = true) : 1 ≤ n := by
  obtain ⟨hs, hn⟩ : shapeB H W C = true ∧ (n : Int) = H * W * C := by simpa [tensB] using h
  obtain ⟨g1, g2, g3, g4, g5, g6, g7⟩ := shapeB_yes hs
  have : 0 < H * W * C := Int.mul_pos (Int.mul_pos (by omega) (by omega)) (by omega)
  omega
end Go.Proofs.YtoghpoopgkahiaaGreatDoor.CJoin
end
section
namespace Go.Proofs.YtoghpoopgkahiaaGreatDoor.CAct
set_option maxRecDepth 100000
open Go Go.ChangeShapes Go.WideShapes Go.ChangeAt Go.RowKit Go.Deep
open Plain CSat CFix CShape CTensor CConv
set_option linter.unusedVariables false
theorem tensB_shape {H W C : Int} {n : Nat} (h : shapeB H W C = false) : tensB H W C n = false := by simp [tensB, h]
set_option maxRecDepth 100000 in
set_option maxHeartbeats 4000000 in
theorem rsums_to (H W C : Int) (A : Option Addr) (n c : Nat) (b : Bool) (hb0 : tensB H W C n = b) (w : World) :
    Calls Tryz.prog 112 #[.agg #[.int .i64 H, .int .i64 W, .int .i64 C, .slice A n c]] w fun e w' => e = .returned (.bool b) ∧ Below w.heap.size w w' := by
  cases hs : shapeB H W C
  · obtain rfl : false = b := (tensB_shape hs).symm.trans hb0
    have HS := Lib.hid hs
    clear hs hb0
    go_enter Tryz.func112, Tryz.ntmps112
    go_wp2_with (first
    | (go_at_call 108
       have hal : Below w.heap.size w (w.alloc (.cells #[.int .i64 H, .int .i64 W, .int .i64 C, .slice A n c] 41)) := (Below.refl _ _).alloc (by first | exact Nat.le_refl _ | (simp; done) | (simp; omega)) _
       refine (fill_no H W C 0 HS.out _).mono ?_
       rintro e w1 ⟨rfl, hb⟩
       have hh : Below w.heap.size w w1 := hal.trans (hb.mono hal.size)
       have qTA := (boxNew H W C A n c 41) w
       try simp only [World.size_alloc] at qTA
       have TA := Lib.hid (qTA.below (by first | (simp; done) | (simp; omega)) hb)
       have yTA : w.heap.size < w1.heap.size := by have := hb.size; simp at this; omega
       clear qTA
       have HBW : Hid (Below w.heap.size w w1) := Lib.hid hh
       obtain ⟨tap0, tap1, tap2, tap3⟩ := TA.out
       clear hb hh hal))
    go_ret
    exact ⟨rfl, HBW.out.alloc HBW.out.size _⟩
  · obtain ⟨a1, a2, a3, a4, a5, a6, a7⟩ := shapeB_yes hs
    obtain ⟨p1, p2⟩ := prod_bd a1 a2 a3 a4 a5 a6
    obtain ⟨m, hm⟩ : ∃ m : Nat, H * W * C = m := ⟨(H * W * C).toNat, by omega⟩
    have hbn : decide (n = m) = b := by
      rw [← hb0]
      unfold tensB
      rw [hs, hm]
      by_cases e : n = m <;> simp [e] <;> omega
    have HS := Lib.hid hs
    have HM := Lib.hid hm
    clear hs hb0 hm p1 p2 a1 a2 a3 a4 a5 a6 a7
    by_cases e : n = m
    · obtain rfl : true = b := by rw [← hbn]; simp [e]
      have e1 : ((n : Int) == (m : Int)) = true := by simp [e]
      clear e hbn
      go_enter Tryz.func112, Tryz.ntmps112
      go_wp2_with (first
    | (go_at_call 108
       have hal : Below w.heap.size w (w.alloc (.cells #[.int .i64 H, .int .i64 W, .int .i64 C, .slice A n c] 41)) := (Below.refl _ _).alloc (by first | exact Nat.le_refl _ | (simp; done) | (simp; omega)) _
       refine (fill_yes H W C 0 m HS.out HM.out _).mono ?_
       rintro e w1 ⟨v1, rfl, ho1, hb⟩
       have hh : Below w.heap.size w w1 := hal.trans (hb.mono hal.size)
       have qTA := (boxNew H W C A n c 41) w
       try simp only [World.size_alloc] at qTA
       have TA := Lib.hid (qTA.below (by first | (simp; done) | (simp; omega)) hb)
       have yTA : w.heap.size < w1.heap.size := by have := hb.size; simp at this; omega
       clear qTA
       have HBW : Hid (Below w.heap.size w w1) := Lib.hid hh
       obtain ⟨A1, c1, rfl, -, -, -⟩ := Kit.own_rd ho1
       clear ho1
       obtain ⟨tap0, tap1, tap2, tap3⟩ := TA.out
       clear hb hh hal))
      go_ret
      exact ⟨rfl, HBW.out.alloc HBW.out.size _⟩
    · obtain rfl : false = b := by rw [← hbn]; simp [e]
      have e1 : ((n : Int) == (m : Int)) = false := by simp; omega
      have e2 : ¬ (n : Int) = (m : Int) := by omega
      clear e hbn
      go_enter Tryz.func112, Tryz.ntmps112
      go_wp2_with (first
    | (go_at_call 108
       have hal : Below w.heap.size w (w.alloc (.cells #[.int .i64 H, .int .i64 W, .int .i64 C, .slice A n c] 41)) := (Below.refl _ _).alloc (by first | exact Nat.le_refl _ | (simp; done) | (simp; omega)) _
       refine (fill_yes H W C 0 m HS.out HM.out _).mono ?_
       rintro e w1 ⟨v1, rfl, ho1, hb⟩
       have hh : Below w.heap.size w w1 := hal.trans (hb.mono hal.size)
       have qTA := (boxNew H W C A n c 41) w
       try simp only [World.size_alloc] at qTA
       have TA := Lib.hid (qTA.below (by first | (simp; done) | (simp; omega)) hb)
       have yTA : w.heap.size < w1.heap.size := by have := hb.size; simp at this; omega
       clear qTA
       have HBW : Hid (Below w.heap.size w w1) := Lib.hid hh
       obtain ⟨A1, c1, rfl, -, -, -⟩ := Kit.own_rd ho1
       clear ho1
       obtain ⟨tap0, tap1, tap2, tap3⟩ := TA.out
       clear hb hh hal))
      go_ret
      exact ⟨rfl, HBW.out.alloc HBW.out.size _⟩
end Go.Proofs.YtoghpoopgkahiaaGreatDoor.CAct
end
section
namespace Go.Proofs.YtoghpoopgkahiaaGreatDoor.CPad
set_option maxRecDepth 100000
open Go Go.ChangeShapes Go.WideShapes Go.ChangeAt Go.RowKit
open Plain CSat CShape CTensor
set_option linter.unusedVariables false
/-- numbers by row, column and channel, one behind the other. -/
def gridF (b d : Nat) (G : Nat → Nat → Nat → Int) (i : Nat) : Int := G (i / d / b) (i / d % b) (i % d)
theorem grid_at (b d : Nat) (G : Nat → Nat → Nat → Int) {i j k : Nat} (hj : j < b) (hk : k < d) : gridF b d G ((i * b + j) * d + k) = G i j k := by
  unfold gridF
  have h1 : ((i * b + j) * d + k) / d = i * b + j := by rw [Nat.mul_comm, Nat.mul_add_div (by omega), Nat.div_eq_of_lt hk]; rfl
  have h2 : ((i * b + j) * d + k) % d = k := by rw [Nat.mul_comm, Nat.mul_add_mod, Nat.mod_eq_of_lt hk]
  have h3 : (i * b + j) / b = i := by rw [Nat.mul_comm, Nat.mul_add_div (by omega), Nat.div_eq_of_lt hj]; rfl
  have h4 : (i * b + j) % b = j := by rw [Nat.mul_comm, Nat.mul_add_mod, Nat.mod_eq_of_lt hj]
  rw [h1, h2, h3, h4]
end Go.Proofs.YtoghpoopgkahiaaGreatDoor.CPad
end
