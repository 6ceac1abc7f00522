/- Layer 18 (dense): no line; the document's line. -/
import Derived.Test.YtmnhcmkcdchmkaaDense
import Derived.Laws.AppendOwn
namespace Go.Proofs.Ytmnhcmkcdchmkaa.CDense
open Go Go.ChangeShapes Go.WideShapes Go.ChangeAt Go.RowKit
open Plain CSat CShape CTensor CConv
set_option linter.unusedVariables false

set_option maxHeartbeats 1000000 in
theorem line_no (A WA BA : Option Addr) (n c nW cW nB cB : Nat) (h : ¬ (1 ≤ n ∧ 1 ≤ nB ∧ n * nB = nW)) (hn : n ≤ 1000000) (hB : nB ≤ 1000000) (Z : Int) (w : World) :
    Calls Try.prog 13 #[.slice A n c, .slice WA nW cW, .slice BA nB cB, .int .i8 Z] w fun e w' => e = .returned (.slice none 0 0) ∧ w' = w := by
  rcases (show n = 0 ∨ (1 ≤ n ∧ nB = 0) ∨ (1 ≤ n ∧ 1 ≤ nB ∧ ¬ n * nB = nW) by omega) with rfl | ⟨h1, rfl⟩ | ⟨h1, h2, h3⟩
  · go_enter Try.func13, Try.ntmps13
    go_wp2_with fail
    go_ret
    exact ⟨rfl, rfl⟩
  · have e1 : ((n : Int) == 0) = false := by simp; omega
    have e2 : ¬ n = 0 := by omega
    clear h
    go_enter Try.func13, Try.ntmps13
    go_wp2_with fail
    go_ret
    exact ⟨rfl, rfl⟩
  · have e1 : ((n : Int) == 0) = false := by simp; omega
    have e2 : ((nB : Int) == 0) = false := by simp; omega
    have e5 : ¬ n = 0 := by omega
    have e6 : ¬ nB = 0 := by omega
    obtain ⟨p, hp⟩ : ∃ p, n * nB = p := ⟨_, rfl⟩
    have hpb : p ≤ 1000000000000 := by rw [← hp]; exact Nat.le_trans (Nat.mul_le_mul hn hB) (by omega)
    have e3 : IntKind.i64.wrap ((n : Int) * (nB : Int)) = (p : Int) := by rw [← Int.natCast_mul, hp]; exact IntWalk.i64_in _ (by omega)
    rw [hp] at h3
    have e4 : ((nW : Int) != (p : Int)) = true := by simp; omega
    have e7 : ¬ nW = p := by omega
    clear hp h
    go_enter Try.func13, Try.ntmps13
    go_wp2_with fail
    go_ret
    exact ⟨rfl, rfl⟩
set_option maxHeartbeats 1000000 in
theorem refLine_no (A WA BA : Option Addr) (n c nW cW nB cB : Nat) (h : ¬ (1 ≤ n ∧ 1 ≤ nB ∧ n * nB = nW)) (hn : n ≤ 1000000) (hB : nB ≤ 1000000) (Z : Int) (w : World) :
    Calls Try.prog 16 #[.slice A n c, .slice WA nW cW, .slice BA nB cB, .int .i8 Z] w fun e w' => e = .returned (.slice none 0 0) ∧ w' = w := by
  rcases (show n = 0 ∨ (1 ≤ n ∧ nB = 0) ∨ (1 ≤ n ∧ 1 ≤ nB ∧ ¬ n * nB = nW) by omega) with rfl | ⟨h1, rfl⟩ | ⟨h1, h2, h3⟩
  · go_enter Try.func16, Try.ntmps16
    go_wp2_with fail
    go_ret
    exact ⟨rfl, rfl⟩
  · have e1 : ((n : Int) == 0) = false := by simp; omega
    have e2 : ¬ n = 0 := by omega
    clear h
    go_enter Try.func16, Try.ntmps16
    go_wp2_with fail
    go_ret
    exact ⟨rfl, rfl⟩
  · have e1 : ((n : Int) == 0) = false := by simp; omega
    have e2 : ((nB : Int) == 0) = false := by simp; omega
    have e5 : ¬ n = 0 := by omega
    have e6 : ¬ nB = 0 := by omega
    obtain ⟨p, hp⟩ : ∃ p, n * nB = p := ⟨_, rfl⟩
    have hpb : p ≤ 1000000000000 := by rw [← hp]; exact Nat.le_trans (Nat.mul_le_mul hn hB) (by omega)
    have e3 : IntKind.i64.wrap ((n : Int) * (nB : Int)) = (p : Int) := by rw [← Int.natCast_mul, hp]; exact IntWalk.i64_in _ (by omega)
    rw [hp] at h3
    have e4 : ((nW : Int) != (p : Int)) = true := by simp; omega
    have e7 : ¬ nW = p := by omega
    clear hp h
    go_enter Try.func16, Try.ntmps16
    go_wp2_with fail
    go_ret
    exact ⟨rfl, rfl⟩
set_option maxHeartbeats 1000000 in
set_option maxRecDepth 100000 in
theorem refSum_to (A : Option Addr) (zs : List Int) (n c : Nat) (hn : zs.length = n) (hn2 : n ≤ 1000000) (hz : I8b zs) (WA : Option Addr) (ws : List Int) (nW cW : Nat) (hws : ws.length = nW) (hwb : I8b ws) (hW2 : nW ≤ 1000000)
    (BA : Option Addr) (bs : List Int) (nB cB : Nat) (hbs : bs.length = nB) (hb32 : ∀ q, -2147483648 ≤ bs.getD q 0 ∧ bs.getD q 0 ≤ 2147483647) (o : Nat) (ho : o < nB) (hon : o * n + n ≤ nW) (Z : Int) (z1 : -128 ≤ Z) (z2 : Z ≤ 127)
    (w : World) {B1 B2 B3 : Nat} (hr : Kit.Rd w B1 A (I8s zs)) (hrw : Kit.Rd w B2 WA (I8s ws)) (hrb : Kit.Rd w B3 BA (I32v bs)) (R : Int) (hR : bs.getD o 0 + psum (termF zs ws 0 (o * n) Z) n = R) :
    Calls Try.prog 26 #[.slice A n c, .slice WA nW cW, .slice BA nB cB, .int .i8 Z, .int .i64 (o : Int)] w fun e w' => e = .returned (.int .i64 R) ∧ ∃ q, w' = w.drewN q := by
  obtain ⟨bb, ob, rfl, hbb, hcb⟩ := ints_getD hrb (j := 0) (by omega)
  have hcb0 := hcb o (by omega)
  obtain ⟨r1, r2⟩ := hb32 o
  have hon0 : (0 : Int) ≤ (o : Int) := by omega
  have hon1 : (o : Int) < (nB : Int) := by omega
  generalize bs.getD o 0 = bo at r1 r2 hcb0 hR
  have e0 : IntKind.i64.wrap bo = bo := IntWalk.i64_in _ (by omega)
  obtain ⟨P, hP⟩ : ∃ P, o * n = P := ⟨_, rfl⟩
  have hmul : IntKind.i64.wrap ((o : Int) * (n : Int)) = (P : Int) := by rw [← Int.natCast_mul, hP]; exact IntWalk.i64_in _ (by omega)
  rw [hP] at hR hon
  have HR := Lib.hid hR
  have HA := Lib.hid hr
  have HB := Lib.hid hrw
  have HZ := Lib.hid hz
  have HWB := Lib.hid hwb
  have HN := Lib.hid hn
  have HWS := Lib.hid hws
  clear hR hr hrw hz hwb hn hws hrb hcb hbs hP hb32
  go_enter Try.func26, Try.ntmps26
  go_wp2_with fail
  clear hcb0
  go_loopw [11, 12] (fun s u wr => ∃ k nq : Nat, k ≤ n ∧ u = .int .i64 k ∧ s = .int .i64 (bo + psum (termF zs ws 0 P Z) k) ∧ Hid (wr = w.drewN nq)) (fun _ u _ => n - (intOf u).toNat)
  case atStart => exact ⟨0, 0, Nat.zero_le _, rfl, congrArg (Value.int .i64) (by simp [psum]), Lib.hid rfl⟩
  case round =>
    obtain ⟨k, nq, hk, rfl, rfl, hw⟩ := hrel
    obtain rfl := hw.out
    clear hw
    by_cases hlt : k < n
    · obtain ⟨b1, o1, rfl, _, hcx0⟩ := ints_getD HA.out (j := 0) (by have := HN.out; omega)
      obtain ⟨b2, o2, rfl, _, hcy0⟩ := ints_getD HB.out (j := 0) (by have := HWS.out; omega)
      obtain ⟨p, hp⟩ : ∃ p, P + k = p := ⟨_, rfl⟩
      have hcx := hcx0 k (by have := HN.out; omega)
      have hcy := hcy0 p (by have := HWS.out; omega)
      clear hcx0 hcy0
      have hk0 : (0 : Int) ≤ (k : Int) := by omega
      have hkn : (k : Int) < (n : Int) := by omega
      have hp0 : (0 : Int) ≤ (p : Int) := by omega
      have hpm : (p : Int) < (nW : Int) := by omega
      have hadd : IntKind.i64.wrap ((P : Int) + (k : Int)) = (p : Int) := by rw [← Int.natCast_add, hp]; exact IntWalk.i64_in _ (by omega)
      obtain ⟨x1, x2⟩ := HZ.out k
      obtain ⟨y1, y2⟩ := HWB.out p
      obtain ⟨t1, t2⟩ := term_bd x1 x2 y1 y2 z1 z2
      obtain ⟨q1, q2⟩ := psum_bd (G := termF zs ws 0 P Z) (b := 32640) (n := k) (fun j (_ : j < k) => termF_bd (zs := zs) (ws := ws) (st := 0) (o := P) (c := j) HZ.out HWB.out z1 z2)
      have hnext : bo + psum (termF zs ws 0 P Z) k + ws.getD p 0 * (zs.getD k 0 - Z) = bo + psum (termF zs ws 0 P Z) (k + 1) := by
        simp only [psum]; unfold termF; rw [hp, Nat.zero_add, Int.add_assoc]
      generalize zs.getD k 0 = x at hcx x1 x2 t1 t2 hnext
      generalize ws.getD p 0 = y at hcy y1 y2 t1 t2 hnext
      have e6 : IntKind.i64.wrap (bo + psum (termF zs ws 0 P Z) k + y * (x - Z)) = bo + psum (termF zs ws 0 P Z) (k + 1) := by rw [← hnext]; exact IntWalk.i64_in _ (by omega)
      obtain ⟨u1, hu1⟩ : ∃ u1, bo + psum (termF zs ws 0 P Z) k = u1 := ⟨_, rfl⟩
      obtain ⟨u2, hu2⟩ : ∃ u2, bo + psum (termF zs ws 0 P Z) (k + 1) = u2 := ⟨_, rfl⟩
      have HU2 := Lib.hid hu2
      rw [hu1, hu2] at e6
      rw [hu1]
      have e1 : IntKind.i64.wrap x = x := IntWalk.i64_in _ (by omega)
      have e2 : IntKind.i64.wrap y = y := IntWalk.i64_in _ (by omega)
      have e3 : IntKind.i64.wrap Z = Z := IntWalk.i64_in _ (by omega)
      have e4 : IntKind.i64.wrap (x - Z) = x - Z := IntWalk.i64_in _ (by omega)
      have e5 : IntKind.i64.wrap (y * (x - Z)) = y * (x - Z) := IntWalk.i64_in _ (by omega)
      clear hu1 hu2 t1 t2 hnext hp q1 q2
      go_wp2_with fail
      go_quiet (fail)
      go_wp2
      go_roundw
      case rel => exact ⟨k + 1, _, by omega, by go_num, congrArg _ HU2.out.symm, Lib.hid rfl⟩
      case measure => simp [intOf]; omega
    · obtain rfl : k = n := by omega
      rw [HR.out]
      go_wp2_with fail
      go_ret
      exact ⟨rfl, nq, rfl⟩
set_option maxRecDepth 100000 in
set_option maxHeartbeats 4000000 in
theorem refLine_yes (A : Option Addr) (zs : List Int) (n c : Nat) (hn : zs.length = n) (hn1 : 1 ≤ n) (hn2 : n ≤ 1000000) (hz : I8b zs) (WA : Option Addr) (ws : List Int) (nW cW : Nat) (hws : ws.length = nW) (hwb : I8b ws)
    (BA : Option Addr) (bs : List Int) (nB cB : Nat) (hbs : bs.length = nB) (hb32 : ∀ q, -2147483648 ≤ bs.getD q 0 ∧ bs.getD q 0 ≤ 2147483647) (hB1 : 1 ≤ nB) (hB2 : nB ≤ 1000000) (hnW : n * nB = nW) (hW2 : nW ≤ 1000000) (Z : Int) (z1 : -128 ≤ Z) (z2 : Z ≤ 127) (F : Nat → Int) (hF : ∀ o, lineF zs ws bs n Z o = F o)
    (w : World) (hr : Kit.Rd w w.heap.size A (I8s zs)) (hrw : Kit.Rd w w.heap.size WA (I8s ws)) (hrb : Kit.Rd w w.heap.size BA (I32v bs)) :
    Calls Try.prog 16 #[.slice A n c, .slice WA nW cW, .slice BA nB cB, .int .i8 Z] w (Owned w 21 nB (I32v (rowL F nB))) := by
  have hB0b : ((nB : Int) == 0) = false := by simp; omega
  have hN0b : ((n : Int) == 0) = false := by simp; omega
  have hmulw : IntKind.i64.wrap ((n : Int) * (nB : Int)) = (nW : Int) := by rw [← Int.natCast_mul, hnW]; exact IntWalk.i64_in _ (by omega)
  have HN := Lib.hid hn
  have HZ := Lib.hid hz
  have HWS := Lib.hid hws
  have HWB := Lib.hid hwb
  have HNW := Lib.hid hnW
  have HF := Lib.hid hF
  have HR := Lib.hid hr
  have HRW := Lib.hid hrw
  have HRB := Lib.hid hrb
  have HBS := Lib.hid hbs
  have HB32 := Lib.hid hb32
  clear hn hz hws hwb hnW hF hr hrw hrb hbs hb32
  obtain ⟨i0, hi0, hi1, hi2, hi3⟩ := info_parts32 info_i32d
  have HI := Lib.hid (And.intro hi0 (And.intro hi1 (And.intro hi2 hi3)))
  clear hi0 hi1 hi2 hi3
  go_enter Try.func16, Try.ntmps16
  go_wp2_with fail
  go_loopw [9, 10] (fun v u wr => ∃ o : Nat, o ≤ nB ∧ u = .int .i64 o ∧ Hid (wr.ownsRow w.heap.size 21 1 v o (I32v (rowL F o))) ∧ Hid (Below w.heap.size w wr)) (fun _ u _ => nB - (intOf u).toNat)
  case atStart => exact ⟨0, Nat.zero_le _, rfl, Lib.hid ⟨by simp [I32v, rowL], .inl ⟨rfl, rfl⟩⟩, Lib.hid (Below.refl _ _)⟩
  case round =>
    obtain ⟨o, ho, rfl, HO, HB⟩ := hrel
    obtain ⟨Av, cv, rfl, -, -, -⟩ := Kit.own_rd HO.out
    by_cases hlt : o < nB
    · have hle : o * n + n ≤ nW := by
        rw [← HNW.out, Nat.mul_comm n nB]
        have := Nat.mul_le_mul_right n (show o + 1 ≤ nB by omega)
        rwa [Nat.add_mul, Nat.one_mul] at this
      obtain ⟨R1, hR1⟩ : ∃ R1, bs.getD o 0 + psum (termF zs ws 0 (o * n) Z) n = R1 := ⟨_, rfl⟩
      obtain ⟨x, hx⟩ : ∃ x, F o = x := ⟨_, rfl⟩
      have hcv : IntKind.i32.wrap R1 = x := by rw [← hx, ← HF.out o, ← hR1]; rfl
      have HX := Lib.hid hx
      have hsum := fun (w' : World) (h3 : Kit.Rd w' w.heap.size A (I8s zs)) (h4 : Kit.Rd w' w.heap.size WA (I8s ws)) (h5 : Kit.Rd w' w.heap.size BA (I32v bs)) =>
        refSum_to A zs n c HN.out hn2 HZ.out WA ws nW cW HWS.out HWB.out hW2 BA bs nB cB HBS.out HB32.out o hlt hle Z z1 z2 w' h3 h4 h5 R1 hR1
      have HS := Lib.hid hsum
      have hoI : (o : Int) < (nB : Int) := by omega
      clear hsum hR1 hle hx
      go_wp2_with (first
        | (go_at_call 26; (refine (HS.out _ (HR.out.below HB.out) (HRW.out.below HB.out) (HRB.out.below HB.out)).mono ?_); rintro e w3 ⟨rfl, q, rfl⟩; (have HO3 := Lib.hid (Kit.own_below HO.out (Kit.below_drewN (Below.refl wr.heap.size wr) q))); (have HB3 := Lib.hid (Kit.below_drewN HB.out q)); (generalize wr.drewN q = w3 at HO3 HB3 ⊢))
        | (at_builtin; refine Kit.wpList_append_rd _ rfl (.tmp 35) (.tmp 43) _ rfl w.heap.size 21 i0 (.int .i32 0) 1 4 Try.underlying27 HI.out.1 HI.out.2.1 HI.out.2.2.1 HI.out.2.2.2 rfl (by decide) _ o (I32v (rowL F o)) rfl (Kit.own_below HO3.out ((Below.refl _ _).alloc (Nat.le_refl _) _)) _ _ 1 1 [.int .i32 x] rfl rfl (Kit.Rd.new _ _ _ (Nat.lt_succ_self _)) ?_ ?_ ?_ ?_ ?_; (exact Kit.ints_one .i32 [x]); (unfold maxLen; omega); (omega); (have := HB3.out.size; simp; omega); intro v2 w5 hown2 hg2 hat2))
      have hB5 : Below w.heap.size w w5 := (HB3.out.alloc HB3.out.size _).grown hg2 (by have := HB3.out.size; simp; omega) (fun q hq => Kit.own_block_ge HO3.out q hq)
      rw [rowL_succ F o x HX.out] at hown2
      have HO5 := Lib.hid hown2
      have HB5 := Lib.hid hB5
      clear hown2 hg2 hat2 hB5
      go_roundw
      case rel => exact ⟨o + 1, by omega, by go_num, HO5, HB5⟩
      case measure => simp [intOf]; omega
    · obtain rfl : o = nB := by omega
      go_wp2_with fail
      go_ret
      exact ⟨_, rfl, HO.out, HB.out⟩
end Go.Proofs.Ytmnhcmkcdchmkaa.CDense
