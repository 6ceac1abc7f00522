/- Layer 19 (pool): the document's Window. -/
import Derived.Test.YtccngjgbhbeobaaPoolRef
import Derived.Test.YtccngjgbhbeobaaConvOf
import Derived.BigQuiet
import Derived.Laws.AppendOwn
namespace Go.Proofs.Ytccngjgbhbeobaa.CPool
open Go Go.ChangeShapes Go.WideShapes Go.ChangeAt Go.RowKit
open Plain CSat CShape CTensor CConv
set_option linter.unusedVariables false

/-- the numbers that a window has of a channel. -/
def hereL (zs : List Int) (H W C top left : Int) (o i j : Nat) : List Int :=
  if 0 ≤ top + (i : Int) ∧ top + (i : Int) < H ∧ 0 ≤ left + (j : Int) ∧ left + (j : Int) < W then [zs.getD (((top + (i : Int)) * W + (left + (j : Int))) * C + (o : Int)).toNat 0] else []
def colL (zs : List Int) (H W C top left : Int) (o i : Nat) : Nat → List Int
  | 0 => []
  | j + 1 => colL zs H W C top left o i j ++ hereL zs H W C top left o i j
def rowsL (zs : List Int) (H W C top left : Int) (kk o : Nat) : Nat → List Int
  | 0 => []
  | i + 1 => rowsL zs H W C top left kk o i ++ colL zs H W C top left o i kk
def windowL (zs : List Int) (H W C top left : Int) (kk o : Nat) : List Int := rowsL zs H W C top left kk o kk
theorem hereL_len (zs : List Int) (H W C top left : Int) (o i j : Nat) : (hereL zs H W C top left o i j).length ≤ 1 := by unfold hereL; split <;> simp
theorem colL_len (zs : List Int) (H W C top left : Int) (o i : Nat) : ∀ j, (colL zs H W C top left o i j).length ≤ j
  | 0 => Nat.le_refl _
  | j + 1 => by
    show (colL zs H W C top left o i j ++ hereL zs H W C top left o i j).length ≤ j + 1
    rw [List.length_append]
    have := colL_len zs H W C top left o i j
    have := hereL_len zs H W C top left o i j
    omega
theorem rowsL_len (zs : List Int) (H W C top left : Int) (kk o : Nat) : ∀ i, (rowsL zs H W C top left kk o i).length ≤ i * kk
  | 0 => by simp [rowsL]
  | i + 1 => by
    show (rowsL zs H W C top left kk o i ++ colL zs H W C top left o i kk).length ≤ (i + 1) * kk
    rw [List.length_append, Nat.add_mul, Nat.one_mul]
    have := rowsL_len zs H W C top left kk o i
    have := colL_len zs H W C top left o i kk
    omega
theorem I8s_app (a b : List Int) : I8s (a ++ b) = I8s a ++ I8s b := by simp [I8s]
theorem info_i8p : (Try.prog.info? 30).map (fun i => (i.zero, i.size, i.bytes)) = some (some (.int .i8 0), 1, 1) := by kernel_rfl
def OwnedP (w : World) (T n : Nat) (xs : List Value) (e : Ending) (w' : World) : Prop :=
  ∃ v, e = .returned v ∧ w'.ownsRow w.heap.size T 1 v n xs ∧ Below w.heap.size w w'
set_option maxRecDepth 100000 in
set_option maxHeartbeats 8000000 in
theorem refWindow_to (H W C : Int) (A : Option Addr) (zs : List Int) (n c : Nat) (hn : zs.length = n) (ht : tensB H W C n = true) (x0 x1 x2 x8 x11 x12 x13 x14 x15 x16 x17 x18 : Value) (K S P O Z : Int) (WA BA : Option Addr) (nW cW nB cB : Nat) (kk o d : Nat) (hd : C = (d : Int)) (hk : K = (kk : Int)) (hk7 : kk ≤ 7) (ho : o < d)
    (h v : Nat) (hh : h ≤ 16) (hv : v ≤ 16) (s1 : 1 ≤ S) (s4 : S ≤ 4) (p0 : 0 ≤ P) (p4 : P ≤ 4) (w : World) (hr : Kit.Rd w w.heap.size A (I8s zs)) (L : List Int) (hL : windowL zs H W C ((h : Int) * S - P) ((v : Int) * S - P) kk o = L) :
    Calls Try.prog 23 #[.agg #[.int .i64 H, .int .i64 W, .int .i64 C, .slice A n c], .agg #[x0, x1, x2, .int .i64 K, .int .i64 S, .int .i64 P, .int .i64 O, .int .i8 Z, x8, .slice WA nW cW, .slice BA nB cB, x11, x12, x13, x14, x15, x16, x17, x18], .int .i64 (h : Int), .int .i64 (v : Int), .int .i64 (o : Int)] w (OwnedP w 30 L.length (I8s L)) := by
  have hs : shapeB H W C = true := by simp only [tensB, Bool.and_eq_true] at ht; exact ht.1
  obtain ⟨g1, g2, g3, g4, g5, g6, g7⟩ := shapeB_yes hs
  obtain ⟨hs0, hhs⟩ : ∃ hs, (h : Int) * S = hs := ⟨_, rfl⟩
  obtain ⟨vs0, hvs⟩ : ∃ vs, (v : Int) * S = vs := ⟨_, rfl⟩
  have b1 : 0 ≤ hs0 ∧ hs0 ≤ 64 := by
    rw [← hhs]
    exact ⟨Int.mul_nonneg (by omega) (by omega), Int.le_trans (Int.mul_le_mul (show (h : Int) ≤ 16 by omega) s4 (by omega) (by omega)) (by omega)⟩
  have b2 : 0 ≤ vs0 ∧ vs0 ≤ 64 := by
    rw [← hvs]
    exact ⟨Int.mul_nonneg (by omega) (by omega), Int.le_trans (Int.mul_le_mul (show (v : Int) ≤ 16 by omega) s4 (by omega) (by omega)) (by omega)⟩
  rw [hhs, hvs] at hL
  obtain ⟨b3, b4⟩ := b1
  obtain ⟨b5, b6⟩ := b2
  have w1 : IntKind.i64.wrap hs0 = hs0 := IntWalk.i64_in _ (by omega)
  have w2 : IntKind.i64.wrap vs0 = vs0 := IntWalk.i64_in _ (by omega)
  have hK0 : (kk : Int) ≤ 7 := by omega
  have hoC : (o : Int) < C := by omega
  obtain ⟨top, htop⟩ : ∃ top, hs0 - P = top := ⟨_, rfl⟩
  obtain ⟨left, hleft⟩ : ∃ left, vs0 - P = left := ⟨_, rfl⟩
  rw [htop, hleft] at hL
  have HT := Lib.hid ht
  have HN := Lib.hid hn
  have HR := Lib.hid hr
  have HLL := Lib.hid hL
  have HTP := Lib.hid htop
  have HLF := Lib.hid hleft
  obtain ⟨i0, hi0, hi1, hi2, hi3⟩ := info_parts32 info_i8p
  have HI := Lib.hid (And.intro hi0 (And.intro hi1 (And.intro hi2 hi3)))
  subst hk
  clear ht hn hr hL hs g7 htop hleft hd hi0 hi1 hi2 hi3
  go_enter Try.func23, Try.ntmps23
  go_wp2_with fail
  have TB := Lib.hid ((boxNew H W C A n c 29 w).below (B' := w.heap.size + 1) (by omega) ((Below.refl _ _).alloc (by simp) (.cells #[x0, x1, x2, .int .i64 (kk : Int), .int .i64 S, .int .i64 P, .int .i64 O, .int .i8 Z, x8, .slice WA nW cW, .slice BA nB cB, x11, x12, x13, x14, x15, x16, x17, x18] 35)))
  have hnd := NodeAt.new x0 x1 x2 x8 x11 x12 x13 x14 x15 x16 x17 x18 (kk : Int) S P O Z WA BA nW cW nB cB 35 (w.alloc (.cells #[.int .i64 H, .int .i64 W, .int .i64 C, .slice A n c] 29))
  rw [World.size_alloc] at hnd
  have TN := Lib.hid hnd
  have HB0 : Hid (Below w.heap.size w ((w.alloc (.cells #[.int .i64 H, .int .i64 W, .int .i64 C, .slice A n c] 29)).alloc (.cells #[x0, x1, x2, .int .i64 (kk : Int), .int .i64 S, .int .i64 P, .int .i64 O, .int .i8 Z, x8, .slice WA nW cW, .slice BA nB cB, x11, x12, x13, x14, x15, x16, x17, x18] 35))) := Lib.hid (((Below.refl _ _).alloc (Nat.le_refl _) _).alloc (by simp) _)
  have zz : w.heap.size + 2 ≤ ((w.alloc (.cells #[.int .i64 H, .int .i64 W, .int .i64 C, .slice A n c] 29)).alloc (.cells #[x0, x1, x2, .int .i64 (kk : Int), .int .i64 S, .int .i64 P, .int .i64 O, .int .i8 Z, x8, .slice WA nW cW, .slice BA nB cB, x11, x12, x13, x14, x15, x16, x17, x18] 35)).heap.size := by simp
  clear hnd
  generalize (w.alloc (.cells #[.int .i64 H, .int .i64 W, .int .i64 C, .slice A n c] 29)).alloc (.cells #[x0, x1, x2, .int .i64 (kk : Int), .int .i64 S, .int .i64 P, .int .i64 O, .int .i8 Z, x8, .slice WA nW cW, .slice BA nB cB, x11, x12, x13, x14, x15, x16, x17, x18] 35) = Wm at TB TN HB0 zz ⊢
  go_loopw [11, 12] (fun s u wr => ∃ i : Nat, i ≤ kk ∧ u = .int .i64 i ∧ Hid (wr.ownsRow (w.heap.size + 2) 30 1 s (rowsL zs H W C top left kk o i).length (I8s (rowsL zs H W C top left kk o i))) ∧ Hid (BoxAt w.heap.size H W C A n c wr) ∧ Hid (NodeAt (w.heap.size + 1) x0 x1 x2 x8 x11 x12 x13 x14 x15 x16 x17 x18 (kk : Int) S P O Z WA BA nW cW nB cB wr) ∧ Hid (Below w.heap.size w wr) ∧ w.heap.size + 2 ≤ wr.heap.size) (fun _ u _ => kk - (intOf u).toNat)
  case atStart => exact ⟨0, Nat.zero_le _, rfl, Lib.hid ⟨by simp [I8s, rowsL], .inl ⟨rfl, rfl⟩⟩, TB, TN, HB0, zz⟩
  case round =>
    obtain ⟨i, hi, rfl, OW, TB1, TN1, HB1, zz1⟩ := hrel
    clear TB TN HB0 zz
    have n3 := TN1.out.at 3 _ rfl
    by_cases hlt : i < kk
    · have hiI : (i : Int) < (kk : Int) := by omega
      have ow0 := OW.out
      rw [show rowsL zs H W C top left kk o i = rowsL zs H W C top left kk o i ++ colL zs H W C top left o i 0 by simp [colL]] at ow0
      have OW0 := Lib.hid ow0
      have hrl := rowsL_len zs H W C top left kk o i
      have hrl2 : i * kk ≤ 49 := Nat.le_trans (Nat.mul_le_mul (show i ≤ 7 by omega) hk7) (by omega)
      clear ow0
      go_wp2_with fail
      go_loopw [11, 13] (fun s u wr => ∃ j : Nat, j ≤ kk ∧ u = .int .i64 j ∧ Hid (wr.ownsRow (w.heap.size + 2) 30 1 s (rowsL zs H W C top left kk o i ++ colL zs H W C top left o i j).length (I8s (rowsL zs H W C top left kk o i ++ colL zs H W C top left o i j))) ∧ Hid (BoxAt w.heap.size H W C A n c wr) ∧ Hid (NodeAt (w.heap.size + 1) x0 x1 x2 x8 x11 x12 x13 x14 x15 x16 x17 x18 (kk : Int) S P O Z WA BA nW cW nB cB wr) ∧ Hid (Below w.heap.size w wr) ∧ w.heap.size + 2 ≤ wr.heap.size) (fun _ u _ => kk - (intOf u).toNat)
      case atStart => exact ⟨0, Nat.zero_le _, rfl, OW0, TB1, TN1, HB1, zz1⟩
      case round =>
        obtain ⟨j, hj, rfl, OW1, TB2, TN2, HB2, zz2⟩ := hrel
        clear OW OW0 TB1 TN1 HB1 zz1 n3
        have n3 := TN2.out.at 3 _ rfl
        obtain ⟨Av, cv, rfl, -, -, -⟩ := Kit.own_rd OW1.out
        by_cases hltj : j < kk
        · have hjI : (j : Int) < (kk : Int) := by omega
          have n4 := TN2.out.at 4 _ rfl
          have n5 := TN2.out.at 5 _ rfl
          have hcl := colL_len zs H W C top left o i j
          obtain ⟨yv, hyv⟩ : ∃ yv, top + (i : Int) = yv := ⟨_, rfl⟩
          obtain ⟨xv, hxv⟩ : ∃ xv, left + (j : Int) = xv := ⟨_, rfl⟩
          have e1 : IntKind.i64.wrap (hs0 + (i : Int)) = hs0 + (i : Int) := IntWalk.i64_in _ (by omega)
          have e2 : IntKind.i64.wrap (vs0 + (j : Int)) = vs0 + (j : Int) := IntWalk.i64_in _ (by omega)
          have e3 : IntKind.i64.wrap (hs0 + (i : Int) - P) = yv := by rw [IntWalk.i64_in _ (by omega)]; have := HTP.out; omega
          have e4 : IntKind.i64.wrap (vs0 + (j : Int) - P) = xv := by rw [IntWalk.i64_in _ (by omega)]; have := HLF.out; omega
          obtain ⟨L1, hL1⟩ : ∃ L1, rowsL zs H W C top left kk o i ++ colL zs H W C top left o i j = L1 := ⟨_, rfl⟩
          have hlen : L1.length ≤ 56 := by rw [← hL1, List.length_append]; omega
          have hnx : rowsL zs H W C top left kk o i ++ colL zs H W C top left o i (j + 1) = L1 ++ hereL zs H W C top left o i j := by
            rw [← hL1]; show _ ++ (_ ++ _) = _; rw [List.append_assoc]
          rw [hL1] at OW1 ⊢
          have HNX := Lib.hid hnx
          have HYV := Lib.hid hyv
          have HXV := Lib.hid hxv
          clear hyv hxv hnx hL1 hcl
          go_wp2_with fail
          go_quiet (fail)
          clear e1 e2 e3 e4 n4 n5
          have hbq : Below wr.heap.size wr (wr.drewN nq) := Kit.below_drewN (Below.refl _ _) nq
          replace TB2 : Hid (BoxAt w.heap.size H W C A n c (wr.drewN nq)) := Lib.hid (TB2.out.below (B' := wr.heap.size) (by omega) hbq)
          replace TN2 : Hid (NodeAt (w.heap.size + 1) x0 x1 x2 x8 x11 x12 x13 x14 x15 x16 x17 x18 (kk : Int) S P O Z WA BA nW cW nB cB (wr.drewN nq)) := Lib.hid (TN2.out.below (B' := wr.heap.size) (by omega) hbq)
          replace HB2 := Lib.hid (Kit.below_drewN HB2.out nq)
          replace OW1 := Lib.hid (Kit.own_below OW1.out hbq)
          replace zz2 : w.heap.size + 2 ≤ (wr.drewN nq).heap.size := zz2
          clear hbq
          generalize wr.drewN nq = Wq at TB2 TN2 HB2 OW1 zz2 ⊢
          obtain ⟨tb0, tb1, tb2, tb3⟩ := TB2.out
          by_cases hin : 0 ≤ yv ∧ yv < H ∧ 0 ≤ xv ∧ xv < W
          · obtain ⟨i1, i2, i3, i4⟩ := hin
            have hhere : hereL zs H W C top left o i j = [zs.getD ((yv * W + xv) * C + (o : Int)).toNat 0] := by
              unfold hereL
              rw [HYV.out, HXV.out, if_pos ⟨i1, i2, i3, i4⟩]
            obtain ⟨x, hx⟩ : ∃ x, zs.getD ((yv * W + xv) * C + (o : Int)).toNat 0 = x := ⟨_, rfl⟩
            rw [hx] at hhere
            have HHE := Lib.hid hhere
            have HXX := Lib.hid hx
            have ho0 : (0 : Int) ≤ (o : Int) := by omega
            clear hx hhere
            go_wp2_with (first
              | (go_at_call 30; refine (CPad.get_to H W C A zs n c HN.out HT.out yv xv (o : Int) i1 i2 i3 i4 ho0 hoC x HXX.out (B := w.heap.size) _ HB2.out.size (HR.out.below HB2.out)).mono ?_; rintro e Wb ⟨rfl, hb1⟩; replace TB2 := Lib.hid (TB2.out.below (B' := Wq.heap.size) (by omega) hb1); replace TN2 := Lib.hid (TN2.out.below (B' := Wq.heap.size) (by omega) hb1); replace HB2 := Lib.hid (HB2.out.trans (hb1.mono HB2.out.size)); replace OW1 := Lib.hid (Kit.own_below OW1.out hb1); replace zz2 := Nat.le_trans zz2 hb1.size; clear hb1 tb0 tb1 tb2 tb3)
              | (at_builtin; refine Kit.wpList_append_rd _ rfl (.tmp 66) (.tmp 72) _ rfl (w.heap.size + 2) 30 i0 (.int .i8 0) 1 1 Try.underlying27 HI.out.1 HI.out.2.1 HI.out.2.2.1 HI.out.2.2.2 rfl (by decide) _ L1.length (I8s L1) rfl (Kit.own_below OW1.out ((Below.refl _ _).alloc (Nat.le_refl _) _)) _ _ 1 1 [.int .i8 x] rfl rfl (Kit.Rd.new _ _ _ (Nat.lt_succ_self _)) ?_ ?_ ?_ ?_ ?_; (exact Kit.ints_one .i8 [x]); (unfold maxLen; omega); (omega); (simp; omega); intro v2 w5 hown2 hg2 hat2))
            have hal : Below (w.heap.size + 2) Wb (Wb.alloc (.cells #[.int .i8 x] 30)) := (Below.refl _ _).alloc zz2 _
            have hB5 : Below (w.heap.size + 2) Wb w5 := hal.grown hg2 (by simp; omega) (fun q hq => Kit.own_block_ge OW1.out q hq)
            have e5 : I8s L1 ++ [.int .i8 x] = I8s (rowsL zs H W C top left kk o i ++ colL zs H W C top left o i (j + 1)) := by rw [HNX.out, HHE.out, I8s_app]; rfl
            have e6 : L1.length + 1 = (rowsL zs H W C top left kk o i ++ colL zs H W C top left o i (j + 1)).length := by rw [HNX.out, HHE.out, List.length_append]; rfl
            rw [e5, e6] at hown2
            have HO5 := Lib.hid hown2
            replace TB2 := Lib.hid (TB2.out.below (B' := w.heap.size + 2) (by omega) hB5)
            replace TN2 := Lib.hid (TN2.out.below (B' := w.heap.size + 2) (by omega) hB5)
            replace HB2 := Lib.hid (HB2.out.trans (hB5.mono (by omega)))
            replace zz2 := Nat.le_trans zz2 hB5.size
            clear hown2 hg2 hat2 hB5 hal e5 e6
            go_roundw
            case rel => exact ⟨j + 1, by omega, by go_num, HO5, TB2, TN2, HB2, zz2⟩
            case measure => simp [intOf]; omega
          · have hhere : hereL zs H W C top left o i j = [] := by
              unfold hereL
              rw [HYV.out, HXV.out, if_neg hin]
            have OW2 : Hid (Wq.ownsRow (w.heap.size + 2) 30 1 (.slice Av L1.length cv) (rowsL zs H W C top left kk o i ++ colL zs H W C top left o i (j + 1)).length (I8s (rowsL zs H W C top left kk o i ++ colL zs H W C top left o i (j + 1)))) := Lib.hid (by rw [HNX.out, hhere, List.append_nil]; exact OW1.out)
            clear hhere
            rcases (show yv < 0 ∨ (0 ≤ yv ∧ H ≤ yv) ∨ (0 ≤ yv ∧ yv < H ∧ xv < 0) ∨ (0 ≤ yv ∧ yv < H ∧ 0 ≤ xv ∧ W ≤ xv) by omega) with i1 | ⟨i1, i2⟩ | ⟨i1, i2, i3⟩ | ⟨i1, i2, i3, i4⟩
            all_goals
              clear hin
              go_wp2_with fail
              go_roundw
              case rel => exact ⟨j + 1, by omega, by go_num, OW2, TB2, TN2, HB2, zz2⟩
              case measure => simp [intOf]; omega
        · obtain rfl : j = kk := by omega
          go_wp2_with fail
          go_roundw
          case rel => exact ⟨i + 1, by omega, by go_num, OW1, TB2, TN2, HB2, zz2⟩
          case measure => simp [intOf]; omega
    · obtain rfl : i = kk := by omega
      have hfin := OW.out
      rw [show rowsL zs H W C top left i o i = L from HLL.out] at hfin
      have HFI := Lib.hid hfin
      clear hfin
      obtain ⟨Av, cv, e9, -, -, -⟩ := Kit.own_rd HFI.out
      subst e9
      go_wp2_with fail
      go_ret
      exact ⟨_, rfl, Kit.own_base HFI.out (by omega), HB1.out⟩
end Go.Proofs.Ytccngjgbhbeobaa.CPool
