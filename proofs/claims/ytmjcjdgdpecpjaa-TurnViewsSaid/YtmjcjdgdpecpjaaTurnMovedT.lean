/- Layer 23 (turn), the code: a tensor whose numbers are moved by turned$1. -/
import Derived.Test.YtmjcjdgdpecpjaaTurnMv
namespace Go.Proofs.Ytmjcjdgdpecpjaa.CTurn
open Go Go.ChangeShapes Go.WideShapes Go.ChangeAt Go.RowKit Go.Deep
open Plain CSat CShape CTensor CPad FloatNum
set_option linter.unusedVariables false

set_option maxRecDepth 100000 in
set_option maxHeartbeats 8000000 in
theorem cmovedT_to (H W C U V : Int) (A : Option Addr) (zs : List Int) (n c : Nat) (hn : zs.length = n) (hnc : n ≤ c) (ht : tensB H W C n = true) (hs2 : shapeB U V C = true) (a b d AA B : Nat) (hH : H = (a : Int)) (hW : W = (b : Int)) (hC : C = (d : Int)) (hU : U = (AA : Int)) (hV : V = (B : Int))
    (u v q : Nat) (r : G) (hu : IsF u r.1) (hv : IsF v r.2) (hr1 : Bd 1 r) (tH tW : Nat → Nat → Nat) (htau : ∀ i j : Nat, i < a → j < b → gmul r (plC a b i j) = plC U V (tH i j) (tW i j) ∧ tH i j < AA ∧ tW i j < B) (hon : ∀ x y, x < AA → y < B → ∃ i j, i < a ∧ j < b ∧ tH i j = x ∧ tW i j = y)
    (hN : a * b = AA * B) (F : Nat → Int) (hF : ∀ i j k : Nat, i < a → j < b → k < d → F ((tH i j * B + tW i j) * d + k) = zs.getD ((i * b + j) * d + k) 0)
    (w : World) (hqc : w.cell? ⟨q, 0, none⟩ = some (.complex .f64 u v)) (hql : q < w.heap.size) (hr : Kit.Rd w w.heap.size A (I8s zs)) :
    Calls Try.prog 24 #[.agg #[.int .i64 H, .int .i64 W, .int .i64 C, .slice A n c], .agg #[.int .i64 U, .int .i64 V, .int .i64 C], .func (.func 25) #[] #[.pointer (some ⟨q, 0, none⟩)]] w (MadeU w U V C n (rowL F n)) := by
  obtain ⟨hs1, hmz⟩ : shapeB H W C = true ∧ (n : Int) = H * W * C := by simpa [tensB] using ht
  obtain ⟨s1, s2, s3, s4, s5, s6, s7⟩ := shapeB_yes hs1
  obtain ⟨r1, r2, r3, r4, r5, r6, r7⟩ := shapeB_yes hs2
  have hm : a * b * d = n := by
    have : ((a * b * d : Nat) : Int) = (n : Int) := by rw [hmz, hH, hW, hC]; simp
    omega
  have hn1 : 0 < n := by
    rw [← hm]
    exact Nat.mul_pos (Nat.mul_pos (by omega) (by omega)) (by omega)
  have hn2 : n ≤ 1024 := by omega
  have hm2 : AA * B * d = n := by rw [← hN]; exact hm
  have hd1 : 0 < d := by omega
  have haI : a ≤ 16 := by omega
  have hbI : b ≤ 16 := by omega
  have hAI : AA ≤ 16 := by omega
  have hBI : B ≤ 16 := by omega
  have hCI : C ≤ 1024 := by omega
  have HS1 := Lib.hid hs1
  have HS2 := Lib.hid hs2
  have HN := Lib.hid hn
  have HH := Lib.hid hH
  have HWW := Lib.hid hW
  have HC := Lib.hid hC
  have HU := Lib.hid hU
  have HV := Lib.hid hV
  have HT := Lib.hid htau
  have HON := Lib.hid hon
  have HF := Lib.hid hF
  have HNN := Lib.hid hN
  have HM := Lib.hid hm
  have HM2 := Lib.hid hm2
  have HR := Lib.hid hr
  have hszz : (Try.prog.info? 37).map (·.size) = some 1 := by kernel_rfl
  have HSZ := Lib.hid hszz
  have HQC := Lib.hid hqc
  have HUF := Lib.hid hu
  have HVF := Lib.hid hv
  clear hs1 hs2 hmz hn hH hW hC hU hV htau hon hF hN hm hm2 hr ht hszz hqc hu hv
  obtain ⟨i0, hi0, hi1, hi2, hi3⟩ := info_partst info_i8m
  go_enter Try.func24, Try.ntmps24
  go_upto_region 2 with (at_make; refine wpList_make_full _ rfl (.tmp 18) (.tmp 18) _ rfl (w.heap.size + 3) 37 i0 (.int .i8 0) 1 Try.underlying24 hi0 hi1 hi2 .i64 .i64 _ _ n rfl rfl rfl rfl (by rw [hi3]; omega) (by unfold maxLen; omega) (by simp) ?_; intro w2 hown hg2)
  have hb2 : Below (w.heap.size + 3) (((w.alloc (.cells #[.int .i64 H, .int .i64 W, .int .i64 C, .slice A n c] 26)).alloc (.cells #[.int .i64 U, .int .i64 V, .int .i64 C] 23)).alloc (.cells #[.int .i64 0, .int .i64 0, .int .i64 0, .slice none 0 0] 26)) w2 := (Below.refl _ _).grown hg2 (by simp) (fun q hq => by cases hq)
  rw [show (madeCells (Value.int IntKind.i8 0).cells (n * 1)).toList = I8s (rowL (mvF (tauN tH tW b B) F d 0) n) by rw [mv_zero, Nat.mul_one]; exact toList_madeCells_one _ _] at hown
  simp only [World.size_alloc] at hown ⊢
  try rw [show w.heap.size + 1 + 1 + 1 = w.heap.size + 3 from rfl] at hown
  try rw [show w.heap.size + 1 + 1 + 1 = w.heap.size + 3 from rfl]
  try rw [show w.heap.size + 1 + 1 = w.heap.size + 2 from rfl]
  have hrh := RowH.of hown hn1
  have hgl : w.heap.size + 3 < w2.heap.size := by
    unfold RowH at hrh
    exact (Array.getElem?_eq_some_iff.1 hrh).1
  have HW0 := Lib.hid (MvAt.new w H W C A n c U V rfl hb2 hgl)
  have HO0 := Lib.hid hrh
  clear hown hb2 hg2 hrh hi0 hi1 hi2 hi3
  obtain ⟨⟨⟨c0, c1, c2, c3⟩, d0, d1, d2⟩, -⟩ := HW0.out
  go_wp2_with fail
  clear c0 c1 c2 c3 d0 d1 d2
  go_loopw [23] (fun x wr => ∃ i : Nat, i ≤ a ∧ x = .int .i64 i ∧ Hid (MvAt w H W C A n c U V wr) ∧ Hid (RowH w (I8s (rowL (mvF (tauN tH tW b B) F d (i * b)) n)) wr)) (fun x _ => a - (intOf x).toNat)
  case atStart => exact ⟨0, Nat.zero_le _, rfl, HW0, by rw [Nat.zero_mul]; exact HO0⟩
  case round =>
    obtain ⟨i, hi, rfl, HW1, HO1⟩ := hrel
    clear HW0 HO0
    obtain ⟨⟨⟨c0, c1, c2, c3⟩, d0, d1, d2⟩, -⟩ := HW1.out
    by_cases hlt : i < a
    · have hiI : (i : Int) < H := by have := HH.out; omega
      go_wp2_with fail
      clear c0 c1 c2 c3 d0 d1 d2
      go_loopw [29] (fun x wr => ∃ j : Nat, j ≤ b ∧ x = .int .i64 j ∧ Hid (MvAt w H W C A n c U V wr) ∧ Hid (RowH w (I8s (rowL (mvF (tauN tH tW b B) F d (i * b + j)) n)) wr)) (fun x _ => b - (intOf x).toNat)
      case atStart => exact ⟨0, Nat.zero_le _, rfl, HW1, HO1⟩
      case round =>
        obtain ⟨j, hj, rfl, HW2, HO2⟩ := hrel
        clear HW1 HO1
        obtain ⟨⟨⟨c0, c1, c2, c3⟩, d0, d1, d2⟩, -⟩ := HW2.out
        by_cases hlj : j < b
        · have hjW : (j : Int) < W := by have := HWW.out; omega
          have hi00 : (0 : Int) ≤ (i : Int) := by omega
          have hj00 : (0 : Int) ≤ (j : Int) := by omega
          obtain ⟨htt, hx1, hy1⟩ := HT.out i j hlt hlj
          have hFk := HF.out i j
          obtain ⟨hgr1, hgr2⟩ := group_in HM.out hlt hlj
          obtain ⟨hgt1, hgt2⟩ := group_in HM2.out hx1 hy1
          obtain ⟨kk, hkk⟩ : ∃ kk, i * b + j = kk := ⟨_, rfl⟩
          have htn := tauN_at tH tW (B := B) (i := i) hlj
          rw [hkk] at htn
          obtain ⟨gg, hgg⟩ : ∃ gg, tH i j * B + tW i j = gg := ⟨_, rfl⟩
          rw [hgg] at htn
          obtain ⟨bz, oz, rfl, hbz, hcz⟩ := ints_getDT HR.out (j := 0) (by have := HN.out; omega)
          have hset := mv_set (tauN tH tW b B) F (m := n) hd1 htn (by rw [← hgg]; exact hgt1) (I8s (rowL (fun c => F (gg * d + c)) d)) rfl
          have hsrc : ∀ k v, (I8s (rowL (fun c => F (gg * d + c)) d))[k]? = some v → w.cell? ⟨bz, oz + (kk * d + k), none⟩ = some v := fun k v hk => by
            have hkd : k < d := by
              rcases Nat.lt_or_ge k d with h | h
              · exact h
              · rw [List.getElem?_eq_none (by rw [i8_len]; exact h)] at hk; cases hk
            rw [i8_get _ hkd] at hk
            cases hk
            have h1 := hcz (kk * d + k) (by rw [HN.out]; rw [hkk] at hgr1; omega)
            rw [h1, ← hgg, hFk k hlt hlj hkd, hkk]
          obtain ⟨qf, hqf⟩ : ∃ qf, kk * d = qf := ⟨_, rfl⟩
          obtain ⟨qt, hqt⟩ : ∃ qt, gg * d = qt := ⟨_, rfl⟩
          obtain ⟨ix1, ix2⟩ := run_idx (q := qf) HH.out HWW.out HC.out hlt hlj hd1 HS1.out rfl rfl (by rw [hkk]; exact hqf)
          obtain ⟨iy1, iy2⟩ := run_idx (q := qt) HU.out HV.out HC.out hx1 hy1 hd1 HS2.out rfl rfl (by rw [hgg]; exact hqt)
          have IX := Lib.hid (fun wd => index_to H W C i j 0 qf true ix1 ix2 wd)
          have IY := Lib.hid (fun wd => index_to U V C (tH i j) (tW i j) 0 qt true iy1 iy2 wd)
          obtain ⟨hpb, hps⟩ := plC_bd (H := a) (W := b) (h := i) (w := j) (by omega) (by omega) (by omega) (by omega) hi00 (by omega) hj00 (by omega)
          have PL := Lib.hid (fun wd => cplace_to H W C i j s1 s2 s3 s4 hi00 hiI hj00 hjW wd)
          rw [hqt] at hset
          rw [hqf, hqt] at hsrc
          rw [hkk, hqf] at hgr1
          rw [hgg, hqt] at hgt1
          have hxU : ((tH i j : Nat) : Int) < U := by have := HU.out; omega
          have hyV : ((tW i j : Nat) : Int) < V := by have := HV.out; omega
          generalize tH i j = x at *
          generalize tW i j = y at *
          have hx00 : (0 : Int) ≤ (x : Int) := by omega
          have hy00 : (0 : Int) ≤ (y : Int) := by omega
          have POS := Lib.hid (fun (p1 p2 : Nat) h1 h2 wd => cposition_to U V C x y p1 p2 r1 r2 r3 r4 hx00 hxU hy00 hyV h1 h2 wd)
          have HTT := Lib.hid htt
          have HPB := Lib.hid hpb
          have HPS := Lib.hid hps
          have HSET := Lib.hid hset
          have HSRC := Lib.hid hsrc
          rw [hkk] at HO2
          have HKK := Lib.hid hkk
          have hHab : plC (a : Int) b i j = plC H W i j := by rw [HH.out, HWW.out]
          have HPLA := Lib.hid hHab
          clear htt hFk hcz hset hsrc hgg hqt hqf hkk ix1 ix2 iy1 iy2 hpb hps htn hgr2 hgt2 hHab
          -- region 8: the place taken from
          go_upto_region 9 with (go_at_call 29; (refine (IX.out _).mono ?_); rintro e w4 ⟨rfl, hb4⟩; (have hsz4 := HW2.out.2.2.2); (have HW4 := Lib.hid (HW2.out.below (hb4.mono (by omega)))); (have HO4 := Lib.hid (HO2.out.below hsz4 hb4)); clear HW2 HO2 c0 c1 c2 c3 d0 d1 d2 hb4 hsz4)
          refine wp_region_held_drew (S := TwoAt w.heap.size H W C (some ⟨bz, oz, none⟩) n c U V) (by kernel_rfl) HW4.out.1 (fun hHeld => ?_)
          replace HW4 := Lib.hid (HW4.out.below (Below.refl _ _).drew)
          replace HO4 : Hid (RowH w (I8s (rowL (mvF (tauN tH tW b B) F d kk) n)) w4.drew) := Lib.hid HO4.out
          generalize w4.drew = W4 at HW4 HO4 hHeld ⊢
          refine wpAnyH_take (i := 0) (oi := ({ dst := some 41, op := Op.load 23 (Operand.tmp 4), type := 23, pos := "turn.go:53", after := #[], guard := none } : Oper)) (v := ?_) rfl (by kernel_rfl) (by kernel_rfl) (by kernel_rfl) (fun _ _ _ h => h) (Or.inl ⟨by rfl, ?_⟩) (by assumption) ?_
          rotate_left
          · intro wS hSw
            obtain ⟨⟨c0, c1, c2, c3⟩, d0, d1, d2⟩ := hSw
            first
              | (go_simp; done)
              | (go_simp; with_reducible rfl)
          try simp only [Act.put, List.setIfInBounds_toArray, List.set_cons_zero, List.set_cons_succ]
          refine wpAnyH_take (i := 1) (oi := ({ dst := some 42, op := Op.move (Operand.tmp 2), type := 48, pos := "turn.go:53", after := #[], guard := none } : Oper)) (v := ?_) rfl (by kernel_rfl) (by kernel_rfl) (by kernel_rfl) (fun _ _ _ h => h) (Or.inl ⟨by rfl, ?_⟩) (by assumption) ?_
          rotate_left
          · intro wS hSw
            first
              | (go_simp; done)
              | (go_simp; with_reducible rfl)
          try simp only [Act.put, List.setIfInBounds_toArray, List.set_cons_zero, List.set_cons_succ]
          refine wpAnyH_take (i := 2) (oi := ({ dst := some 43, op := Op.fieldAddr 26 (Operand.tmp 3) 0, type := 0, pos := "turn.go:53", after := #[], guard := none } : Oper)) (v := ?_) rfl (by kernel_rfl) (by kernel_rfl) (by kernel_rfl) (fun _ _ _ h => h) (Or.inl ⟨by rfl, ?_⟩) (by assumption) ?_
          rotate_left
          · intro wS hSw
            first
              | (go_simp; done)
              | (go_simp; with_reducible rfl)
          try simp only [Act.put, List.setIfInBounds_toArray, List.set_cons_zero, List.set_cons_succ]
          refine wpAnyH_take (i := 3) (oi := ({ dst := some 44, op := Op.load 23 (Operand.tmp 43), type := 23, pos := "turn.go:53", after := #[{ on := 2, ground := Ground.data }], guard := none } : Oper)) (v := ?_) rfl (by kernel_rfl) (by kernel_rfl) (by kernel_rfl) (fun _ _ _ h => h) (Or.inl ⟨by rfl, ?_⟩) (by assumption) ?_
          rotate_left
          · intro wS hSw
            obtain ⟨⟨c0, c1, c2, c3⟩, d0, d1, d2⟩ := hSw
            first
              | (go_simp; done)
              | (go_simp; with_reducible rfl)
          try simp only [Act.put, List.setIfInBounds_toArray, List.set_cons_zero, List.set_cons_succ]
          refine wpAnyH_take (i := 4) (oi := ({ dst := some 45, op := Op.move (Operand.tmp 8), type := 3, pos := "turn.go:53", after := #[], guard := none } : Oper)) (v := ?_) rfl (by kernel_rfl) (by kernel_rfl) (by kernel_rfl) (fun _ _ _ h => h) (Or.inl ⟨by rfl, ?_⟩) (by assumption) ?_
          rotate_left
          · intro wS hSw
            first
              | (go_simp; done)
              | (go_simp; with_reducible rfl)
          try simp only [Act.put, List.setIfInBounds_toArray, List.set_cons_zero, List.set_cons_succ]
          refine wpAnyH_take (i := 5) (oi := ({ dst := some 46, op := Op.move (Operand.tmp 9), type := 3, pos := "turn.go:53", after := #[], guard := none } : Oper)) (v := ?_) rfl (by kernel_rfl) (by kernel_rfl) (by kernel_rfl) (fun _ _ _ h => h) (Or.inl ⟨by rfl, ?_⟩) (by assumption) ?_
          rotate_left
          · intro wS hSw
            first
              | (go_simp; done)
              | (go_simp; with_reducible rfl)
          try simp only [Act.put, List.setIfInBounds_toArray, List.set_cons_zero, List.set_cons_succ]
          refine wpAnyH_ready (rs := [6]) (by kernel_rfl) (by simp) ?_
          refine AllReadyH.cons (o := ({ dst := some 47, op := Op.call { callee := Callee.value (Operand.func 31), args := #[Operand.tmp 44, Operand.tmp 45, Operand.tmp 46], argTypes := #[23, 3, 3] }, type := 46, pos := "turn.go:53", after := #[{ on := 3, ground := Ground.data }, { on := 4, ground := Ground.data }, { on := 5, ground := Ground.data }], guard := none } : Oper)) rfl (fun Kq hK => ?_) (AllReadyH.nil)
          go_simp
          go_at_call 31
          refine (PL.out _).mono ?_
          rintro e W5 ⟨⟨p1, p2, rfl, hp1, hp2⟩, hb1⟩
          have hsz := HW4.out.2.2.2
          have hS1 : TwoAt w.heap.size H W C (some ⟨bz, oz, none⟩) n c U V W5 := hHeld.below (by omega) hb1
          have HW5 := Lib.hid (HW4.out.below (hb1.mono (by omega)))
          have HO5 := Lib.hid (HO4.out.below hsz hb1)
          clear hHeld hb1 hsz HW4 HO4
          rw [← HPLA.out] at hp1 hp2
          have HP1 := Lib.hid hp1
          have HP2 := Lib.hid hp2
          clear hp1 hp2
          dsimp only
          refine hK.out _ _ ?_ (fun hHeld => ?_)
          · exact hS1
          clear hK Kq
          try simp only [Act.put, List.setIfInBounds_toArray, List.set_cons_zero, List.set_cons_succ]
          refine wpAnyH_ready (rs := [7]) (by kernel_rfl) (by simp) ?_
          refine AllReadyH.cons (o := ({ dst := some 48, op := Op.call { callee := Callee.value (Operand.tmp 42), args := #[Operand.tmp 47], argTypes := #[46] }, type := 46, pos := "turn.go:53", after := #[{ on := 1, ground := Ground.data }, { on := 6, ground := Ground.data }, { on := 6, ground := Ground.chain }], guard := none } : Oper)) rfl (fun Kq hK => ?_) (AllReadyH.nil)
          go_simp
          go_at_call 25
          refine (cturned1_to p1 p2 u v q (plC a b i j) r HP1.out HP2.out HUF.out HVF.out HPB.out hr1 _ ((HW5.out.2.2.1.cell (p := ⟨q, 0, none⟩) hql).trans HQC.out)).mono ?_
          rintro e W5 ⟨⟨p3, p4, rfl, hp3, hp4⟩, rfl⟩
          rw [HTT.out] at hp3 hp4
          have HP3 := Lib.hid hp3
          have HP4 := Lib.hid hp4
          clear hp3 hp4
          dsimp only
          refine hK.out _ _ ?_ (fun hHeld => ?_)
          · exact hHeld
          clear hK Kq
          try simp only [Act.put, List.setIfInBounds_toArray, List.set_cons_zero, List.set_cons_succ]
          refine wpAnyH_ready (rs := [8]) (by kernel_rfl) (by simp) ?_
          refine AllReadyH.cons (o := ({ dst := some 49, op := Op.call { callee := Callee.value (Operand.func 30), args := #[Operand.tmp 41, Operand.tmp 48], argTypes := #[23, 46] }, type := 55, pos := "turn.go:53", after := #[{ on := 0, ground := Ground.data }, { on := 7, ground := Ground.data }, { on := 7, ground := Ground.chain }], guard := none } : Oper)) rfl (fun Kq hK => ?_) (AllReadyH.nil)
          go_simp
          go_at_call 30
          refine (POS.out p3 p4 HP3.out HP4.out _).mono ?_
          rintro e W7 ⟨rfl, hb1⟩
          have hsz := HW5.out.2.2.2
          have hS1 : TwoAt w.heap.size H W C (some ⟨bz, oz, none⟩) n c U V W7 := hHeld.below (by omega) hb1
          have HW7 := Lib.hid (HW5.out.below (hb1.mono (by omega)))
          have HO7 := Lib.hid (HO5.out.below hsz hb1)
          clear hHeld hb1 hsz HW5 HO5
          dsimp only
          refine hK.out _ _ ?_ (fun hHeld => ?_)
          · exact hS1
          clear hK Kq
          try simp only [Act.put, List.setIfInBounds_toArray, List.set_cons_zero, List.set_cons_succ]
          refine wpAnyH_take (i := 9) (oi := ({ dst := some 40, op := Op.move (Operand.tmp 49), type := 55, pos := "turn.go:53", after := #[{ on := 8, ground := Ground.data }], guard := none } : Oper)) (v := ?_) rfl (by kernel_rfl) (by kernel_rfl) (by kernel_rfl) (fun _ _ _ h => h) (Or.inl ⟨by rfl, ?_⟩) (by assumption) ?_
          rotate_left
          · intro wS hSw
            first
              | (go_simp; done)
              | (go_simp; with_reducible rfl)
          try simp only [Act.put, List.setIfInBounds_toArray, List.set_cons_zero, List.set_cons_succ]
          refine wpAnyH_take (i := 10) (oi := ({ dst := some 50, op := Op.extract (Operand.tmp 40) 0, type := 3, pos := "turn.go:53", after := #[{ on := 9, ground := Ground.data }], guard := none } : Oper)) (v := ?_) rfl (by kernel_rfl) (by kernel_rfl) (by kernel_rfl) (fun _ _ _ h => h) (Or.inl ⟨by rfl, ?_⟩) (by assumption) ?_
          rotate_left
          · intro wS hSw
            first
              | (go_simp; done)
              | (go_simp; with_reducible rfl)
          try simp only [Act.put, List.setIfInBounds_toArray, List.set_cons_zero, List.set_cons_succ]
          refine wpAnyH_take (i := 11) (oi := ({ dst := some 51, op := Op.extract (Operand.tmp 40) 1, type := 3, pos := "turn.go:53", after := #[{ on := 9, ground := Ground.data }, { on := 12, ground := Ground.gcOnly Departure.lateStores }], guard := none } : Oper)) (v := ?_) rfl (by kernel_rfl) (by kernel_rfl) (by kernel_rfl) (fun _ _ _ h => h) (Or.inl ⟨by rfl, ?_⟩) (by assumption) ?_
          rotate_left
          · intro wS hSw
            first
              | (go_simp; done)
              | (go_simp; with_reducible rfl)
          try simp only [Act.put, List.setIfInBounds_toArray, List.set_cons_zero, List.set_cons_succ]
          refine wpAnyH_take (i := 12) (oi := ({ dst := some 12, op := Op.assign (Operand.tmp 50), type := 3, pos := "turn.go:53", after := #[{ on := 10, ground := Ground.data }, { on := 8, ground := Ground.chain }, { on := 0, ground := Ground.phase }, { on := 1, ground := Ground.phase }, { on := 2, ground := Ground.phase }, { on := 3, ground := Ground.phase }, { on := 4, ground := Ground.phase }, { on := 5, ground := Ground.phase }, { on := 6, ground := Ground.phase }, { on := 7, ground := Ground.phase }, { on := 8, ground := Ground.phase }, { on := 9, ground := Ground.phase }, { on := 10, ground := Ground.phase }, { on := 11, ground := Ground.textOnly Departure.lateStores }], guard := none } : Oper)) (v := ?_) rfl (by kernel_rfl) (by kernel_rfl) (by kernel_rfl) (fun _ _ _ h => h) (Or.inl ⟨by rfl, ?_⟩) (by assumption) ?_
          rotate_left
          · intro wS hSw
            first
              | (go_simp; done)
              | (go_simp; with_reducible rfl)
          try simp only [Act.put, List.setIfInBounds_toArray, List.set_cons_zero, List.set_cons_succ]
          refine wpAnyH_take (i := 13) (oi := ({ dst := some 13, op := Op.assign (Operand.tmp 51), type := 3, pos := "turn.go:53", after := #[{ on := 11, ground := Ground.data }, { on := 12, ground := Ground.chain }, { on := 0, ground := Ground.phase }, { on := 1, ground := Ground.phase }, { on := 2, ground := Ground.phase }, { on := 3, ground := Ground.phase }, { on := 4, ground := Ground.phase }, { on := 5, ground := Ground.phase }, { on := 6, ground := Ground.phase }, { on := 7, ground := Ground.phase }, { on := 8, ground := Ground.phase }, { on := 9, ground := Ground.phase }, { on := 10, ground := Ground.phase }, { on := 11, ground := Ground.phase }, { on := 12, ground := Ground.phase }], guard := none } : Oper)) (v := ?_) rfl (by kernel_rfl) (by kernel_rfl) (by kernel_rfl) (fun _ _ _ h => h) (Or.inl ⟨by rfl, ?_⟩) (by assumption) ?_
          rotate_left
          · intro wS hSw
            first
              | (go_simp; done)
              | (go_simp; with_reducible rfl)
          try simp only [Act.put, List.setIfInBounds_toArray, List.set_cons_zero, List.set_cons_succ]
          refine wpAnyH_done (by kernel_rfl) ?_ _
          obtain ⟨⟨⟨c0, c1, c2, c3⟩, d0, d1, d2⟩, -⟩ := HW7.out
          clear hHeld
          go_upto_region 11 with (go_at_call 29; (refine (IY.out _).mono ?_); rintro e w8 ⟨rfl, hb8⟩; (have hsz8 := HW7.out.2.2.2); (have HW8 := Lib.hid (HW7.out.below (hb8.mono (by omega)))); (have HO8 := Lib.hid (HO7.out.below hsz8 hb8)); clear HW7 HO7 c0 c1 c2 c3 d0 d1 d2 hb8 hsz8)
          have e1 : IntKind.i64.wrap ((qf : Int) + C) = ((qf + d : Nat) : Int) := by rw [HC.out, ← Int.natCast_add]; exact IntWalk.i64_in _ (by omega)
          obtain ⟨qe, hqe⟩ : ∃ qe, qf + d = qe := ⟨_, rfl⟩
          rw [hqe] at e1
          have hqd : qe - qf = d := by omega
          have p1' : (0 : Int) ≤ (qf : Int) := by omega
          have p2' : (qf : Int) ≤ (qe : Int) := by omega
          have p3' : (qe : Int) ≤ (c : Int) := by omega
          have p4' : ¬ c = qf := by omega
          have p5' : ¬ qf = c := by omega
          have p6' : qf ≤ qe := by omega
          have p7' : qe ≤ c := by omega
          have q1' : (0 : Int) ≤ (qt : Int) := by omega
          have q2' : (qt : Int) ≤ (n : Int) := by omega
          have q3' : ¬ n = qt := by omega
          have q4' : ¬ qt = n := by omega
          have q5' : qt ≤ n := by omega
          have hmin : (I8s (rowL (fun c => F (qt + c)) d)).length = Nat.min d (n - qt) := by rw [i8_len]; show d = min d (n - qt); omega
          have hfit : qt + (I8s (rowL (fun c => F (qt + c)) d)).length ≤ (I8s (rowL (mvF (tauN tH tW b B) F d kk) n)).length := by rw [i8_len, i8_len]; omega
          have HMIN := Lib.hid hmin
          have HFIT := Lib.hid hfit
          clear hmin hfit hqe
          refine wp_region_held_drew (S := TwoAt w.heap.size H W C (some ⟨bz, oz, none⟩) n c U V) (by kernel_rfl) HW8.out.1 (fun hHeld => ?_)
          replace HW8 := Lib.hid (HW8.out.below (Below.refl _ _).drew)
          replace HO8 : Hid (RowH w (I8s (rowL (mvF (tauN tH tW b B) F d kk) n)) w8.drew) := Lib.hid HO8.out
          generalize w8.drew = W8 at HW8 HO8 hHeld ⊢
          refine wpAnyH_take (i := 0) (oi := ({ dst := some 59, op := Op.move (Operand.tmp 7), type := 24, pos := "turn.go:55", after := #[], guard := none } : Oper)) (v := ?_) rfl (by kernel_rfl) (by kernel_rfl) (by kernel_rfl) (fun _ _ _ h => h) (Or.inl ⟨by rfl, ?_⟩) (by assumption) ?_
          rotate_left
          · intro wS hSw
            first
              | (go_simp; done)
              | (go_simp; with_reducible rfl)
          try simp only [Act.put, List.setIfInBounds_toArray, List.set_cons_zero, List.set_cons_succ]
          refine wpAnyH_take (i := 1) (oi := ({ dst := some 60, op := Op.move (Operand.tmp 14), type := 3, pos := "turn.go:55", after := #[], guard := none } : Oper)) (v := ?_) rfl (by kernel_rfl) (by kernel_rfl) (by kernel_rfl) (fun _ _ _ h => h) (Or.inl ⟨by rfl, ?_⟩) (by assumption) ?_
          rotate_left
          · intro wS hSw
            first
              | (go_simp; done)
              | (go_simp; with_reducible rfl)
          try simp only [Act.put, List.setIfInBounds_toArray, List.set_cons_zero, List.set_cons_succ]
          refine wpAnyH_take (i := 2) (oi := ({ dst := some 61, op := Op.slice 24 (Operand.tmp 59) (some (Operand.tmp 60)) none none, type := 24, pos := "turn.go:55", after := #[{ on := 0, ground := Ground.data }, { on := 1, ground := Ground.data }], guard := none } : Oper)) (v := ?_) rfl (by kernel_rfl) (by kernel_rfl) (by kernel_rfl) (fun _ _ _ h => h) (Or.inl ⟨by rfl, ?_⟩) (by assumption) ?_
          rotate_left
          · intro wS hSw
            first
              | (go_simp; done)
              | (go_simp; with_reducible rfl)
          try simp only [Act.put, List.setIfInBounds_toArray, List.set_cons_zero, List.set_cons_succ]
          refine wpAnyH_take (i := 3) (oi := ({ dst := some 62, op := Op.fieldAddr 26 (Operand.tmp 3) 1, type := 0, pos := "turn.go:55", after := #[], guard := none } : Oper)) (v := ?_) rfl (by kernel_rfl) (by kernel_rfl) (by kernel_rfl) (fun _ _ _ h => h) (Or.inl ⟨by rfl, ?_⟩) (by assumption) ?_
          rotate_left
          · intro wS hSw
            first
              | (go_simp; done)
              | (go_simp; with_reducible rfl)
          try simp only [Act.put, List.setIfInBounds_toArray, List.set_cons_zero, List.set_cons_succ]
          refine wpAnyH_take (i := 4) (oi := ({ dst := some 63, op := Op.load 24 (Operand.tmp 62), type := 24, pos := "turn.go:55", after := #[{ on := 3, ground := Ground.data }], guard := none } : Oper)) (v := ?_) rfl (by kernel_rfl) (by kernel_rfl) (by kernel_rfl) (fun _ _ _ h => h) (Or.inl ⟨by rfl, ?_⟩) (by assumption) ?_
          rotate_left
          · intro wS hSw
            obtain ⟨⟨c0, c1, c2, c3⟩, d0, d1, d2⟩ := hSw
            first
              | (go_simp; done)
              | (go_simp; with_reducible rfl)
          try simp only [Act.put, List.setIfInBounds_toArray, List.set_cons_zero, List.set_cons_succ]
          refine wpAnyH_take (i := 5) (oi := ({ dst := some 64, op := Op.move (Operand.tmp 10), type := 3, pos := "turn.go:55", after := #[], guard := none } : Oper)) (v := ?_) rfl (by kernel_rfl) (by kernel_rfl) (by kernel_rfl) (fun _ _ _ h => h) (Or.inl ⟨by rfl, ?_⟩) (by assumption) ?_
          rotate_left
          · intro wS hSw
            first
              | (go_simp; done)
              | (go_simp; with_reducible rfl)
          try simp only [Act.put, List.setIfInBounds_toArray, List.set_cons_zero, List.set_cons_succ]
          refine wpAnyH_take (i := 6) (oi := ({ dst := some 65, op := Op.move (Operand.tmp 10), type := 3, pos := "turn.go:55", after := #[], guard := none } : Oper)) (v := ?_) rfl (by kernel_rfl) (by kernel_rfl) (by kernel_rfl) (fun _ _ _ h => h) (Or.inl ⟨by rfl, ?_⟩) (by assumption) ?_
          rotate_left
          · intro wS hSw
            first
              | (go_simp; done)
              | (go_simp; with_reducible rfl)
          try simp only [Act.put, List.setIfInBounds_toArray, List.set_cons_zero, List.set_cons_succ]
          refine wpAnyH_take (i := 7) (oi := ({ dst := some 66, op := Op.fieldAddr 23 (Operand.tmp 4) 2, type := 0, pos := "turn.go:55", after := #[], guard := none } : Oper)) (v := ?_) rfl (by kernel_rfl) (by kernel_rfl) (by kernel_rfl) (fun _ _ _ h => h) (Or.inl ⟨by rfl, ?_⟩) (by assumption) ?_
          rotate_left
          · intro wS hSw
            first
              | (go_simp; done)
              | (go_simp; with_reducible rfl)
          try simp only [Act.put, List.setIfInBounds_toArray, List.set_cons_zero, List.set_cons_succ]
          refine wpAnyH_take (i := 8) (oi := ({ dst := some 67, op := Op.load 3 (Operand.tmp 66), type := 3, pos := "turn.go:55", after := #[{ on := 7, ground := Ground.data }], guard := none } : Oper)) (v := ?_) rfl (by kernel_rfl) (by kernel_rfl) (by kernel_rfl) (fun _ _ _ h => h) (Or.inl ⟨by rfl, ?_⟩) (by assumption) ?_
          rotate_left
          · intro wS hSw
            obtain ⟨⟨c0, c1, c2, c3⟩, d0, d1, d2⟩ := hSw
            first
              | (go_simp; done)
              | (go_simp; with_reducible rfl)
          try simp only [Act.put, List.setIfInBounds_toArray, List.set_cons_zero, List.set_cons_succ]
          refine wpAnyH_take (i := 9) (oi := ({ dst := some 68, op := Op.binOp BinOp.add 3 (Operand.tmp 65) (Operand.tmp 67) 3, type := 3, pos := "turn.go:55", after := #[{ on := 6, ground := Ground.data }, { on := 8, ground := Ground.data }], guard := none } : Oper)) (v := ?_) rfl (by kernel_rfl) (by kernel_rfl) (by kernel_rfl) (fun _ _ _ h => h) (Or.inl ⟨by rfl, ?_⟩) (by assumption) ?_
          rotate_left
          · intro wS hSw
            first
              | (go_simp; done)
              | (go_simp; with_reducible rfl)
          try simp only [Act.put, List.setIfInBounds_toArray, List.set_cons_zero, List.set_cons_succ]
          refine wpAnyH_take (i := 10) (oi := ({ dst := some 69, op := Op.slice 24 (Operand.tmp 63) (some (Operand.tmp 64)) (some (Operand.tmp 68)) none, type := 24, pos := "turn.go:55", after := #[{ on := 4, ground := Ground.data }, { on := 5, ground := Ground.data }, { on := 9, ground := Ground.data }], guard := none } : Oper)) (v := ?_) rfl (by kernel_rfl) (by kernel_rfl) (by kernel_rfl) (fun _ _ _ h => h) (Or.inl ⟨by rfl, ?_⟩) (by assumption) ?_
          rotate_left
          · intro wS hSw
            first
              | (go_simp; done)
              | (go_simp; with_reducible rfl)
          try simp only [Act.put, List.setIfInBounds_toArray, List.set_cons_zero, List.set_cons_succ]
          refine wpAnyH_ready (rs := [11]) (by kernel_rfl) (by simp) ?_
          refine AllReadyH.cons (o := ({ dst := some 70, op := Op.call { callee := Callee.builtin Builtin.copy, args := #[Operand.tmp 61, Operand.tmp 69], argTypes := #[24, 24] }, type := 3, pos := "turn.go:55", after := #[{ on := 2, ground := Ground.data }, { on := 10, ground := Ground.data }], guard := none } : Oper)) rfl (fun Kq hK => ?_) (AllReadyH.nil)
          refine step_copy_splice rfl (.tmp 61) (.tmp 69) _ _ rfl 37 Try.underlying24 HSZ.out (some ⟨w.heap.size + 3, qt, none⟩) (some ⟨bz, oz + qf, none⟩) (n - qt) (n - qt) d (c - qf) (by rfl) (by rfl) (w.heap.size + 3) qt (I8s (rowL (mvF (tauN tH tW b B) F d kk) n)) 37 HO8.out (I8s (rowL (fun c => F (qt + c)) d)) HMIN.out (fun _ => ⟨rfl, _, rfl, fun k v hk => by
            rw [Go.WideShapes.add_plain]
            rw [Nat.add_assoc]
            exact (HW8.out.2.2.1.cell (p := ⟨bz, oz + (qf + k), none⟩) hbz).trans (HSRC.out k v hk)⟩) HFIT.out (Kit.ints_one .i8 _) (w.heap.size + 3) W8 (Below.refl _ _) (Nat.le_refl _) ?_
          intro w9 hg9 hb9
          have hS1 : TwoAt w.heap.size H W C (some ⟨bz, oz, none⟩) n c U V w9 := hHeld.below (by omega) hb9
          have HW9 := Lib.hid (HW8.out.below hb9)
          have HO9 : Hid (RowH w (I8s (rowL (mvF (tauN tH tW b B) F d (kk + 1)) n)) w9) := by
            have := hg9.out
            rw [HSET.out] at this
            exact Lib.hid this
          clear hHeld hb9 hg9 HW8 HO8
          try dsimp only
          refine hK.out _ _ ?_ (fun hHeld => ?_)
          · exact hS1
          clear hK Kq
          try simp only [Act.put, List.setIfInBounds_toArray, List.set_cons_zero, List.set_cons_succ]
          refine wpAnyH_done (by kernel_rfl) ?_ _
          go_wp2_with fail
          go_roundw
          case rel =>
            refine ⟨j + 1, by omega, by go_num, HW9, ?_⟩
            rw [← Nat.add_assoc, HKK.out]
            exact HO9
          case measure => simp [intOf]; omega
        · obtain rfl : j = b := by omega
          have hjW : ¬ (j : Int) < W := by have := HWW.out; omega
          go_wp2_with fail
          go_roundw
          case rel =>
            refine ⟨i + 1, by omega, by go_num, HW2, ?_⟩
            rw [Nat.add_mul, Nat.one_mul]
            exact HO2
          case measure => simp [intOf]; omega
    · obtain rfl : i = a := by omega
      have hiI : ¬ (i : Int) < H := by have := HH.out; omega
      have hfin := HO1.out
      rw [mv_all (tauN tH tW b B) F HM.out (tauN_onto HNN.out HON.out)] at hfin
      have HFI := Lib.hid (hfin.own (n := n) (i8_len _ _) (by unfold maxLen; omega))
      obtain ⟨⟨z0, z1, z2, z3⟩, z4, z5, z6, z7⟩ := HW1.out.2.1
      clear hfin HO1
      go_wp2_with fail
      refine bodyPost_ret (Kit.results_c rfl _ _ (w.heap.size + 2) 0 [.int .i64 U, .int .i64 V, .int .i64 C, .slice (some ⟨w.heap.size + 3, 0, none⟩) n n] _ rfl (range_4t (by go_cell) (by go_cell) (by go_cell) (by go_cell)) Try.underlying26 rfl (by kernel_rfl)) rfl ?_
      exact ⟨_, rfl, Kit.own_base (own_set4t HFI.out (Nat.lt_succ_self _)) (by omega), (((HW1.out.2.2.1.setCell (p := ⟨w.heap.size + 2, 0, none⟩) (by simp) _).setCell (p := ⟨w.heap.size + 2, 1, none⟩) (by simp) _).setCell (p := ⟨w.heap.size + 2, 2, none⟩) (by simp) _).setCell (p := ⟨w.heap.size + 2, 3, none⟩) (by simp) _⟩
end Go.Proofs.Ytmjcjdgdpecpjaa.CTurn
