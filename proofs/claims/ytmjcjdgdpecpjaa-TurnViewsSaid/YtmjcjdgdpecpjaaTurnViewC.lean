/- Layer 23 (turn), the code: Views. -/
import Derived.Test.YtmjcjdgdpecpjaaTurnVNum
import Derived.Deep.CutRange
import Derived.Laws.AppendOwn
namespace Go.Proofs.Ytmjcjdgdpecpjaa.CTurn
open Go Go.ChangeShapes Go.WideShapes Go.ChangeAt Go.RowKit Go.Deep
open Plain CSat CShape CTensor CPad FloatNum
set_option linter.unusedVariables false

set_option maxRecDepth 100000 in
set_option maxHeartbeats 4000000 in
theorem cviews_bad (H W C : Int) (A : Option Addr) (n c : Nat) (ht : tensB H W C n = false) (w : World) :
    Calls Try.prog 13 #[.agg #[.int .i64 H, .int .i64 W, .int .i64 C, .slice A n c]] w fun e w' => e = .returned (.tuple #[.slice none 0 0, .int .i64 5]) ∧ Below w.heap.size w w' := by
  have HT := Lib.hid ht
  have HB := Lib.hid ((Below.refl w.heap.size w).alloc (Nat.le_refl _) (.cells #[.int .i64 H, .int .i64 W, .int .i64 C, .slice A n c] 26))
  clear ht
  go_enter Try.func13, Try.ntmps13
  go_wp2_with (go_at_call 15; (refine (right_to H W C A n c false HT.out _).mono ?_); rintro e w1 ⟨rfl, hb⟩; (have HB1 := Lib.hid (HB.out.trans (hb.mono HB.out.size))); clear hb)
  refine bodyPost_ret (resT_2 rfl _ _ _) rfl ?_
  exact ⟨rfl, HB1.out⟩
set_option maxRecDepth 100000 in
set_option maxHeartbeats 8000000 in
theorem cviews_to {a b d n : Nat} (A : Option Addr) (zs : List Int) (c : Nat) (hn : zs.length = n) (hnc : n ≤ c) (ht : tensB (a : Int) (b : Int) (d : Int) n = true) (os : List Int) (hos : overL zs a b d = os) (w : World) (hr : Kit.Rd w w.heap.size A (I8s zs)) :
    Calls Try.prog 13 #[.agg #[.int .i64 (a : Int), .int .i64 (b : Int), .int .i64 (d : Int), .slice A n c]] w fun e w' => ∃ v, e = .returned (.tuple #[v, .int .i64 0]) ∧ VAt w.heap.size (fun i => (rA a b (i % 4) : Int)) (fun i => (rB a b (i % 4) : Int)) (d : Int) n (fun i => (itT d (i % 4) (a, b, if i < 4 then zs else os)).2.2) 8 v w' ∧ Below w.heap.size w w' := by
  have hm := (tens_nat ht).1
  have hol : os.length = n := by rw [← hos]; exact (overL_len _ _ _ _).trans hm
  have hmi := fun (wd : World) (h : Kit.Rd wd wd.heap.size A (I8s zs)) => cmirrored_to A zs c hn hnc ht wd h
  rw [hos] at hmi
  obtain ⟨PF, hPF⟩ : ∃ PF : Nat → Int, PF = (fun i => (rA a b (i % 4) : Int)) := ⟨_, rfl⟩
  obtain ⟨QF, hQF⟩ : ∃ QF : Nat → Int, QF = (fun i => (rB a b (i % 4) : Int)) := ⟨_, rfl⟩
  obtain ⟨YS, hYS⟩ : ∃ YS : Nat → List Int, YS = (fun i => (itT d (i % 4) (a, b, if i < 4 then zs else os)).2.2) := ⟨_, rfl⟩
  have htu := fun (s : Nat) (hs : s < 2) (j : Nat) (hj : j < 4) (A9 : Option Addr) (c9 : Nat) (h9 : n ≤ c9) (wd : World) (h : Kit.Rd wd wd.heap.size A9 (I8s (if s = 0 then zs else os))) =>
    cturned_to (a := a) (b := b) (d := d) A9 (if s = 0 then zs else os) c9 (by split <;> assumption) h9 ht j (by omega) (PF (s * 4 + j)) (QF (s * 4 + j)) (YS (s * 4 + j))
      (by rw [(itT_dimsR d j a b _).1, hPF]; show _ = (rA a b ((s * 4 + j) % 4) : Int); rw [show (s * 4 + j) % 4 = j by omega]) (by rw [(itT_dimsR d j a b _).2, hQF]; show _ = (rB a b ((s * 4 + j) % 4) : Int); rw [show (s * 4 + j) % 4 = j by omega])
      (by rw [hYS]
          show _ = (itT d ((s * 4 + j) % 4) (a, b, if s * 4 + j < 4 then zs else os)).2.2
          rw [show (s * 4 + j) % 4 = j by omega]
          by_cases e : s = 0
          · rw [if_pos e, if_pos (by omega)]
          · rw [if_neg e, if_neg (by omega)]) wd h
  have HPQY := Lib.hid (And.intro hPF (And.intro hQF hYS))
  clear hPF hQF hYS
  have HTU := Lib.hid htu
  have HMI := Lib.hid hmi
  have HT := Lib.hid ht
  have HR := Lib.hid hr
  have HX := Lib.hid (boxT (a : Int) b d A n c 26 w)
  have HB := Lib.hid ((Below.refl w.heap.size w).alloc (Nat.le_refl _) (.cells #[.int .i64 (a : Int), .int .i64 (b : Int), .int .i64 (d : Int), .slice A n c] 26))
  have HZ : Hid (w.heap.size < (w.alloc (.cells #[.int .i64 (a : Int), .int .i64 (b : Int), .int .i64 (d : Int), .slice A n c] 26)).heap.size) := Lib.hid (by simp)
  have HNC := Lib.hid hnc
  obtain ⟨i0, hi0, hi1, hi2, hi3⟩ := info_partst info_tens
  clear hm hol hmi htu ht hr hn hos hnc
  go_enter Try.func13, Try.ntmps13
  go_upto_region 1 with fail
  generalize (w.alloc (.cells #[.int .i64 (a : Int), .int .i64 (b : Int), .int .i64 (d : Int), .slice A n c] 26)) = W0 at HX HB HZ ⊢
  obtain ⟨b0, b1, b2, b3⟩ := HX.out
  go_upto_region 4 with (go_at_call 15; (refine (right_to a b d A n c true HT.out _).mono ?_); rintro e w1 ⟨rfl, hb⟩; (have HX1 := Lib.hid (HX.out.below HZ.out hb)); (have HB1 := Lib.hid (HB.out.trans (hb.mono HB.out.size))); (have HZ1 := Lib.hid (Nat.lt_of_lt_of_le HZ.out hb.size)); clear hb b0 b1 b2 b3 HX HB HZ)
  refine wp_region_held_drew (S := BoxAt w.heap.size (a : Int) b d A n c) (by kernel_rfl) HX1.out (fun hHeld => ?_)
  have HB2 := Lib.hid HB1.out.drew
  have HZ2 : Hid (w.heap.size < w1.drew.heap.size) := Lib.hid HZ1.out
  clear HX1 HB1 HZ1
  generalize w1.drew = W2 at HB2 HZ2 hHeld ⊢
  refine wpAnyH_take (i := 0) (oi := ({ dst := some 11, op := Op.load 26 (Operand.tmp 1), type := 26, pos := "turn.go:78", after := #[], guard := none } : Oper)) (v := ?_) rfl (by kernel_rfl) (by kernel_rfl) (by kernel_rfl) (fun _ _ _ h => h) (Or.inl ⟨by rfl, ?_⟩) (by assumption) ?_
  rotate_left
  · intro wS hSw
    obtain ⟨q0, q1, q2, q3⟩ := hSw
    first
      | (go_simp; done)
      | (go_simp; with_reducible rfl)
  try simp only [Act.put, List.setIfInBounds_toArray, List.set_cons_zero, List.set_cons_succ]
  refine wpAnyH_take (i := 1) (oi := ({ dst := some 12, op := Op.load 26 (Operand.tmp 1), type := 26, pos := "turn.go:78", after := #[], guard := none } : Oper)) (v := ?_) rfl (by kernel_rfl) (by kernel_rfl) (by kernel_rfl) (fun _ _ _ h => h) (Or.inl ⟨by rfl, ?_⟩) (by assumption) ?_
  rotate_left
  · intro wS hSw
    obtain ⟨q0, q1, q2, q3⟩ := hSw
    first
      | (go_simp; done)
      | (go_simp; with_reducible rfl)
  try simp only [Act.put, List.setIfInBounds_toArray, List.set_cons_zero, List.set_cons_succ]
  refine wpAnyH_take (i := 5) (oi := ({ dst := some 16, op := Op.move (Operand.const (Value.int IntKind.i64 0)), type := 3, pos := "turn.go:78", after := #[], guard := none } : Oper)) (v := ?_) rfl (by kernel_rfl) (by kernel_rfl) (by kernel_rfl) (fun _ _ _ h => h) (Or.inl ⟨by rfl, ?_⟩) (by assumption) ?_
  rotate_left
  · intro wS hSw
    first
      | (go_simp; done)
      | (go_simp; with_reducible rfl)
  try simp only [Act.put, List.setIfInBounds_toArray, List.set_cons_zero, List.set_cons_succ]
  refine wpAnyH_ready (rs := [2]) (by kernel_rfl) (by simp) ?_
  refine AllReadyH.cons (o := ({ dst := some 13, op := Op.call { callee := Callee.value (Operand.func 18), args := #[Operand.tmp 12], argTypes := #[26] }, type := 26, pos := "turn.go:78", after := #[{ on := 1, ground := Ground.data }], guard := none } : Oper)) rfl (fun Kq hK => ?_) (AllReadyH.nil)
  go_simp
  go_at_call 18
  refine (HMI.out _ ((HR.out.below HB2.out).more HB2.out.size)).mono ?_
  rintro e W3 ⟨v1, rfl, ho1, hb⟩
  obtain ⟨A1, c1, rfl, hc1, -, -⟩ := Kit.own_rd ho1
  have hS1 : BoxAt w.heap.size (a : Int) b d A n c W3 := hHeld.below HZ2.out hb
  have HO3 := Lib.hid ho1
  have HB3 := Lib.hid (HB2.out.trans (hb.mono HB2.out.size))
  have HZ3 := Lib.hid (Nat.lt_of_lt_of_le HZ2.out hb.size)
  have HOL : Hid (∀ ad : Addr, A1 = some ad → ad.block < W3.heap.size) := Lib.hid (fun ad he => own_block_lt ho1 ad.block (by rw [he]; rfl))
  clear hHeld ho1 hb HB2
  dsimp only
  refine hK.out _ _ ?_ (fun hHeld => ?_)
  · exact hS1
  clear hK Kq
  try simp only [Act.put, List.setIfInBounds_toArray, List.set_cons_zero, List.set_cons_succ]
  refine wpAnyH_ready (rs := [3]) (by kernel_rfl) (by simp) ?_
  refine AllReadyH.cons (o := ({ dst := some 14, op := Op.buildSlice 39 2 #[(0, Operand.tmp 11), (1, Operand.tmp 13)], type := 39, pos := "turn.go:78", after := #[{ on := 0, ground := Ground.data }, { on := 2, ground := Ground.data }], guard := none } : Oper)) rfl (fun Kq hK => ?_) (AllReadyH.nil)
  go_simp
  refine hK.out _ _ ?_ (fun hHeld => ?_)
  · exact hHeld.below HZ3.out ((Below.refl _ _).alloc (Nat.le_refl _) _)
  clear hK Kq
  try simp only [Act.put, List.setIfInBounds_toArray, List.set_cons_zero, List.set_cons_succ]
  refine wpAnyH_take (i := 4) (oi := ({ dst := some 15, op := Op.call { callee := Callee.builtin Builtin.len, args := #[Operand.tmp 14], argTypes := #[39] }, type := 3, pos := "turn.go:78", after := #[{ on := 3, ground := Ground.data }], guard := none } : Oper)) (v := ?_) rfl (by kernel_rfl) (by kernel_rfl) (by kernel_rfl) (fun _ _ _ h => h) (Or.inl ⟨by rfl, ?_⟩) (by assumption) ?_
  rotate_left
  · intro wS hSw
    first
      | (go_simp; done)
      | (go_simp; with_reducible rfl)
  try simp only [Act.put, List.setIfInBounds_toArray, List.set_cons_zero, List.set_cons_succ]
  refine wpAnyH_done (by kernel_rfl) ?_ _
  clear hHeld
  have hal : Below W3.heap.size W3 (W3.alloc (.cells #[.int .i64 (a : Int), .int .i64 (b : Int), .int .i64 (d : Int), .slice A n c, .int .i64 (a : Int), .int .i64 (b : Int), .int .i64 (d : Int), .slice A1 n c1] 26)) := (Below.refl _ _).alloc (Nat.le_refl _) _
  have HSD := Lib.hid (SideAt.new (a : Int) b d n A A1 c c1 W3)
  have HB4 := Lib.hid (HB3.out.trans (hal.mono HB3.out.size))
  have HR4 := Lib.hid ((HR.out.below HB4.out))
  have HO4 := Lib.hid (Kit.own_below HO3.out hal)
  have HS4 : Hid (W3.heap.size < (W3.alloc (.cells #[.int .i64 (a : Int), .int .i64 (b : Int), .int .i64 (d : Int), .slice A n c, .int .i64 (a : Int), .int .i64 (b : Int), .int .i64 (d : Int), .slice A1 n c1] 26)).heap.size) := Lib.hid (by simp)
  have HGE := Lib.hid (Nat.le_of_lt HZ3.out)
  have HC1 := Lib.hid hc1
  clear hal HB3 HZ3 HO3 hc1
  obtain ⟨qq, hqq⟩ : ∃ qq, W3.heap.size = qq := ⟨_, rfl⟩
  simp only [hqq] at HSD HS4 HGE HOL ⊢
  generalize (W3.alloc (.cells #[.int .i64 (a : Int), .int .i64 (b : Int), .int .i64 (d : Int), .slice A n c, .int .i64 (a : Int), .int .i64 (b : Int), .int .i64 (d : Int), .slice A1 n c1] 26)) = W4 at HSD HB4 HR4 HO4 HS4 ⊢
  have HRS : Hid (∀ s, s < 2 → Kit.Rd W4 qq (if s = 0 then A else A1) (I8s (if s = 0 then zs else os))) := Lib.hid fun s hs => by
    by_cases e : s = 0
    · rw [if_pos e, if_pos e]; exact (HR4.out.more HGE.out)
    · rw [if_neg e, if_neg e]
      obtain ⟨A', c', e2, _, _, hrd⟩ := Kit.own_rd HO4.out
      cases e2
      exact fun j u hu => by
        obtain ⟨ad, rfl, _, hc⟩ := hrd j u hu
        exact ⟨ad, rfl, HOL.out _ rfl, hc⟩
  have HCS : Hid (∀ s, s < 2 → n ≤ (if s = 0 then c else c1)) := Lib.hid fun s _ => by
    have h1 := HNC.out
    have h2 := HC1.out
    split <;> assumption
  clear HR4 HO4 HNC HC1 HR HOL
  have HV0 := Lib.hid (VAt.zero (qq + 1) PF QF (d : Int) n YS W4)
  have HB0 := Lib.hid (Below.refl (qq + 1) W4)
  have HZ0 : Hid (qq + 1 ≤ W4.heap.size) := HS4
  go_wp2_with fail
  go_loopw [4, 16] (fun x y wr => ∃ (s : Nat) (v : Value), s ≤ 2 ∧ v = x ∧ y = .int .i64 s ∧ Hid (VAt (qq + 1) PF QF (d : Int) n YS (s * 4) v wr) ∧ Hid (Below (qq + 1) W4 wr) ∧ Hid (qq + 1 ≤ wr.heap.size)) (fun _ y _ => 2 - (intOf y).toNat)
  case atStart => exact ⟨0, _, by omega, rfl, rfl, HV0, HB0, HZ0⟩
  case round =>
    obtain ⟨s, v, hs, rfl, rfl, HV, HBX, HZX⟩ := hrel
    clear HV0 HB0 HZ0
    by_cases hlt : s < 2
    · have hs0 : (0 : Int) ≤ (s : Int) := by omega
      have hs1 : (s : Int) < 2 := by omega
      obtain ⟨c0, c1', c2, c3⟩ := HSD.out.below (Nat.lt_succ_self _) HBX.out s hlt
      have hrs := HRS.out s hlt
      have hcs := HCS.out s hlt
      have htt := HTU.out s hlt
      simp only [] at c3
      generalize (if s = 0 then A else A1) = A9 at c3 hrs
      generalize (if s = 0 then c else c1) = c9 at c3 hcs
      generalize (if s = 0 then zs else os) = z9 at hrs htt
      have HTS := Lib.hid (fun (j : Nat) (hj : j < 4) (wd : World) (h : Kit.Rd wd wd.heap.size A9 (I8s z9)) => htt j hj A9 c9 hcs wd h)
      have HRX := Lib.hid hrs
      clear hrs hcs htt
      go_upto_region 7 with fail
      have hal9 : Below wr.heap.size wr (wr.alloc (.cells #[.int .i64 (a : Int), .int .i64 (b : Int), .int .i64 (d : Int), .slice A9 n c9] 26)) := (Below.refl _ _).alloc (Nat.le_refl _) _
      have HV1 := Lib.hid (HV.out.below hal9)
      have HB1 := Lib.hid (HBX.out.trans (hal9.mono HZX.out))
      have HBX1 := Lib.hid (boxT (a : Int) b d A9 n c9 26 wr)
      have HZ1 : Hid (wr.heap.size < (wr.alloc (.cells #[.int .i64 (a : Int), .int .i64 (b : Int), .int .i64 (d : Int), .slice A9 n c9] 26)).heap.size) := Lib.hid (by simp)
      have HNE1 : Hid (v.ownBlock ≠ some wr.heap.size) := Lib.hid fun he => absurd (HV.out.lt _ he).2 (Nat.lt_irrefl _)
      have HGR := HZX
      obtain ⟨rr, hrr⟩ : ∃ rr, wr.heap.size = rr := ⟨_, rfl⟩
      simp only [hrr] at HBX1 HZ1 HNE1 HGR ⊢
      generalize wr.alloc (.cells #[.int .i64 (a : Int), .int .i64 (b : Int), .int .i64 (d : Int), .slice A9 n c9] 26) = W5 at HV1 HB1 HBX1 HZ1 ⊢
      clear HV HBX HZX c0 c1' c2 c3 hal9 hrr
      go_wp2_with fail
      go_loopw [4, 20] (fun x y wr => ∃ (j : Nat) (v : Value), j ≤ 4 ∧ v = x ∧ y = .int .i64 j ∧ Hid (VAt (qq + 1) PF QF (d : Int) n YS (s * 4 + j) v wr) ∧ Hid (Below (qq + 1) W4 wr) ∧ Hid (BoxAt rr (a : Int) b d A9 n c9 wr) ∧ Hid (rr < wr.heap.size) ∧ Hid (v.ownBlock ≠ some rr)) (fun _ y _ => 4 - (intOf y).toNat)
      case atStart => exact ⟨0, _, by omega, rfl, rfl, HV1, HB1, HBX1, HZ1, HNE1⟩
      case round =>
        obtain ⟨j, v, hj, rfl, rfl, HV2, HB2, HX2, HZ2', HNE2⟩ := hrel
        clear HV1 HB1 HBX1 HZ1 HNE1
        by_cases hlj : j < 4
        · have hj0 : (0 : Int) ≤ (j : Int) := by omega
          have hj1 : (j : Int) < 4 := by omega
          obtain ⟨b0, b1, b2, b3⟩ := HX2.out
          obtain ⟨As, cs, hrow, hall⟩ := HV2.out
          have hvl := HV2.out.lt
          have HROW := Lib.hid hrow
          have HALL := Lib.hid hall
          have HVL := Lib.hid hvl
          have HRY := Lib.hid (((HRX.out.more (Nat.le_succ qq)).below HB2.out).more (show qq + 1 ≤ wr.heap.size by have := HZ2'.out; have := HGR.out; omega))
          obtain ⟨kk, hkk⟩ : ∃ kk, s * 4 + j = kk := ⟨_, rfl⟩
          have htj := HTS.out j hlj wr HRY.out
          simp only [hkk] at htj HROW HALL
          have HTJ := Lib.hid htj
          have HKK := Lib.hid hkk
          have hk8 : kk ≤ 8 := by omega
          clear hrow hall hvl HV2 HRY htj hkk
          go_wp2_with (first
            | (go_at_call 16
               refine HTJ.out.mono ?_
               rintro e w6 ⟨v6, rfl, ho6, hb⟩
               obtain ⟨A6, c6, rfl, hc6, -, -⟩ := Kit.own_rd ho6
               have hal6 : Below w6.heap.size w6 (w6.alloc (.cells #[.int .i64 (PF kk), .int .i64 (QF kk), .int .i64 (d : Int), .slice A6 n c6] 26)) := (Below.refl _ _).alloc (Nat.le_refl _) _
               have hbb : Below wr.heap.size wr (w6.alloc (.cells #[.int .i64 (PF kk), .int .i64 (QF kk), .int .i64 (d : Int), .slice A6 n c6] 26)) := hb.trans (hal6.mono hb.size)
               have HO6 := Lib.hid (RowV.of_own (v := v) (Kit.own_below ho6 hal6) (fun k hk => (HVL.out k hk).2))
               have HROW6 := Lib.hid (Kit.own_below HROW.out hbb)
               have HALL6 := Lib.hid (fun i hi => And.intro ((HALL.out i hi).1.below hbb) (HALL.out i hi).2)
               have HX6 := Lib.hid (HX2.out.below HZ2'.out hbb)
               have HZ6 := Lib.hid (Nat.lt_of_lt_of_le HZ2'.out hbb.size)
               have HB6 := Lib.hid (HB2.out.trans (hbb.mono (show qq + 1 ≤ wr.heap.size by have := HZ2'.out; have := HGR.out; omega)))
               have HC6 := Lib.hid hc6
               clear ho6 hb hal6 hbb hc6 b0 b1 b2 b3)
            | (at_builtin
               refine Kit.wpList_append_rd _ rfl (.tmp 23) (.tmp 27) _ rfl (qq + 1) 26 i0 (.agg #[.int .i64 0, .int .i64 0, .int .i64 0, .slice none 0 0]) 4 48 Try.underlying39 hi0 hi1 hi2 hi3 rfl (by decide) v kk (viewV PF QF (d : Int) As n cs kk) rfl HROW6.out _ _ 1 1 [.int .i64 (PF kk), .int .i64 (QF kk), .int .i64 (d : Int), .slice A6 n c6] rfl rfl (Kit.Rd.new _ _ _ (Nat.lt_succ_self _)) ?_ ?_ ?_ ?_ ?_
               exact tens_one _ _ _ _ _ _
               (unfold maxLen; omega)
               omega
               (have h1 := HB6.out.size; have h2 := HS4.out; omega)
               intro v7 w7 hown7 hg7 hat7
               have HV7 := Lib.hid (VAt.push HALL6.out HO6.out HC6.out hown7 hg7 hat7)
               have HX7 := Lib.hid (BoxAt.app HX6.out hg7 HZ6.out HNE2.out)
               have HZ7 := Lib.hid (Nat.lt_of_lt_of_le HZ6.out hg7.size)
               have HB7 := Lib.hid (HB6.out.grown hg7 (by have h1 := HB6.out.size; have h2 := HS4.out; omega) (fun k hk => (HVL.out k hk).1))
               have HNE7 : Hid (v7.ownBlock ≠ some rr) := Lib.hid (by
                 rcases hat7 with h | h
                 · rw [h]; exact HNE2.out
                 · rw [h]; intro he; injection he with he; have := HZ6.out; omega)
               clear hown7 hg7 hat7))
          go_roundw
          case rel =>
            refine ⟨j + 1, v7, by omega, rfl, by go_num, ?_, HB7, HX7, HZ7, HNE7⟩
            rw [← Nat.add_assoc, HKK.out]
            exact HV7
          case measure => simp [intOf]; omega
        · obtain rfl : j = 4 := by omega
          go_wp2_with fail
          go_roundw
          case rel =>
            refine ⟨s + 1, v, by omega, rfl, by go_num, ?_, HB2, Lib.hid (by have := HZ2'.out; have := HGR.out; omega)⟩
            rw [Nat.add_mul, Nat.one_mul]
            exact HV2
          case measure => simp [intOf]; omega
    · obtain rfl : s = 2 := by omega
      obtain ⟨e1, e2, e3⟩ := HPQY.out
      go_wp2_with fail
      refine bodyPost_ret (resT_2 rfl _ _ _) rfl ?_
      rw [e1, e2, e3] at HV
      exact ⟨v, rfl, HV.out.base (by have := HGE.out; omega), HB4.out.trans (HBX.out.mono (by have := HGE.out; omega))⟩
end Go.Proofs.Ytmjcjdgdpecpjaa.CTurn
