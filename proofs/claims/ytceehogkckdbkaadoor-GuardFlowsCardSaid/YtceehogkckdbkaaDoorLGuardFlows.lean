/- Layer 32 (guard), GuardFlows: between which numbers all values of any block lie, or which node may not be, and why, is what the document says; so it is of any one node: whatever the nodes, the ends of the range, and the one node; the call returns true and leaves its arguments as they were. The names of the kinds are listed as the program's text lays them. Written by gen_guard10.py. -/
import Derived.Test.YtceehogkckdbkaaDoorTie
import Derived.Test.YtceehogkckdbkaaDoorCards
import Derived.Test.YtceehogkckdbkaaDoorGF50
namespace Go.Proofs.YtceehogkckdbkaaDoor.CConv
end Go.Proofs.YtceehogkckdbkaaDoor.CConv
namespace Go.Proofs.YtceehogkckdbkaaDoor.CFix
end Go.Proofs.YtceehogkckdbkaaDoor.CFix
namespace Go.Proofs.YtceehogkckdbkaaDoor.CGraph
end Go.Proofs.YtceehogkckdbkaaDoor.CGraph
namespace Go.Proofs.YtceehogkckdbkaaDoor.CKind
end Go.Proofs.YtceehogkckdbkaaDoor.CKind
namespace Go.Proofs.YtceehogkckdbkaaDoor.CSat
end Go.Proofs.YtceehogkckdbkaaDoor.CSat
namespace Go.Proofs.YtceehogkckdbkaaDoor.CShape
end Go.Proofs.YtceehogkckdbkaaDoor.CShape
namespace Go.Proofs.YtceehogkckdbkaaDoor.CSpan
end Go.Proofs.YtceehogkckdbkaaDoor.CSpan
namespace Go.Proofs.YtceehogkckdbkaaDoor.CTensor
end Go.Proofs.YtceehogkckdbkaaDoor.CTensor
namespace Go.Proofs.YtceehogkckdbkaaDoor.lawGuardFlows
open Go Go.ChangeShapes Go.WideShapes Go.ChangeAt Go.RowKit Go.Deep
open Plain CSat CFix CShape CTensor CConv CSpan CKind CGraph CJoin CGuard
set_option maxRecDepth 100000
set_option linter.unusedVariables false
set_option linter.unusedSimpArgs false
def FewB2 (X : Nat → Nd) (n : Nat) (b : Bool) : Prop := b = true → n ≤ 12 ∧ ∀ i, i < n → (X i).nW ≤ 1000 ∧ (X i).nB ≤ 100
/-- what Flow tells, in one form. -/
def gL (Y : Nat → NdW) (r0 : Rch) (n : Nat) : List Rch := match outG Y r0 n with | some _ => [] | none => rcL Y r0 n
def gP (Y : Nat → NdW) (r0 : Rch) (n : Nat) : Int := match outG Y r0 n with | some r => r.1 | none => n
def gZ (Y : Nat → NdW) (r0 : Rch) (n : Nat) : Int := match outG Y r0 n with | some r => r.2 | none => 0
def FV (Y : Nat → NdW) (r0 : Rch) (n : Nat) (w : World) (e : Ending) (w' : World) : Prop :=
  ∃ (A : Option Addr) (c : Nat), e = .returned (.tuple #[.slice A (gL Y r0 n).length c, .int .i64 (gP Y r0 n), .int .i64 (gZ Y r0 n)]) ∧ Kit.Rd w' w'.heap.size A (rvV (gL Y r0 n)) ∧ Below w.heap.size w w'
theorem fc_view {Y : Nat → NdW} {r0 : Rch} {n : Nat} {w w' : World} {e : Ending} (h : FcPost Y r0 n w e w') : FV Y r0 n w e w' := by
  obtain ⟨⟨k, z, h1, rfl⟩ | ⟨h1, v, rfl, ho⟩, hb⟩ := h
  · refine ⟨none, 0, ?_, ?_, hb⟩
    · unfold gL gP gZ; rw [h1]; rfl
    · unfold gL; rw [h1]; exact Kit.Rd.nil
  · obtain ⟨A, c, rfl, -, -, hr⟩ := Kit.own_rd ho
    refine ⟨A, c, ?_, ?_, hb⟩
    · unfold gL gP gZ; rw [h1]; simp [rcL_len]
    · unfold gL; rw [h1]; exact hr
theorem fr_view {Y : Nat → NdW} {r0 : Rch} {n : Nat} {w w' : World} {e : Ending} (h : FlPost Y r0 n w e w') : FV Y r0 n w e w' := by
  obtain ⟨⟨k, z, h1, rfl⟩ | ⟨h1, v, rfl, ho⟩, hb⟩ := h
  · refine ⟨none, 0, ?_, ?_, hb⟩
    · unfold gL gP gZ; rw [h1]; rfl
    · unfold gL; rw [h1]; exact Kit.Rd.nil
  · obtain ⟨A, c, rfl, -, -, hr⟩ := Kit.own_rd ho
    refine ⟨A, c, ?_, ?_, hb⟩
    · unfold gL gP gZ; rw [h1]; simp [rcL_len]
    · unfold gL; rw [h1]; exact hr
theorem gL_len (Y : Nat → NdW) (r0 : Rch) (n : Nat) : (gL Y r0 n).length ≤ n + 1 := by
  unfold gL
  split
  · simp
  · rw [rcL_len]; exact Nat.le_refl _
theorem nd_load_ga {ops : Array Oper} {rest : List Oper} {op : Oper} {a : Act} {w : World} {Q : Exit → Act → World → Prop} (hw : Region.wanted op (yielded ops a.tmps) = true) (x : Operand) (ho : op.op = .load 29 x)
    (b : Nat) (u : Nd) (hx : a.eval x = .pointer (some ⟨b, 0, none⟩)) (hb : NdAt b u w)
    (h : wpList Tryd.prog ops Q rest (a.put op.dst (.agg u.val)) w) : wpList Tryd.prog ops Q (op :: rest) a w :=
  wpList_step fun K hK => by rw [if_pos hw]; exact wp_load_mid 29 x ho b 0 hx u.val.toList _ hb Tryd.underlying29 rfl (by kernel_rfl) (hK _ _ h)
set_option maxHeartbeats 8000000 in
theorem walk_big {w : World} (Y : Nat → NdW) (A : Option Addr) (n c : Nat) (hA : za5 w w.heap.size A n fun j => (Y j).1) (hY : ∀ j, j < n → NdL w w.heap.size (Y j).1 (Y j).2.1 (Y j).2.2) (lo hi : Int) (bd : RBd (lo, hi)) (y : NdW) (hL : NdL w w.heap.size y.1 y.2.1 y.2.2) (hT : zah w) (hbig : ¬ (y.1.nW ≤ 2000 ∧ y.1.nB ≤ 200)) :
    Calls Tryd.prog 3 #[.slice A n c, .int .i8 lo, .int .i8 hi, .agg y.1.val] w fun e w' => e = .returned (.bool true) ∧ Below w.heap.size w w' := by
  have CF : Hid (∀ wx : World, Calls Tryd.prog 7 #[.agg #[.int .i64 0, .int .i64 0, .int .i64 0, .slice none 0 0], .agg y.1.val] wx fun e w' => e = .returned (.bool false) ∧ Below wx.heap.size wx w') := Lib.hid (fun wx => few_no 0 0 0 none 0 0 (.int .i64 y.1.kd) (.int .i64 y.1.na) (.int .i64 y.1.nb) (.int .i8 y.1.Y) (.int .i32 y.1.m1) (.int .i64 y.1.s1) (.int .i8 y.1.z1) (.int .i32 y.1.m2) (.int .i64 y.1.s2) (.int .i8 y.1.z2) (.int .i8 y.1.lo) (.int .i8 y.1.hi) y.1.K y.1.S y.1.P y.1.O y.1.Z y.1.WA y.1.BA y.1.nW y.1.cW y.1.nB y.1.cB (fun h => hbig h.2) wx)
  have HB0 := Lib.hid ((Below.refl w.heap.size w).alloc (Nat.le_refl _) (.cells y.1.val 29))
  have HN := Lib.hid (NdAt.new y.1 29 w)
  have HSZ : Hid (w.heap.size < (w.alloc (.cells y.1.val 29)).heap.size) := Lib.hid (by simp)
  have HA := Lib.hid hA
  have HT := Lib.hid hT
  clear hA hT
  clear hbig hL hY
  go_enter Tryd.func3, Tryd.ntmps3
  go_upto_region 1 with fail
  generalize w.alloc (.cells y.1.val 29) = W0 at HB0 HN HSZ ⊢
  go_wp2_with (first
    | (go_at_call 6
       refine (few2_to (fun j => (Y j).1) n c A _ ((HA.out.below HB0.out).more HB0.out.size)).mono ?_
       rintro e w1 ⟨b1, rfl, hfew, hb⟩
       have HFW : Hid (FewB2 (fun j => (Y j).1) n b1) := Lib.hid hfew
       have HB1 := Lib.hid (HB0.out.trans (hb.mono HB0.out.size))
       have HN1 := Lib.hid (HN.out.below HSZ.out hb)
       have HSZ1 := Lib.hid (Nat.lt_of_lt_of_le HSZ.out hb.size)
       clear hfew hb HN HSZ
       rcases b1 with _ | _)
    | (refine nd_load_ga rfl _ rfl w.heap.size y.1 rfl HN1.out ?_)
    | (go_at_call 7
       refine (CF.out _).mono ?_
       rintro e w2 ⟨rfl, hb⟩
       replace HN1 := Lib.hid (HN1.out.below HSZ1.out hb)
       replace HB1 := Lib.hid (HB1.out.trans (hb.mono HB1.out.size))
       replace HSZ1 := Lib.hid (Nat.lt_of_lt_of_le HSZ1.out hb.size)
       clear hb)
    | (go_at_call 8
       refine (known32 _ (HT.out.grown HB1.out)).mono ?_
       rintro e w9 ⟨rfl, hb9⟩))
  all_goals
    go_ret
    exact ⟨rfl, HB1.out.trans (hb9.mono HB1.out.size)⟩
set_option maxHeartbeats 16000000 in
theorem walk_ok {w : World} (Y : Nat → NdW) (A : Option Addr) (n c : Nat) (hA : za5 w w.heap.size A n fun j => (Y j).1) (hY : ∀ j, j < n → NdL w w.heap.size (Y j).1 (Y j).2.1 (Y j).2.2) (lo hi : Int) (bd : RBd (lo, hi)) (y : NdW) (hL : NdL w w.heap.size y.1 y.2.1 y.2.2) (hT : zah w) (hfit : y.1.nW ≤ 2000 ∧ y.1.nB ≤ 200) :
    Calls Tryd.prog 3 #[.slice A n c, .int .i8 lo, .int .i8 hi, .agg y.1.val] w fun e w' => e = .returned (.bool true) ∧ Below w.heap.size w w' := by
  have CF : Hid (∀ wx : World, Calls Tryd.prog 7 #[.agg #[.int .i64 0, .int .i64 0, .int .i64 0, .slice none 0 0], .agg y.1.val] wx fun e w' => e = .returned (.bool true) ∧ Below wx.heap.size wx w') := Lib.hid (fun wx => few_yes 0 0 0 none 0 0 (.int .i64 y.1.kd) (.int .i64 y.1.na) (.int .i64 y.1.nb) (.int .i8 y.1.Y) (.int .i32 y.1.m1) (.int .i64 y.1.s1) (.int .i8 y.1.z1) (.int .i32 y.1.m2) (.int .i64 y.1.s2) (.int .i8 y.1.z2) (.int .i8 y.1.lo) (.int .i8 y.1.hi) y.1.K y.1.S y.1.P y.1.O y.1.Z y.1.WA y.1.BA y.1.nW y.1.cW y.1.nB y.1.cB (by omega) hfit.1 hfit.2 wx)
  have CG : Hid (∀ wx, Below w.heap.size w wx → Calls Tryd.prog 11 #[.agg y.1.val, .agg #[.int .i8 lo, .int .i8 hi], .agg #[.int .i8 hi, .int .i8 lo]] wx fun e w' => e = .returned (.tuple #[.agg #[.int .i8 (gnZ y.1 y.2.1 y.2.2 lo hi hi lo).1, .int .i8 (gnZ y.1 y.2.1 y.2.2 lo hi hi lo).2.1], .int .i64 (gnZ y.1 y.2.1 y.2.2 lo hi hi lo).2.2]) ∧ Below wx.heap.size wx w') :=
    Lib.hid (fun wx hb => cgnode_to (w := wx) y.1 (node_small hL.ok) (hT.grown hb) lo hi hi lo ⟨bd.1, bd.2, bd.2, bd.1⟩ y.2.1 y.2.2 (NdL.belowG hL hb) (by omega) (by omega))
  have CR : Hid (∀ wx, Below w.heap.size w wx → Calls Tryd.prog 12 #[.agg y.1.val, .agg #[.int .i8 lo, .int .i8 hi], .agg #[.int .i8 hi, .int .i8 lo]] wx fun e w' => e = .returned (.tuple #[.agg #[.int .i8 (gnZ y.1 y.2.1 y.2.2 lo hi hi lo).1, .int .i8 (gnZ y.1 y.2.1 y.2.2 lo hi hi lo).2.1], .int .i64 (gnZ y.1 y.2.1 y.2.2 lo hi hi lo).2.2]) ∧ Below wx.heap.size wx w') :=
    Lib.hid (fun wx hb => rgnode_to (w := wx) y.1 lo hi hi lo ⟨bd.1, bd.2, bd.2, bd.1⟩ y.2.1 y.2.2 (NdL.belowG hL hb) (by omega) (by omega))
  generalize (gnZ y.1 y.2.1 y.2.2 lo hi hi lo).1 = g1 at CG CR
  generalize (gnZ y.1 y.2.1 y.2.2 lo hi hi lo).2.1 = g2 at CG CR
  generalize (gnZ y.1 y.2.1 y.2.2 lo hi hi lo).2.2 = g3 at CG CR
  have CFC : Hid (FewB2 (fun j => (Y j).1) n true → ∀ wx, Below w.heap.size w wx → Calls Tryd.prog 9 #[.slice A n c, .agg #[.int .i8 lo, .int .i8 hi]] wx (FV Y (lo, hi) n wx)) :=
    Lib.hid (fun hf wx hb => (cflow_to Y (lo, hi) bd n c (by have := (hf rfl).1; omega) A wx (hT.grown hb) (fun j hj => node_small (hY j hj).ok) ((hA.below hb).more hb.size) (fun j hj => ⟨NdL.belowG (hY j hj) hb, by have q : (Y j).1.nW ≤ 1000 ∧ (Y j).1.nB ≤ 100 := (hf rfl).2 j hj; omega, by have q : (Y j).1.nW ≤ 1000 ∧ (Y j).1.nB ≤ 100 := (hf rfl).2 j hj; omega⟩)).mono fun _ _ h => fc_view h)
  have CFR : Hid (FewB2 (fun j => (Y j).1) n true → ∀ wx, Below w.heap.size w wx → Calls Tryd.prog 10 #[.slice A n c, .agg #[.int .i8 lo, .int .i8 hi]] wx (FV Y (lo, hi) n wx)) :=
    Lib.hid (fun hf wx hb => (rflow_to Y (lo, hi) bd n c (by have := (hf rfl).1; omega) A wx ((hA.below hb).more hb.size) (fun j hj => ⟨NdL.belowG (hY j hj) hb, by have q : (Y j).1.nW ≤ 1000 ∧ (Y j).1.nB ≤ 100 := (hf rfl).2 j hj; omega, by have q : (Y j).1.nW ≤ 1000 ∧ (Y j).1.nB ≤ 100 := (hf rfl).2 j hj; omega⟩)).mono fun _ _ h => fr_view h)
  have HB0 := Lib.hid ((Below.refl w.heap.size w).alloc (Nat.le_refl _) (.cells y.1.val 29))
  have HN := Lib.hid (NdAt.new y.1 29 w)
  have HSZ : Hid (w.heap.size < (w.alloc (.cells y.1.val 29)).heap.size) := Lib.hid (by simp)
  have HA := Lib.hid hA
  have HT := Lib.hid hT
  clear hA hT
  have hol := gL_len Y (lo, hi) n
  unfold FV at CFC CFR
  obtain ⟨m, hm⟩ : ∃ m, (gL Y (lo, hi) n).length = m := ⟨_, rfl⟩
  generalize gP Y (lo, hi) n = p at CFC CFR
  generalize gZ Y (lo, hi) n = z at CFC CFR
  rw [hm] at hol CFC CFR
  generalize gL Y (lo, hi) n = LL at hm CFC CFR
  have HM := Lib.hid hm
  have HOL := Lib.hid hol
  clear hfit hL hY hm hol
  go_enter Tryd.func3, Tryd.ntmps3
  go_upto_region 1 with fail
  generalize w.alloc (.cells y.1.val 29) = W0 at HB0 HN HSZ ⊢
  go_upto_region 7 with (first
    | (go_at_call 6
       refine (few2_to (fun j => (Y j).1) n c A _ ((HA.out.below HB0.out).more HB0.out.size)).mono ?_
       rintro e w1 ⟨b1, rfl, hfew, hb⟩
       have HFW : Hid (FewB2 (fun j => (Y j).1) n b1) := Lib.hid hfew
       have HB1 := Lib.hid (HB0.out.trans (hb.mono HB0.out.size))
       have HN1 := Lib.hid (HN.out.below HSZ.out hb)
       have HSZ1 := Lib.hid (Nat.lt_of_lt_of_le HSZ.out hb.size)
       clear hfew hb HN HSZ
       rcases b1 with _ | _)
    | (refine nd_load_ga rfl _ rfl w.heap.size y.1 rfl HN1.out ?_)
    | (go_at_call 7
       refine (CF.out _).mono ?_
       rintro e w2 ⟨rfl, hb⟩
       replace HN1 := Lib.hid (HN1.out.below HSZ1.out hb)
       replace HB1 := Lib.hid (HB1.out.trans (hb.mono HB1.out.size))
       replace HSZ1 := Lib.hid (Nat.lt_of_lt_of_le HSZ1.out hb.size)
       clear hb)
    | (go_at_call 8
       refine (known32 _ (HT.out.grown HB1.out)).mono ?_
       rintro e w9 ⟨rfl, hb9⟩)
    | (go_at_call 9
       refine (CFC.out HFW.out _ HB1.out).mono ?_
       rintro e w3 ⟨A5, c5, rfl, hr5, hb⟩
       have HR5 := Lib.hid hr5
       have HN3 := Lib.hid (HN1.out.below HSZ1.out hb)
       have HB3 := Lib.hid (HB1.out.trans (hb.mono HB1.out.size))
       have HSZ3 := Lib.hid (Nat.lt_of_lt_of_le HSZ1.out hb.size)
       clear hr5 hb)
    | (go_at_call 10
       refine (CFR.out HFW.out _ HB3.out).mono ?_
       rintro e w4 ⟨A6, c6, rfl, hr6, hb⟩
       have HR6 := Lib.hid hr6
       replace HR5 := Lib.hid ((HR5.out.below hb).more hb.size)
       have HN4 := Lib.hid (HN3.out.below HSZ3.out hb)
       have HB4 := Lib.hid (HB3.out.trans (hb.mono HB3.out.size))
       have HSZ4 := Lib.hid (Nat.lt_of_lt_of_le HSZ3.out hb.size)
       clear hr6 hb)
    | (refine nd_load_ga rfl _ rfl w.heap.size y.1 rfl HN4.out ?_)
    | (go_at_call 11
       refine (CG.out _ HB4.out).mono ?_
       rintro e w5 ⟨rfl, hb⟩
       have hal : Below w5.heap.size w5 (w5.alloc (.cells #[.int .i8 g1, .int .i8 g2] 42)) := (Below.refl _ _).alloc (Nat.le_refl _) _
       have hh := hb.trans (hal.mono hb.size)
       replace HR5 := Lib.hid ((HR5.out.below hh).more hh.size)
       replace HR6 := Lib.hid ((HR6.out.below hh).more hh.size)
       have HN5 := Lib.hid (HN4.out.below HSZ4.out hh)
       have HB5 := Lib.hid (HB4.out.trans (hh.mono HB4.out.size))
       have HSZ5 : Hid (w5.heap.size < (w5.alloc (.cells #[.int .i8 g1, .int .i8 g2] 42)).heap.size) := Lib.hid (by simp)
       have HG5 := Lib.hid (zbe g1 g2 42 w5)
       clear hb hal hh)
    | (refine nd_load_ga rfl _ rfl w.heap.size y.1 rfl HN5.out ?_)
    | (go_at_call 12
       refine (CR.out _ HB5.out).mono ?_
       rintro e w6 ⟨rfl, hb⟩
       have hal : Below w6.heap.size w6 (w6.alloc (.cells #[.int .i8 g1, .int .i8 g2] 46)) := (Below.refl _ _).alloc (Nat.le_refl _) _
       have hh := hb.trans (hal.mono hb.size)
       replace HR5 := Lib.hid ((HR5.out.below hh).more hh.size)
       replace HR6 := Lib.hid ((HR6.out.below hh).more hh.size)
       have HB6 := Lib.hid (HB5.out.trans (hh.mono HB5.out.size))
       replace HG5 := Lib.hid (HG5.out.below HSZ5.out hh)
       have HG6 := Lib.hid (zbe g1 g2 46 w6)
       clear hb hal hh))
  · go_ret
    exact ⟨rfl, HB1.out.trans (hb9.mono HB1.out.size)⟩
  · obtain ⟨s0, s1⟩ := HG5.out
    obtain ⟨s2, s3⟩ := HG6.out
    generalize w6.alloc (.cells #[.int .i8 g1, .int .i8 g2] 46) = W7 at HR5 HR6 HB6 s0 s1 s2 s3 ⊢
    clear HG5 HG6 HN1 HN3 HN4 HN5 HSZ1 HSZ3 HSZ4 HSZ5 HB0 HB1 HB3 HB4 HB5 CG CR CFC CFR CF
    go_wp2_with fail
    clear s0 s1 s2 s3
    go_loopw [19] (fun u wr => ∃ i : Nat, i ≤ m ∧ u = .int .i64 i ∧ Hid (Below W7.heap.size W7 wr)) (fun u _ => m - (intOf u).toNat)
    case atStart => exact ⟨0, Nat.zero_le _, rfl, Lib.hid (Below.refl _ _)⟩
    case round =>
      obtain ⟨i, hi2, rfl, HW⟩ := hrel
      have hm14 : (m : Int) ≤ 13 := by have := HOL.out; have := (HFW.out rfl).1; omega
      by_cases hlt : i < m
      · obtain ⟨a, ha, -⟩ := rcL_at (L := LL) (k := i) HM.out hlt
        obtain ⟨b5, o5, rfl, x5, h5⟩ := rv_cells HR5.out (by have := HM.out; omega)
        obtain ⟨b6, o6, rfl, x6, h6⟩ := rv_cells HR6.out (by have := HM.out; omega)
        have r5 := h5 i a ha
        have r6 := h6 i a ha
        have ib : (0 : Int) ≤ (i : Int) := by omega
        have i1 : (i : Int) < (m : Int) := by omega
        have HC5 : Hid (∀ wS, Below wr.heap.size wr wS → wS.cell? ⟨b5, o5 + i * 2, none⟩ = some (.int .i8 a.1) ∧ wS.cell? ⟨b5, o5 + i * 2 + 1, none⟩ = some (.int .i8 a.2)) :=
          Lib.hid (fun wS h => have hh := HW.out.trans (h.mono HW.out.size); ⟨(hh.cell (p := ⟨b5, o5 + i * 2, none⟩) x5).trans (r5 0 _ rfl), (hh.cell (p := ⟨b5, o5 + i * 2 + 1, none⟩) x5).trans (r5 1 _ rfl)⟩)
        have HC6 : Hid (∀ wS, Below wr.heap.size wr wS → wS.cell? ⟨b6, o6 + i * 2, none⟩ = some (.int .i8 a.1) ∧ wS.cell? ⟨b6, o6 + i * 2 + 1, none⟩ = some (.int .i8 a.2)) :=
          Lib.hid (fun wS h => have hh := HW.out.trans (h.mono HW.out.size); ⟨(hh.cell (p := ⟨b6, o6 + i * 2, none⟩) x6).trans (r6 0 _ rfl), (hh.cell (p := ⟨b6, o6 + i * 2 + 1, none⟩) x6).trans (r6 1 _ rfl)⟩)
        clear ha h5 h6 r5 r6 x5 x6
        go_upto_region 12 with fail
        refine wp_region_held_drew (S := fun wx => Below wr.heap.size wr wx) (by kernel_rfl) (Below.refl _ _).drew (fun hHeld => ?_)
        generalize wr.drew = W1 at hHeld ⊢
        refine Tk.x 0 rfl ?_
        try simp only [Tk.put]
        refine Tk.x 1 rfl ?_
        try simp only [Tk.put]
        refine Tk.x 2 rfl ?_
        try simp only [Tk.put]
        refine Tk.x 3 rfl ?_
        try simp only [Tk.put]
        refine Tk.y 4 (v := .int .i8 a.1) rfl ?_ ?_
        · intro wS hSw
          obtain ⟨q0, q1⟩ := HC5.out wS hSw
          first | (go_simp; done) | (go_simp; with_reducible rfl)
        try simp only [Tk.put]
        refine Tk.x 5 rfl ?_
        try simp only [Tk.put]
        refine Tk.x 6 rfl ?_
        try simp only [Tk.put]
        refine Tk.x 7 rfl ?_
        try simp only [Tk.put]
        refine Tk.x 8 rfl ?_
        try simp only [Tk.put]
        refine Tk.y 9 (v := .int .i8 a.1) rfl ?_ ?_
        · intro wS hSw
          obtain ⟨q0, q1⟩ := HC6.out wS hSw
          first | (go_simp; done) | (go_simp; with_reducible rfl)
        try simp only [Tk.put]
        refine Tk.y 10 (v := .bool false) rfl ?_ ?_
        · intro wS hSw
          first | (go_simp; done) | (go_simp; with_reducible rfl)
        try simp only [Tk.put]
        refine Tk.x 11 rfl ?_
        try simp only [Tk.put]
        refine Tk.x 12 rfl ?_
        try simp only [Tk.put]
        refine Tk.x 13 rfl ?_
        try simp only [Tk.put]
        refine Tk.x 14 rfl ?_
        try simp only [Tk.put]
        refine Tk.x 15 rfl ?_
        try simp only [Tk.put]
        refine Tk.y 16 (v := .int .i8 a.2) rfl ?_ ?_
        · intro wS hSw
          obtain ⟨q0, q1⟩ := HC5.out wS hSw
          first | (go_simp; done) | (go_simp; with_reducible rfl)
        try simp only [Tk.put]
        refine Tk.x 17 rfl ?_
        try simp only [Tk.put]
        refine Tk.x 18 rfl ?_
        try simp only [Tk.put]
        refine Tk.x 19 rfl ?_
        try simp only [Tk.put]
        refine Tk.x 20 rfl ?_
        try simp only [Tk.put]
        refine Tk.y 21 (v := .int .i8 a.2) rfl ?_ ?_
        · intro wS hSw
          obtain ⟨q0, q1⟩ := HC6.out wS hSw
          first | (go_simp; done) | (go_simp; with_reducible rfl)
        try simp only [Tk.put]
        refine Tk.y 22 (v := .bool false) rfl ?_ ?_
        · intro wS hSw
          first | (go_simp; done) | (go_simp; with_reducible rfl)
        try simp only [Tk.put]
        refine Tk.y 23 (v := .bool false) rfl ?_ ?_
        · intro wS hSw
          first | (go_simp; done) | (go_simp; with_reducible rfl)
        try simp only [Tk.put]
        refine wpAnyH_done (by kernel_rfl) ?_ _
        go_wp2_with fail
        go_roundw
        case rel => exact ⟨i + 1, by omega, by go_num, Lib.hid (HW.out.trans (hHeld.mono HW.out.size))⟩
        case measure => simp [intOf]; omega
      · obtain rfl : i = m := by omega
        go_wp2_with (go_at_call 8; (refine (known32 _ (HT.out.grown (HB6.out.trans (HW.out.mono HB6.out.size)))).mono ?_); rintro e w9 ⟨rfl, hb9⟩)
        go_ret
        exact ⟨rfl, HB6.out.trans ((HW.out.trans (hb9.mono HW.out.size)).mono HB6.out.size)⟩
theorem walk {w : World} (A : Option Addr) (X : Nat → Nd) (n c : Nat) (hc : n ≤ c) (hm : c ≤ maxLen) (hN : za5 w w.heap.size A n X) (hO : ∀ j, j < n → NdOk w w.heap.size (X j)) (lo : Int) (wlo : (Lit.int .i8 lo).wf = true) (hi : Int) (whi : (Lit.int .i8 hi).wf = true)
    (x0 x1 x2 x8 x11 x12 x13 x14 x15 x16 x17 x18 : Value) (K S P O Z : Int) (WA : Option Addr) (ws : List Int) (cW : Nat) (BA : Option Addr) (bs : List Int) (cB : Nat) (wz : (Lit.int .i8 Z).wf = true) (hcw : ws.length ≤ cW) (hmw : cW ≤ maxLen) (hww : ∀ n ∈ ws, (Lit.int .i8 n).wf = true) (hrw : Kit.Rd w w.heap.size WA (ws.map (.int .i8)))
    (hcb : bs.length ≤ cB) (hmb : cB ≤ maxLen) (hwb : ∀ n ∈ bs, (Lit.int .i32 n).wf = true) (hrb : Kit.Rd w w.heap.size BA (bs.map (.int .i32)))
    (hnd : ∃ kd na nb Y m1 s1 z1 m2 s2 z2 lo hi : Int, (x0 = .int .i64 kd ∧ x1 = .int .i64 na ∧ x2 = .int .i64 nb ∧ x8 = .int .i8 Y ∧ x11 = .int .i32 m1 ∧ x12 = .int .i64 s1 ∧ x13 = .int .i8 z1 ∧ x14 = .int .i32 m2 ∧ x15 = .int .i64 s2 ∧ x16 = .int .i8 z2 ∧ x17 = .int .i8 lo ∧ x18 = .int .i8 hi) ∧ NdBd kd na nb Y m1 s1 z1 m2 s2 z2 lo hi)
    (hks : (-9223372036854775808 ≤ K ∧ K ≤ 9223372036854775807) ∧ (-9223372036854775808 ≤ S ∧ S ≤ 9223372036854775807) ∧ (-9223372036854775808 ≤ P ∧ P ≤ 9223372036854775807) ∧ (-9223372036854775808 ≤ O ∧ O ≤ 9223372036854775807)) (hT : zah w) :
    Calls Tryd.prog 3 #[.slice A n c, .int .i8 lo, .int .i8 hi, .agg #[x0, x1, x2, .int .i64 K, .int .i64 S, .int .i64 P, .int .i64 O, .int .i8 Z, x8, .slice WA ws.length cW, .slice BA bs.length cB, x11, x12, x13, x14, x15, x16, x17, x18]] w fun e w' => e = .returned (.bool true) ∧ Below w.heap.size w w' := by
  obtain ⟨kd, na, nb, Yy, m1, s1, z1, m2, s2, z2, nlo, nhi, ⟨rfl, rfl, rfl, rfl, rfl, rfl, rfl, rfl, rfl, rfl, rfl, rfl⟩, bd⟩ := hnd
  have hlo : -128 ≤ lo ∧ lo ≤ 127 := by simpa [Lit.wf, IntKind.min, IntKind.max, IntKind.signed, IntKind.bits] using wlo
  have hhi : -128 ≤ hi ∧ hi ≤ 127 := by simpa [Lit.wf, IntKind.min, IntKind.max, IntKind.signed, IntKind.bits] using whi
  obtain ⟨Q, hQ⟩ := CBund.choose_fnE (([], []) : List Int × List Int) (n := n) (p := fun j q => NdL w w.heap.size (X j) q.1 q.2) (fun j hj => ndl_of (hO j hj))
  obtain ⟨d1, d2, d3, d4, d5, d6, d7, d8, d9, d10, d11, d12⟩ := bd
  have hz : -128 ≤ Z ∧ Z ≤ 127 := by simpa [Lit.wf, IntKind.min, IntKind.max, IntKind.signed, IntKind.bits] using wz
  obtain ⟨x, hx⟩ : ∃ x : Nd, x = ⟨kd, na, nb, K, S, P, O, Z, Yy, WA, ws.length, cW, BA, bs.length, cB, m1, s1, z1, m2, s2, z2, nlo, nhi⟩ := ⟨_, rfl⟩
  have hok : NdOk w w.heap.size x := by
    subst hx
    exact ⟨hz, d2, d3, hks, ⟨d5, d8, d7, d10, d11, d12, d4⟩, ⟨d6, d9, d1⟩, ⟨ws, rfl, hcw, hmw, hww, hrw⟩, ⟨bs, rfl, hcb, hmb, hwb, hrb⟩⟩
  obtain ⟨q, hq⟩ := ndl_of hok
  have ex : (.agg #[.int .i64 kd, .int .i64 na, .int .i64 nb, .int .i64 K, .int .i64 S, .int .i64 P, .int .i64 O, .int .i8 Z, .int .i8 Yy, .slice WA ws.length cW, .slice BA bs.length cB, .int .i32 m1, .int .i64 s1, .int .i8 z1, .int .i32 m2, .int .i64 s2, .int .i8 z2, .int .i8 nlo, .int .i8 nhi] : Value) = .agg x.val := by subst hx; rfl
  rw [ex]
  by_cases hb : x.nW ≤ 2000 ∧ x.nB ≤ 200
  · exact walk_ok (fun j => (X j, (Q j).1, (Q j).2)) A n c hN (fun j hj => hQ j hj) lo hi ⟨hlo, hhi⟩ (x, q.1, q.2) hq hT hb
  · exact walk_big (fun j => (X j, (Q j).1, (Q j).2)) A n c hN (fun j hj => hQ j hj) lo hi ⟨hlo, hhi⟩ (x, q.1, q.2) hq hT hb
/-! ### the frame: written by program -/
theorem own : ownKnob Tryd.prog.godebug = none := by kernel_rfl
theorem laid : laidOutB Tryd.prog = true := by kernel_rfl
theorem contract {H : Type} {enc : TypeId × Value → H} {W : World} {base : Nat} {args : Array Value} {ds gs : List (DataW H)} {before : List MemPlace}
    (hval0 : ∀ (j : Nat) t v, Tryd.f3.params[j]? = some t → args[j]? = some v → Value.okWide Tryd.prog W .any base t v)
    (hW : DataW.Whole enc Tryd.prog Tryd.f3.params.toList Rows.guardFlowsSpec.vars false W args.toList ds gs before)
    (hL : laidMetH Tryd.prog [("stepwell/kinds.names", Rows.laid_stepwell_kinds_names)] W) :
    Calls Tryd.prog 3 args W fun e W' => e = .returned (.bool true) ∧ Below W.heap.size W W' := by
  have hval : ∀ (j : Nat) t v, Tryd.f3.params[j]? = some t → args[j]? = some v → Value.okWide Tryd.prog W .any base t v := hval0
  obtain ⟨p, q, hA0, hV, rfl, hfz, hnd⟩ := hW
  have hA : DataW.TrodAll enc Tryd.prog W 0 (fun _ => true) true Tryd.f3.params.toList args.toList ds p := hA0
  rw [Tryd.params3] at hA hval
  obtain ⟨v0, vs0, d0, ds0, p0, q0, hargs, rfl, rfl, h0, r0⟩ := trodAll_cons hA
  obtain ⟨v1, vs1, d1, ds1, p1, q1, rfl, rfl, rfl, h1, r1⟩ := trodAll_cons r0
  obtain ⟨v2, vs2, d2, ds2, p2, q2, rfl, rfl, rfl, h2, r2⟩ := trodAll_cons r1
  obtain ⟨v3, vs3, d3, ds3, p3, q3, rfl, rfl, rfl, h3, r3⟩ := trodAll_cons r2
  obtain ⟨rfl, rfl, rfl⟩ := trodAll_nil r3
  obtain rfl : args = #[v0, v1, v2, v3] := by cases args; simp_all
  clear hA0 hval0
  obtain ⟨A0, X0, n0, c0, rfl, hc0, hm0, hN0, hO0⟩ := CGraph.open_nodes (hval 0 22 v0 rfl rfl) h0
  obtain ⟨a1, rfl, rfl, rfl, w1⟩ := open_int Tryd.underlying23 (hval 1 23 v1 rfl rfl) h1
  obtain ⟨a2, rfl, rfl, rfl, w2⟩ := open_int Tryd.underlying23 (hval 2 23 v2 rfl rfl) h2
  obtain ⟨n3_0, n3_1, n3_2, n3_8, n3_11, n3_12, n3_13, n3_14, n3_15, n3_16, n3_17, n3_18, K3, S3, Q3, O3, Z3, WA3, ws3, cW3, BA3, bs3, cB3, rfl, wz3, hcw3, hmw3, hww3, hrw3, hcb3, hmb3, hwb3, hrb3⟩ := Kit.open_node (i := 3) (b8 := 23) (d := 24) (e := 23) (d2 := 25) (e2 := 21) Tryd.underlying29 (by kernel_rfl) Tryd.underlying3 (by kernel_rfl) Tryd.underlying23 (by kernel_rfl) Tryd.underlying24 Tryd.underlying23 (by kernel_rfl) (by kernel_rfl) Tryd.underlying25 Tryd.underlying21 (by kernel_rfl) (by kernel_rfl) rfl rfl rfl rfl rfl rfl rfl ⟨rfl, rfl⟩ ⟨rfl, rfl⟩ ⟨rfl, rfl⟩ ⟨rfl, rfl⟩ ⟨rfl, rfl⟩ ⟨rfl, rfl⟩ ⟨rfl, rfl⟩ (hval 3 29 v3 rfl rfl) h3
  exact walk (w := W) A0 X0 n0 c0 hc0 hm0 hN0 hO0 a1 w1 a2 w2 n3_0 n3_1 n3_2 n3_8 n3_11 n3_12 n3_13 n3_14 n3_15 n3_16 n3_17 n3_18 K3 S3 Q3 O3 Z3 WA3 ws3 cW3 BA3 bs3 cB3 wz3 hcw3 hmw3 hww3 hrw3 hcb3 hmb3 hwb3 hrb3 (CKind.nd_cells (hval 3 29 _ rfl rfl)) (CGuard.nd_ks (hval 3 29 _ rfl rfl)) (of_laid hL)
theorem fnIs {H : Type} : ∀ ds : List (DataW H), ds.length = Tryd.f3.params.toList.length → Rows.guardFlowsSpec.fn H ds = { results := [.lit (.bool true)], args := ds } := by
  intro ds h
  rw [Tryd.params3] at h
  match ds, h with
  | [d1, d2, d3, d4], _ => rfl
theorem door_met (os : Os) (args : Array Value) : laidMetH Tryd.prog [("stepwell/kinds.names", Rows.laid_stepwell_kinds_names)] ((World.doorLaid Tryd.prog 400 os).forCall (fun _ _ => 0) ⟨#[], args, []⟩).memory :=
  laidMetH_of_parts3 (fuel := 8) (laidMet_of_run' 8 (by kernel_rfl) (by kernel_rfl)) (by kernel_rfl) (by kernel_rfl)
set_option maxRecDepth 100000 in
theorem lifted (os : Os) (started : os.Started) (H : Type) (enc : TypeId × Value → H) :
    ReturnsInHanded {} Tryd.checked os 3 .any (fun w args => (Rows.guardFlowsSpec.pre enc Tryd.prog Tryd.f3 [] false w args ∧ laidMetH Tryd.prog [("stepwell/kinds.names", Rows.laid_stepwell_kinds_names)] w) ∧ sizedMet enc Tryd.prog Tryd.f3 (OpenSpec.ofChange Rows.guardFlowsSpec) false w args) (Rows.guardFlowsSpec.post enc Tryd.prog Tryd.f3 false true false false) := by
  refine returnsInHanded_of_change_and (C := Tryd.checked) (X := fun w _ => laidMetH Tryd.prog [("stepwell/kinds.names", Rows.laid_stepwell_kinds_names)] w) (fun _ _ _ hh h => h.of_heap hh) own started (by kernel_rfl) Tryd.func3
    (ChangeSpec.witness_shaped (enc := enc) (C := Tryd.checked) (os := os) (X := fun w _ => laidMetH Tryd.prog [("stepwell/kinds.names", Rows.laid_stepwell_kinds_names)] w) false (World.doorLaid Tryd.prog 400 os) #[.slice none 0 0, .int .i8 0, .int .i8 0, .agg #[.int .i64 0, .int .i64 0, .int .i64 0, .int .i64 0, .int .i64 0, .int .i64 0, .int .i64 0, .int .i8 0, .int .i8 0, .slice none 0 0, .slice none 0 0, .int .i32 0, .int .i64 0, .int .i8 0, .int .i32 0, .int .i64 0, .int .i8 0, .int .i8 0, .int .i8 0]] 8 rfl (World.shaped_of_RefB (by kernel_rfl) (by kernel_rfl)) (by kernel_rfl) (by kernel_rfl) (by kernel_rfl) (door_met os _)) ?_
  intro W base args ds gs before hval hW _ _ hL _
  refine (contract hval hW hL).mono fun e W' ⟨he, hg⟩ => ?_
  subst he
  exact ⟨_, rfl, Kit.law_post (tb := 4) laid (by kernel_rfl) rfl (by kernel_rfl) Tryd.underlying4 fnIs hW hg⟩
theorem over : Rows.guardFlowsRow.holds Tryd.pinned (OpenSpec.ofChange Rows.guardFlowsSpec) :=
  OpenClaim.holds_of_wide 3 Tryd.f3 rfl rfl rfl rfl rfl rfl rfl ⟨rfl, rfl, rfl, rfl, rfl⟩ rfl rfl rfl rfl rfl (by kernel_rfl) Tryd.func3 (by kernel_rfl)
    (of_decide_eq_true (by kernel_rfl)) (by unfold Func.isWrapper; first | (rw [if_pos (by decide +kernel)]; kernel_rfl) | (rw [if_neg (by decide +kernel)]; exact ⟨rfl, rfl⟩))
    (fun os started H enc _ => lifted os started H enc)
/-- the statement: the tied card. -/
theorem proved : Rows.GuardFlowsCardSaid :=
  Claim7.holds_tied_plain_at .later [] [.data] true (true, "7be002e17f93e2207bf7dc119771c6eb324e58f551931b31c07ba85cee8dddf2") false
    over (fun _ h => by cases h) (by kernel_rfl) (fun _ h => by cases h) guardFlows_row_tie rfl ⟨rfl, rfl⟩ (by kernel_rfl) rfl
    (fun f fn hf hfn => by
      obtain rfl : f = 3 := Option.some.inj ((show Tryd.prog.funcNamed "stepwell/stepwelllaw32.GuardFlows" = some 3 by kernel_rfl).symm.trans hf) |>.symm
      obtain rfl : fn = Tryd.f3 := (Option.some.inj (Tryd.func3.symm.trans hfn)).symm
      exact ⟨by kernel_rfl, fun j t ht => by
        rw [Tryd.params3] at ht
        have hm : t ∈ [22, 23, 23, 29] := by simpa using Array.mem_of_getElem? ht
        have hall : ([22, 23, 23, 29].all fun u => !Tryd.prog.wantsStandIn u) = true := by kernel_rfl
        exact (show Tryd.prog.wantsStandIn t = false by simpa using List.all_eq_true.1 hall t hm)⟩)
    (by kernel_rfl)
end Go.Proofs.YtceehogkckdbkaaDoor.lawGuardFlows
