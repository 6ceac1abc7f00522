/- Texts of this seat, one behind the other: RunAgainW. -/
import Derived.Deep.RegionHeld3
import Derived.Deep.CutRange
import Derived.Laws.AppendOwn
import Derived.Laws.MakeOwn
import Derived.Test.YtoghpoopgkahiaaGreatDoorGA9
import Derived.Test.YtoghpoopgkahiaaGreatDoorGA12
import Derived.Test.YtoghpoopgkahiaaGreatDoorGA36
import Derived.Test.YtoghpoopgkahiaaGreatDoorGA51
section
namespace Go.Proofs.YtoghpoopgkahiaaGreatDoor.lawRunAgain
set_option maxRecDepth 100000
open Go Go.ChangeShapes Go.WideShapes Go.ChangeAt Go.RowKit Go.Deep
open Plain CSat CFix CShape CTensor CConv CKind CRun
set_option linter.unusedVariables false
set_option linter.unusedSimpArgs false
set_option maxRecDepth 100000 in
set_option maxHeartbeats 4000000 in
theorem walk_no1 (x : Nd) (H W C : Int) (A : Option Addr) (n c : Nat) (H2 W2 C2 : Int) (B : Option Addr) (m d : Nat) (hf : ¬ (n ≤ 1024 ∧ x.nW ≤ 2000 ∧ x.nB ≤ 200)) (w : World) (hT : NamesIn w) :
    Calls Tryz.prog 5 #[.agg x.val, .agg #[.int .i64 H, .int .i64 W, .int .i64 C, .slice A n c], .agg #[.int .i64 H2, .int .i64 W2, .int .i64 C2, .slice B m d]] w fun e w' => e = .returned (.bool true) ∧ Below w.heap.size w w' := by
  have HF : Hid (∀ w, Calls Tryz.prog 6 #[.agg #[.int .i64 H, .int .i64 W, .int .i64 C, .slice A n c], .agg x.val] w fun e w' => e = .returned (.bool false) ∧ Below w.heap.size w w') := Lib.hid (fun w => few_no H W C A n c (.int .i64 x.kd) (.int .i64 x.na) (.int .i64 x.nb) (.int .i8 x.Y) (.int .i32 x.m1) (.int .i64 x.s1) (.int .i8 x.z1) (.int .i32 x.m2) (.int .i64 x.s2) (.int .i8 x.z2) (.int .i8 x.lo) (.int .i8 x.hi) x.K x.S x.P x.O x.Z x.WA x.BA x.nW x.cW x.nB x.cB hf w)
  have HT := Lib.hid hT
  clear hT hf
  go_enter Tryz.func5, Tryz.ntmps5
  go_wp2_with (first
    | (go_at_call 6
       have hal : Below w.heap.size w (((w.alloc (.cells x.val 28)).alloc (.cells #[.int .i64 H, .int .i64 W, .int .i64 C, .slice A n c] 32)).alloc (.cells #[.int .i64 H2, .int .i64 W2, .int .i64 C2, .slice B m d] 32)) := (((Below.refl _ _).alloc (by first | exact Nat.le_refl _ | (simp; done) | (simp; omega)) _).alloc (by first | exact Nat.le_refl _ | (simp; done) | (simp; omega)) _).alloc (by first | exact Nat.le_refl _ | (simp; done) | (simp; omega)) _
       refine (HF.out _).mono ?_
       rintro e w1 ⟨rfl, hb⟩
       have hh : Below w.heap.size w w1 := hal.trans (hb.mono hal.size)
       have qTN := (NB.new x 28) w
       try simp only [World.size_alloc] at qTN
       have TN := Lib.hid ((qTN.below (B' := w.heap.size + 1) (by omega) ((((Below.refl _ _).alloc (by first | exact Nat.le_refl _ | (simp; done) | (simp; omega)) _).alloc (by first | exact Nat.le_refl _ | (simp; done) | (simp; omega)) _).mono (by simp))).below (by first | (simp; done) | (simp; omega)) hb)
       have yTN : w.heap.size < w1.heap.size := by have := hb.size; simp at this; omega
       clear qTN
       have qTA := (boxNew H W C A n c 32) (w.alloc (.cells x.val 28))
       try simp only [World.size_alloc] at qTA
       have TA := Lib.hid ((qTA.below (B' := w.heap.size + 2) (by omega) (((Below.refl _ _).alloc (by first | exact Nat.le_refl _ | (simp; done) | (simp; omega)) _).mono (by simp))).below (by first | (simp; done) | (simp; omega)) hb)
       have yTA : w.heap.size + 1 < w1.heap.size := by have := hb.size; simp at this; omega
       clear qTA
       have qTB := (boxNew H2 W2 C2 B m d 32) ((w.alloc (.cells x.val 28)).alloc (.cells #[.int .i64 H, .int .i64 W, .int .i64 C, .slice A n c] 32))
       try simp only [World.size_alloc] at qTB
       have TB := Lib.hid (qTB.below (by first | (simp; done) | (simp; omega)) hb)
       have yTB : w.heap.size + 2 < w1.heap.size := by have := hb.size; simp at this; omega
       clear qTB
       have HBW : Hid (Below w.heap.size w w1) := Lib.hid hh
       obtain ⟨tap0, tap1, tap2, tap3⟩ := TA.out
       obtain ⟨tbp0, tbp1, tbp2, tbp3⟩ := TB.out
       clear hb hh hal)
    | (go_at_call 7
       have hal : Below w1.heap.size w1 w1 := Below.refl _ _
       refine (known26 _ (HT.out.grown HBW.out)).mono ?_
       rintro e w2 ⟨rfl, hb⟩
       have hh : Below w1.heap.size w1 w2 := hal.trans (hb.mono hal.size)
       replace TN := Lib.hid (TN.out.below yTN hh)
       replace yTN := Nat.lt_of_lt_of_le yTN hh.size
       replace TA := Lib.hid (TA.out.below yTA hh)
       replace yTA := Nat.lt_of_lt_of_le yTA hh.size
       replace TB := Lib.hid (TB.out.below yTB hh)
       replace yTB := Nat.lt_of_lt_of_le yTB hh.size
       replace HBW := Lib.hid (HBW.out.trans (hh.mono HBW.out.size))
       clear tap0 tap1 tap2 tap3 tbp0 tbp1 tbp2 tbp3
       obtain ⟨tap0, tap1, tap2, tap3⟩ := TA.out
       obtain ⟨tbp0, tbp1, tbp2, tbp3⟩ := TB.out
       clear hb hh hal)
    | (refine nd_load rfl _ rfl w.heap.size x rfl (show NdAt w.heap.size x _ from (NdAt.new x 28 w).below (B := w.heap.size + 1) (by omega) (((Below.refl _ _).alloc (by simp) _).alloc (by first | exact Nat.le_refl _ | (simp; done) | (simp; omega) | omega) _)) ?_))
  go_ret
  exact ⟨rfl, HBW.out⟩
set_option maxRecDepth 100000 in
set_option maxHeartbeats 4000000 in
theorem walk_no2 (x : Nd) (H W C : Int) (A : Option Addr) (n c : Nat) (H2 W2 C2 : Int) (B : Option Addr) (m d : Nat) (hf : n ≤ 1024 ∧ x.nW ≤ 2000 ∧ x.nB ≤ 200) (hm : 1024 < m) (hm6 : m ≤ maxLen) (w : World) (hT : NamesIn w) :
    Calls Tryz.prog 5 #[.agg x.val, .agg #[.int .i64 H, .int .i64 W, .int .i64 C, .slice A n c], .agg #[.int .i64 H2, .int .i64 W2, .int .i64 C2, .slice B m d]] w fun e w' => e = .returned (.bool true) ∧ Below w.heap.size w w' := by
  have HF : Hid (∀ w, Calls Tryz.prog 6 #[.agg #[.int .i64 H, .int .i64 W, .int .i64 C, .slice A n c], .agg x.val] w fun e w' => e = .returned (.bool true) ∧ Below w.heap.size w w') := Lib.hid (fun w => few_yes H W C A n c (.int .i64 x.kd) (.int .i64 x.na) (.int .i64 x.nb) (.int .i8 x.Y) (.int .i32 x.m1) (.int .i64 x.s1) (.int .i8 x.z1) (.int .i32 x.m2) (.int .i64 x.s2) (.int .i8 x.z2) (.int .i8 x.lo) (.int .i8 x.hi) x.K x.S x.P x.O x.Z x.WA x.BA x.nW x.cW x.nB x.cB hf.1 hf.2.1 hf.2.2 w)
  have HT := Lib.hid hT
  clear hT hf
  have h1 : (1024 : Int) < (m : Int) := by omega
  clear hm hm6
  go_enter Tryz.func5, Tryz.ntmps5
  go_wp2_with (first
    | (go_at_call 6
       have hal : Below w.heap.size w (((w.alloc (.cells x.val 28)).alloc (.cells #[.int .i64 H, .int .i64 W, .int .i64 C, .slice A n c] 32)).alloc (.cells #[.int .i64 H2, .int .i64 W2, .int .i64 C2, .slice B m d] 32)) := (((Below.refl _ _).alloc (by first | exact Nat.le_refl _ | (simp; done) | (simp; omega)) _).alloc (by first | exact Nat.le_refl _ | (simp; done) | (simp; omega)) _).alloc (by first | exact Nat.le_refl _ | (simp; done) | (simp; omega)) _
       refine (HF.out _).mono ?_
       rintro e w1 ⟨rfl, hb⟩
       have hh : Below w.heap.size w w1 := hal.trans (hb.mono hal.size)
       have qTN := (NB.new x 28) w
       try simp only [World.size_alloc] at qTN
       have TN := Lib.hid ((qTN.below (B' := w.heap.size + 1) (by omega) ((((Below.refl _ _).alloc (by first | exact Nat.le_refl _ | (simp; done) | (simp; omega)) _).alloc (by first | exact Nat.le_refl _ | (simp; done) | (simp; omega)) _).mono (by simp))).below (by first | (simp; done) | (simp; omega)) hb)
       have yTN : w.heap.size < w1.heap.size := by have := hb.size; simp at this; omega
       clear qTN
       have qTA := (boxNew H W C A n c 32) (w.alloc (.cells x.val 28))
       try simp only [World.size_alloc] at qTA
       have TA := Lib.hid ((qTA.below (B' := w.heap.size + 2) (by omega) (((Below.refl _ _).alloc (by first | exact Nat.le_refl _ | (simp; done) | (simp; omega)) _).mono (by simp))).below (by first | (simp; done) | (simp; omega)) hb)
       have yTA : w.heap.size + 1 < w1.heap.size := by have := hb.size; simp at this; omega
       clear qTA
       have qTB := (boxNew H2 W2 C2 B m d 32) ((w.alloc (.cells x.val 28)).alloc (.cells #[.int .i64 H, .int .i64 W, .int .i64 C, .slice A n c] 32))
       try simp only [World.size_alloc] at qTB
       have TB := Lib.hid (qTB.below (by first | (simp; done) | (simp; omega)) hb)
       have yTB : w.heap.size + 2 < w1.heap.size := by have := hb.size; simp at this; omega
       clear qTB
       have HBW : Hid (Below w.heap.size w w1) := Lib.hid hh
       obtain ⟨tap0, tap1, tap2, tap3⟩ := TA.out
       obtain ⟨tbp0, tbp1, tbp2, tbp3⟩ := TB.out
       clear hb hh hal)
    | (go_at_call 7
       have hal : Below w1.heap.size w1 w1 := Below.refl _ _
       refine (known26 _ (HT.out.grown HBW.out)).mono ?_
       rintro e w2 ⟨rfl, hb⟩
       have hh : Below w1.heap.size w1 w2 := hal.trans (hb.mono hal.size)
       replace TN := Lib.hid (TN.out.below yTN hh)
       replace yTN := Nat.lt_of_lt_of_le yTN hh.size
       replace TA := Lib.hid (TA.out.below yTA hh)
       replace yTA := Nat.lt_of_lt_of_le yTA hh.size
       replace TB := Lib.hid (TB.out.below yTB hh)
       replace yTB := Nat.lt_of_lt_of_le yTB hh.size
       replace HBW := Lib.hid (HBW.out.trans (hh.mono HBW.out.size))
       clear tap0 tap1 tap2 tap3 tbp0 tbp1 tbp2 tbp3
       obtain ⟨tap0, tap1, tap2, tap3⟩ := TA.out
       obtain ⟨tbp0, tbp1, tbp2, tbp3⟩ := TB.out
       clear hb hh hal)
    | (refine nd_load rfl _ rfl w.heap.size x rfl (show NdAt w.heap.size x _ from (NdAt.new x 28 w).below (B := w.heap.size + 1) (by omega) (((Below.refl _ _).alloc (by simp) _).alloc (by first | exact Nat.le_refl _ | (simp; done) | (simp; omega) | omega) _)) ?_))
  go_ret
  exact ⟨rfl, HBW.out⟩
/-- a tensor's box. -/
def TBx (g : Nat) (H W C : Int) (A : Option Addr) (n c : Nat) (w : World) : Prop :=
  w.cell? ⟨g, 0, none⟩ = some (.int .i64 H) ∧ w.cell? ⟨g, 1, none⟩ = some (.int .i64 W) ∧ w.cell? ⟨g, 2, none⟩ = some (.int .i64 C) ∧ w.cell? ⟨g, 3, none⟩ = some (.slice A n c)
theorem TBx.below {g B : Nat} {H W C : Int} {A : Option Addr} {n c : Nat} {w w' : World} (h : TBx g H W C A n c w) (hg : g < B) (hb : Below B w w') : TBx g H W C A n c w' :=
  ⟨(hb.cell (p := ⟨g, 0, none⟩) hg).trans h.1, (hb.cell (p := ⟨g, 1, none⟩) hg).trans h.2.1, (hb.cell (p := ⟨g, 2, none⟩) hg).trans h.2.2.1, (hb.cell (p := ⟨g, 3, none⟩) hg).trans h.2.2.2⟩
theorem TBx.far {g g' j : Nat} {H W C : Int} {A : Option Addr} {n c : Nat} {w : World} {v : Value} (h : TBx g H W C A n c w) (hne : g' ≠ g) : TBx g H W C A n c (w.setCell ⟨g', j, none⟩ v) :=
  ⟨(World.cell?_setCell_far _ _ _ _ hne).trans h.1, (World.cell?_setCell_far _ _ _ _ hne).trans h.2.1, (World.cell?_setCell_far _ _ _ _ hne).trans h.2.2.1, (World.cell?_setCell_far _ _ _ _ hne).trans h.2.2.2⟩
/-- what stands while the first of three is turned to noughts. -/
def Zeroed (w2 : World) (bt bu : Nat) (X V U : Int) (A2 A3 : Option Addr) (k c2 c3 : Nat) (xs : List Int) (wr : World) : Prop :=
  Below w2.heap.size w2 wr ∧ TBx bt X V U A2 k c2 wr ∧ TBx bu X V U A3 k c3 wr ∧ (∃ ys, wr.ownsRow w2.heap.size 22 1 (.slice A2 k c2) k (I8s ys)) ∧ wr.ownsRow (bt + 1) 22 1 (.slice A3 k c3) k (I8s xs) ∧ bu < wr.heap.size
theorem info_i8r : (Tryz.prog.info? 22).map (fun i => (i.zero, i.size, i.bytes)) = some (some (.int .i8 0), 1, 1) := by kernel_rfl
theorem info_partsr {P : Program} {t : TypeId} {z : Option Value} {s b : Nat} (h : (P.info? t).map (fun i => (i.zero, i.size, i.bytes)) = some (z, s, b)) : ∃ i, P.info? t = some i ∧ i.zero = z ∧ i.size = s ∧ i.bytes = b := by
  cases hi : P.info? t with
  | none => rw [hi] at h; cases h
  | some i => rw [hi] at h; simp at h; exact ⟨i, rfl, h.1, h.2.1, h.2.2⟩
set_option maxRecDepth 100000 in
set_option maxHeartbeats 16000000 in
theorem walk_yes (x : Nd) (H W C : Int) (A : Option Addr) (n c : Nat) (H2 W2 C2 : Int) (B : Option Addr) (m d : Nat) (hf : n ≤ 1024 ∧ x.nW ≤ 2000 ∧ x.nB ≤ 200) (hm : m ≤ 1024) (w : World) (zs ys ws bs : List Int) (hM : Mem x A B zs ys ws bs w) (hzn : zs.length = n) (X V U : Int) (k : Nat) (xs : List Int) (er : Int) (hxs : xs.length = k) (hk6 : k ≤ 1000000)
    (hN : ∀ w1, Mem x A B zs ys ws bs w1 → Calls Tryz.prog 8 #[.agg x.val, .agg #[.int .i64 H, .int .i64 W, .int .i64 C, .slice A n c], .agg #[.int .i64 H2, .int .i64 W2, .int .i64 C2, .slice B m d]] w1 (CAct.MadeT w1 X V U k xs (.int .i64 er))) :
    Calls Tryz.prog 5 #[.agg x.val, .agg #[.int .i64 H, .int .i64 W, .int .i64 C, .slice A n c], .agg #[.int .i64 H2, .int .i64 W2, .int .i64 C2, .slice B m d]] w fun e w' => e = .returned (.bool true) ∧ Below w.heap.size w w' := by
  have HF : Hid (∀ w, Calls Tryz.prog 6 #[.agg #[.int .i64 H, .int .i64 W, .int .i64 C, .slice A n c], .agg x.val] w fun e w' => e = .returned (.bool true) ∧ Below w.heap.size w w') := Lib.hid (fun w => few_yes H W C A n c (.int .i64 x.kd) (.int .i64 x.na) (.int .i64 x.nb) (.int .i8 x.Y) (.int .i32 x.m1) (.int .i64 x.s1) (.int .i8 x.z1) (.int .i32 x.m2) (.int .i64 x.s2) (.int .i8 x.z2) (.int .i8 x.lo) (.int .i8 x.hi) x.K x.S x.P x.O x.Z x.WA x.BA x.nW x.cW x.nB x.cB hf.1 hf.2.1 hf.2.2 w)
  have HN := Lib.hid hN
  have HT := Lib.hid hM.2.2.2.2
  have HM := Lib.hid hM
  have HZN := Lib.hid hzn
  have HXL := Lib.hid hxs
  have h1 : ¬ (1024 : Int) < (m : Int) := by omega
  have hn1024 : n ≤ 1024 := hf.1
  clear hM hf hm hN hzn hxs
  have TN : Hid (NdAt w.heap.size x (((w.alloc (.cells x.val 28)).alloc (.cells #[.int .i64 H, .int .i64 W, .int .i64 C, .slice A n c] 32)).alloc (.cells #[.int .i64 H2, .int .i64 W2, .int .i64 C2, .slice B m d] 32))) := Lib.hid ((NdAt.new x 28 w).below (B := w.heap.size + 1) (by omega) (((Below.refl _ _).alloc (by simp) _).alloc (by first | exact Nat.le_refl _ | (simp; done) | (simp; omega) | omega) _))
  have HB : Hid (Below w.heap.size w (((w.alloc (.cells x.val 28)).alloc (.cells #[.int .i64 H, .int .i64 W, .int .i64 C, .slice A n c] 32)).alloc (.cells #[.int .i64 H2, .int .i64 W2, .int .i64 C2, .slice B m d] 32))) := Lib.hid ((((Below.refl _ _).alloc (Nat.le_refl _) _).alloc (by first | exact Nat.le_refl _ | (simp; done) | (simp; omega) | omega) _).alloc (by first | exact Nat.le_refl _ | (simp; done) | (simp; omega) | omega) _)
  have HS : Hid ((((w.alloc (.cells x.val 28)).alloc (.cells #[.int .i64 H, .int .i64 W, .int .i64 C, .slice A n c] 32)).alloc (.cells #[.int .i64 H2, .int .i64 W2, .int .i64 C2, .slice B m d] 32)).heap.size = w.heap.size + 3) := Lib.hid (by simp)
  go_enter Tryz.func5, Tryz.ntmps5
  go_upto_region 1 with fail
  have TA : Hid (TBx (w.heap.size + 1) H W C A n c (((w.alloc (.cells x.val 28)).alloc (.cells #[.int .i64 H, .int .i64 W, .int .i64 C, .slice A n c] 32)).alloc (.cells #[.int .i64 H2, .int .i64 W2, .int .i64 C2, .slice B m d] 32))) := Lib.hid ⟨by go_cell, by go_cell, by go_cell, by go_cell⟩
  have TB : Hid (TBx (w.heap.size + 2) H2 W2 C2 B m d (((w.alloc (.cells x.val 28)).alloc (.cells #[.int .i64 H, .int .i64 W, .int .i64 C, .slice A n c] 32)).alloc (.cells #[.int .i64 H2, .int .i64 W2, .int .i64 C2, .slice B m d] 32))) := Lib.hid ⟨by go_cell, by go_cell, by go_cell, by go_cell⟩
  generalize (((w.alloc (.cells x.val 28)).alloc (.cells #[.int .i64 H, .int .i64 W, .int .i64 C, .slice A n c] 32)).alloc (.cells #[.int .i64 H2, .int .i64 W2, .int .i64 C2, .slice B m d] 32)) = W0 at *
  have HL : Hid (w.heap.size + 2 < W0.heap.size) := Lib.hid (by rw [HS.out]; omega)
  clear HS
  obtain ⟨a0, a1, a2, a3⟩ := TA.out
  obtain ⟨b0, b1, b2, b3⟩ := TB.out
  go_upto_region 3 with (first
    | (refine nd_load rfl _ rfl w.heap.size x rfl TN.out ?_)
    | (go_at_call 6; (with_reducible refine (HF.out _).mono ?_); rintro e1 w1 ⟨rfl, hb⟩; (replace TN := Lib.hid (TN.out.below (by have := HL.out; omega) hb)); (replace TA := Lib.hid (TA.out.below (by have := HL.out; omega) hb)); (replace TB := Lib.hid (TB.out.below (by have := HL.out; omega) hb)); (replace HB := Lib.hid (HB.out.trans (hb.mono HB.out.size))); (replace HL := Lib.hid (Nat.lt_of_lt_of_le HL.out hb.size)); clear hb a0 a1 a2 a3 b0 b1 b2 b3; obtain ⟨a0, a1, a2, a3⟩ := TA.out; obtain ⟨b0, b1, b2, b3⟩ := TB.out))
  obtain ⟨i0, hi0, hi1, hi2, hi3⟩ := info_partsr info_i8r
  have hl1 : w.heap.size + 1 < w1.heap.size := by have := HL.out; omega
  go_upto_region 4 with (at_builtin; refine Kit.wpList_append_rd _ rfl (.tmp 26) (.tmp 28) _ rfl w1.heap.size 22 i0 (.int .i8 0) 1 1 Tryz.underlying23 hi0 hi1 hi2 hi3 rfl (by decide) (.slice (some ⟨_, 0, none⟩) 0 0) 0 [] rfl (World.ownsRow_lit _ #[] 0 (Nat.le_refl _) (Nat.zero_le _) rfl) _ _ n _ (I8s zs) rfl (by simp [I8s, HZN.out]) (((HM.out.1.below HB.out).more HB.out.size).alloc (Nat.le_refl _) _) (Kit.ints_one .i8 zs) (by unfold maxLen; omega) (by omega) (by simp) ?_; intro v1 w2 hown1 hg1 hat1; replace hown1 : w2.ownsRow w1.heap.size 22 1 v1 n (I8s zs) := (by simpa using hown1); have hb : Below w1.heap.size w1 w2 := (((Below.refl _ w1).alloc (Nat.le_refl _) (.cells #[] 22)).grown hg1 (by simp) (fun q hq => by simp [Value.ownBlock] at hq; omega)); obtain ⟨A1, c1, rfl, -, -, hr1⟩ := Kit.own_rd hown1; have RW : Hid (Kit.Rd w2 w2.heap.size A1 (zs.map (.int .i8))) := Lib.hid hr1; (replace TN := Lib.hid (TN.out.below (by have := HL.out; omega) hb)); (replace TA := Lib.hid (TA.out.below (by have := HL.out; omega) hb)); (replace TB := Lib.hid (TB.out.below (by have := HL.out; omega) hb)); (replace HB := Lib.hid (HB.out.trans (hb.mono HB.out.size))); (replace HL := Lib.hid (Nat.lt_of_lt_of_le HL.out hb.size)); clear hb hown1 hg1 hat1 hr1 a0 a1 a2 a3 b0 b1 b2 b3 hl1)
  clear hi0 hi1 hi2 hi3
  replace HM := Lib.hid (HM.out.grown HB.out)
  replace HT := Lib.hid (HT.out.grown HB.out)
  have HA0 : Hid (Kit.Rd w2 w2.heap.size A (zs.map (.int .i8))) := Lib.hid HM.out.1
  obtain ⟨a0, a1, a2, a3⟩ := TA.out
  obtain ⟨b0, b1, b2, b3⟩ := TB.out
  go_upto_region 5 with (first
    | (refine nd_load rfl _ rfl w.heap.size x rfl TN.out ?_)
    | (go_at_call 8; (with_reducible refine (HN.out _ HM.out).mono ?_); rintro e1 w3 ⟨v, rfl, ho, hb⟩; obtain ⟨A2, c2, rfl, -, -, -⟩ := Kit.own_rd ho; have HO2 := Lib.hid ho; have HX := Lib.hid hb; clear ho hb a0 a1 a2 a3 b0 b1 b2 b3))
  have T2 : Hid (TBx w3.heap.size X V U A2 k c2 (w3.alloc (.cells #[.int .i64 X, .int .i64 V, .int .i64 U, .slice A2 k c2] 32))) := Lib.hid (boxNew X V U A2 k c2 32 w3)
  have HXA : Hid (Below w2.heap.size w2 (w3.alloc (.cells #[.int .i64 X, .int .i64 V, .int .i64 U, .slice A2 k c2] 32))) := Lib.hid (HX.out.alloc HX.out.size _)
  have HO2A := Lib.hid (Kit.own_below HO2.out ((Below.refl _ _).alloc (Nat.le_refl _) (.cells #[.int .i64 X, .int .i64 V, .int .i64 U, .slice A2 k c2] 32)))
  have HS4 : Hid ((w3.alloc (.cells #[.int .i64 X, .int .i64 V, .int .i64 U, .slice A2 k c2] 32)).heap.size = w3.heap.size + 1) := Lib.hid (by simp)
  generalize w3.alloc (.cells #[.int .i64 X, .int .i64 V, .int .i64 U, .slice A2 k c2] 32) = w4 at *
  have TN4 := Lib.hid (TN.out.below (by have := HL.out; omega) HXA.out)
  obtain ⟨a0, a1, a2, a3⟩ := TA.out.below (by have := HL.out; omega) HXA.out
  obtain ⟨b0, b1, b2, b3⟩ := TB.out.below HL.out HXA.out
  go_upto_region 6 with (first
    | (refine nd_load rfl _ rfl w.heap.size x rfl TN4.out ?_)
    | (go_at_call 8; (with_reducible refine (HN.out _ (HM.out.grown HXA.out)).mono ?_); rintro e1 w5 ⟨v, rfl, ho, hb⟩; obtain ⟨A3, c3, rfl, -, -, -⟩ := Kit.own_rd ho; have HO3 := Lib.hid ho; have HY := Lib.hid hb; clear ho hb a0 a1 a2 a3 b0 b1 b2 b3))
  have HZ : Hid (Zeroed w2 w3.heap.size w5.heap.size X V U A2 A3 k c2 c3 xs (w5.alloc (.cells #[.int .i64 X, .int .i64 V, .int .i64 U, .slice A3 k c3] 32))) := Lib.hid (by
    have hb5 := HY.out.alloc HY.out.size (.cells #[.int .i64 X, .int .i64 V, .int .i64 U, .slice A3 k c3] 32)
    refine ⟨HXA.out.trans (hb5.mono HXA.out.size), T2.out.below (by rw [HS4.out]; omega) hb5, boxNew X V U A3 k c3 32 w5, ⟨xs, Kit.own_below HO2A.out hb5⟩, ?_, by simp⟩
    have h := Kit.own_below HO3.out ((Below.refl _ _).alloc (Nat.le_refl _) (.cells #[.int .i64 X, .int .i64 V, .int .i64 U, .slice A3 k c3] 32))
    rw [HS4.out] at h
    exact h)
  have HLT : Hid (w3.heap.size < w5.heap.size) := Lib.hid (by have := HY.out.size; rw [HS4.out] at this; omega)
  have HG : Hid (0 < k → ∃ g, A2 = some ⟨g, 0, none⟩ ∧ w2.heap.size ≤ g ∧ g < w3.heap.size) := Lib.hid (fun h0 => by
    obtain ⟨g, cap, e, h3, -, -, -⟩ := Kit.own_form HO2.out h0
    cases e
    exact ⟨g, rfl, h3, Kit.block_lt_of_own HO2.out⟩)
  generalize w5.alloc (.cells #[.int .i64 X, .int .i64 V, .int .i64 U, .slice A3 k c3] 32) = W6 at HZ ⊢
  have HS2 := Lib.hid HX.out.size
  generalize w3.heap.size = bt at *
  generalize w5.heap.size = bu at *
  clear HX HXA HO2 HO2A HS4 TN4 T2 HO3 HY
  go_wp2_with fail
  go_loopw [12] (fun i wr => ∃ j : Nat, j ≤ k ∧ i = .int .i64 j ∧ Hid (Zeroed w2 bt bu X V U A2 A3 k c2 c3 xs wr)) (fun i _ => k - (intOf i).toNat)
  case atStart => exact ⟨0, Nat.zero_le _, rfl, HZ⟩
  case round =>
    obtain ⟨j, hj, rfl, hR⟩ := hrel
    by_cases hlt : j < k
    · obtain ⟨g, rfl, hg1, hg2⟩ := HG.out (by omega)
      obtain ⟨r1, ⟨t0, t1, t2, t3⟩, ru, ⟨zz, ro⟩, rv, rs⟩ := hR.out
      have hzl : (I8s zz).length = k := by have := ro.1; simpa using this
      obtain ⟨y0, ks⟩ : ∃ y, wr.cell? ⟨g, j, none⟩ = some y := ⟨_, (ro.cellAt j (by omega)).trans (List.getElem?_eq_getElem (by omega))⟩
      have fs : wr.frozen? ⟨g, j, none⟩ = false := ro.frozenAt j
      have hj0 : (0 : Int) ≤ (j : Int) := by omega
      have hj1 : (j : Int) < (k : Int) := by omega
      have hne1 : g ≠ bt := by omega
      have hne2 : g ≠ bu := by have := HLT.out; omega
      have hZ2 : Hid (Zeroed w2 bt bu X V U (some ⟨g, 0, none⟩) A3 k c2 c3 xs (wr.setCell ⟨g, j, none⟩ (.int .i8 0))) := Lib.hid (by
        refine ⟨r1.setCell (p := ⟨g, j, none⟩) hg1 _, TBx.far ⟨t0, t1, t2, t3⟩ hne1, ru.far hne2, ⟨zz.set j 0, ?_⟩, own_set rv ⟨g, j, none⟩ _ (Nat.lt_succ_of_lt hg2), by simpa [World.setCell] using rs⟩
        have h := (ro.stored j (.int .i8 0)).1
        have e : (I8s zz).set j (.int .i8 0) = I8s (zz.set j 0) := by simp [I8s, List.map_set]
        rw [e] at h
        exact h)
      clear r1 ru ro rv rs hzl hR hne1 hne2
      go_wp2_with fail
      go_roundw
      case rel => exact ⟨j + 1, by omega, by go_num, hZ2⟩
      case measure => simp [intOf]; omega
    · obtain rfl : j = k := by omega
      obtain ⟨r1, rt, ru, -, rv, rs⟩ := hR.out
      obtain ⟨t0, t1, t2, t3⟩ := rt
      have HX := Lib.hid r1
      have TU := Lib.hid ru
      have HU := Lib.hid rv
      have HLU : Hid (bu < wr.heap.size) := Lib.hid rs
      have hnl : ¬ (j : Int) < (j : Int) := by omega
      clear r1 ru rv rs hR
      have TN6 := Lib.hid (TN.out.below (by have := HL.out; omega) HX.out)
      have hTA := TA.out.below (by have := HL.out; omega) HX.out
      obtain ⟨a0, a1, a2, a3⟩ := hTA
      obtain ⟨b0, b1, b2, b3⟩ := TB.out.below HL.out HX.out
      go_wp2_with (first
        | (refine nd_load rfl _ rfl w.heap.size x rfl TN6.out ?_)
        | (go_at_call 8; (with_reducible refine (HN.out _ (HM.out.grown HX.out)).mono ?_); rintro e1 w7 ⟨v, rfl, ho, hb⟩; obtain ⟨A4, c4, rfl, -, -, hr4⟩ := Kit.own_rd ho; have RV := Lib.hid hr4; obtain ⟨A9, c9, e9, -, -, hr9⟩ := Kit.own_rd (Kit.own_below HU.out hb); cases e9; have RU := Lib.hid hr9; clear hr9; (replace HX := Lib.hid (HX.out.trans (hb.mono HX.out.size))); (replace HU := Lib.hid (Kit.own_below HU.out hb)); (replace TU := Lib.hid (TU.out.below HLU.out hb)); (replace HLU := Lib.hid (Nat.lt_of_lt_of_le HLU.out hb.size)); clear ho hr4 hb a0 a1 a2 a3 b0 b1 b2 b3 t0 t1 t2 t3; obtain ⟨u0, u1, u2, u3⟩ := TU.out; obtain ⟨a0, a1, a2, a3⟩ := TA.out.below (by have := HL.out; omega) HX.out; have hlu := HLU.out; have hl := HL.out; have hls : w2.heap.size ≤ w7.heap.size := HX.out.size)
        | (go_at_call 12; (with_reducible refine (refSame_to X V U A3 A4 xs xs j c3 c4 HXL.out HXL.out hk6 true (by simp) _ (B1 := w7.heap.size) (B2 := w7.heap.size) (by simp) (by simp) (RU.out.alloc (Nat.le_refl _) _) (RV.out.alloc (Nat.le_refl _) _)).mono ?_); rintro e1 w8 ⟨rfl, hb⟩; (replace HX := Lib.hid (HX.out.trans ((((Below.refl _ _).alloc (Nat.le_refl _) _).trans (hb.mono (by simp))).mono HX.out.size))); clear hb a0 a1 a2 a3 u0 u1 u2 u3 hlu hls; obtain ⟨a0, a1, a2, a3⟩ := TA.out.below (by have := HL.out; omega) HX.out)
        | (go_at_call 12; (with_reducible refine (refSame_to H W C A A1 zs zs n c c1 HZN.out HZN.out (by omega) true (by simp) _ (B1 := w2.heap.size) (B2 := w2.heap.size) HX.out.size HX.out.size (HA0.out.below HX.out) (RW.out.below HX.out)).mono ?_); rintro e1 w9 ⟨rfl, hb⟩; (replace HX := Lib.hid (HX.out.trans (hb.mono HX.out.size))); clear hb)
        | (go_at_call 7; (with_reducible refine (known26 _ (HT.out.grown HX.out)).mono ?_); rintro e1 w10 ⟨rfl, hb⟩; (replace HX := Lib.hid (HX.out.trans (hb.mono HX.out.size))); clear hb))
      go_ret
      exact ⟨by simp, HB.out.trans (HX.out.mono HB.out.size)⟩
end Go.Proofs.YtoghpoopgkahiaaGreatDoor.lawRunAgain
end
