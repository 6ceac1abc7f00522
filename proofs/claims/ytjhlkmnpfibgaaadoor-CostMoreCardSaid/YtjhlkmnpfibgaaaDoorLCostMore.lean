/- Layer 31 (cost), CostMore: no block costs less than 1, without its exit it costs no more, and with one node more (a Flat behind all others) it costs more, whatever the block, the shape that comes in and the number of classes; the call returns true and leaves its arguments as they were. The names of the kinds are listed as the program's text lays them. Written by gen_cost8.py. -/
import Derived.RangeFuncBox
import Derived.Test.YtjhlkmnpfibgaaaDoorTie
import Derived.Test.YtjhlkmnpfibgaaaDoorCards
import Derived.Test.YtjhlkmnpfibgaaaDoorGM49
import Derived.Test.YtjhlkmnpfibgaaaDoorGM50
namespace Go.Proofs.YtjhlkmnpfibgaaaDoor.CConv
end Go.Proofs.YtjhlkmnpfibgaaaDoor.CConv
namespace Go.Proofs.YtjhlkmnpfibgaaaDoor.CDense
end Go.Proofs.YtjhlkmnpfibgaaaDoor.CDense
namespace Go.Proofs.YtjhlkmnpfibgaaaDoor.CFix
end Go.Proofs.YtjhlkmnpfibgaaaDoor.CFix
namespace Go.Proofs.YtjhlkmnpfibgaaaDoor.CGraph
end Go.Proofs.YtjhlkmnpfibgaaaDoor.CGraph
namespace Go.Proofs.YtjhlkmnpfibgaaaDoor.CKind
end Go.Proofs.YtjhlkmnpfibgaaaDoor.CKind
namespace Go.Proofs.YtjhlkmnpfibgaaaDoor.CSat
end Go.Proofs.YtjhlkmnpfibgaaaDoor.CSat
namespace Go.Proofs.YtjhlkmnpfibgaaaDoor.CShape
end Go.Proofs.YtjhlkmnpfibgaaaDoor.CShape
namespace Go.Proofs.YtjhlkmnpfibgaaaDoor.CTensor
end Go.Proofs.YtjhlkmnpfibgaaaDoor.CTensor
namespace Go.Proofs.YtjhlkmnpfibgaaaDoor.lawCostMore
open Go Go.ChangeShapes Go.WideShapes Go.ChangeAt Go.RowKit Go.Deep
open Plain CSat CFix CShape CTensor CConv CKind CGraph CDense CBund CCost
set_option maxRecDepth 100000
set_option linter.unusedVariables false
set_option linter.unusedSimpArgs false
/-- the boxes of the law's arguments: a block, a shape. -/
def BtAt (B : Nat) (b : Bk) (t0 : Tri) (w : World) : Prop := BkAt B b w ∧ TriAt (B + 1) t0 w
theorem BtAt.below {B B' : Nat} {b : Bk} {t0 : Tri} {w w' : World} (h : BtAt B b t0 w) (hB : B + 2 ≤ B') (hb : Below B' w w') : BtAt B b t0 w' :=
  ⟨h.1.below (by omega) hb, h.2.below (by omega) hb⟩
theorem BtAt.new (b : Bk) (t0 : Tri) (T1 T2 : TypeId) (w : World) : BtAt w.heap.size b t0 ((w.alloc (.cells b.val.toArray T1)).alloc (.cells #[.int .i64 t0.1, .int .i64 t0.2.1, .int .i64 t0.2.2] T2)) := by
  have q1 := BkAt.new b T1 w
  have q2 := TriAt.new t0 T2 (w.alloc (.cells b.val.toArray T1))
  simp only [World.size_alloc] at q2
  exact ⟨q1.below (Nat.lt_succ_self _) ((Below.refl _ _).alloc (by simp) _), q2⟩
/-- the block without its exit. -/
def bkP (b : Bk) : Bk := ⟨b.A, b.n, b.c, b.X, false, b.hd⟩
/-- the block without its exit, with a node more. -/
def bkM (b : Bk) (A : Option Addr) (c : Nat) : Bk := ⟨A, b.n + 1, c, addF b.X b.n, false, b.hd⟩
/-- a box whose first cell may be written. -/
def MBox (B : Nat) (b : Bk) (w : World) : Prop := BkAt B b w ∧ w.frozen? ⟨B, 0, none⟩ = false
theorem MBox.below {B B' : Nat} {b : Bk} {w w' : World} (h : MBox B b w) (hB : B < B') (hb : Below B' w w') : MBox B b w' := ⟨h.1.below hB hb, (hb.frozen (p := ⟨B, 0, none⟩) hB).trans h.2⟩
theorem MBox.new (b : Bk) (T : TypeId) (w : World) : MBox w.heap.size b (w.alloc (.cells b.val.toArray T)) := ⟨BkAt.new b T w, World.frozen?_alloc_at _ _ _ _ rfl⟩
theorem MBox.set {B : Nat} {b : Bk} {w : World} (h : MBox B (bkP b) w) (A : Option Addr) (c : Nat) : BkAt B (bkM b A c) (w.setCell ⟨B, 0, none⟩ (.slice A (b.n + 1) c)) := by
  obtain ⟨⟨h0, h1, h2, h3, h4⟩, -⟩ := h
  exact ⟨by go_cell, by go_cell, by go_cell, by go_cell, by go_cell⟩
theorem out_nz {X : Nat → Nd} {t0 : Tri} {n : Nat} (h : outS X t0 n ≠ none) : ∃ z, (z != 0) = true ∧ ¬ z = 0 ∧ outZ X t0 n = z ∧ ∀ ex cl, cZ X t0 n ex cl = 0 := by
  cases hs : outS X t0 n with
  | none => exact absurd hs h
  | some r =>
    have hz : r.2 ≠ 0 := outS_nzC (k := r.1) hs
    exact ⟨r.2, by simpa using hz, hz, by unfold outZ; rw [hs], fun ex cl => by unfold cZ; rw [hs]⟩
set_option maxHeartbeats 8000000 in
theorem walk_no (b : Bk) (t0 : Tri) (cl : Int) (h : 7 < b.n) (w : World) (hb : BkOk w w.heap.size b) (hT : zai w) :
    Calls Tryd.prog 5 #[.agg b.val.toArray, .agg #[.int .i64 t0.1, .int .i64 t0.2.1, .int .i64 t0.2.2], .int .u8 cl] w fun e w' => e = .returned (.bool true) ∧ Below w.heap.size w w' := by
  have hb1 := (Below.refl w.heap.size w).alloc (Nat.le_refl _) (.cells b.val.toArray 28)
  have HB0 : Hid (Below w.heap.size w ((w.alloc (.cells b.val.toArray 28)).alloc (.cells #[.int .i64 t0.1, .int .i64 t0.2.1, .int .i64 t0.2.2] 30))) := Lib.hid (hb1.alloc (by simp) _)
  have HL : Hid (BtAt w.heap.size b t0 ((w.alloc (.cells b.val.toArray 28)).alloc (.cells #[.int .i64 t0.1, .int .i64 t0.2.1, .int .i64 t0.2.2] 30))) := Lib.hid (BtAt.new b t0 28 30 w)
  have HSZ : Hid (w.heap.size + 2 ≤ ((w.alloc (.cells b.val.toArray 28)).alloc (.cells #[.int .i64 t0.1, .int .i64 t0.2.1, .int .i64 t0.2.2] 30)).heap.size) := Lib.hid (by simp)
  have HBK := Lib.hid hb
  have HT := Lib.hid hT
  clear hb hT hb1
  go_enter Tryd.func5, Tryd.ntmps5
  go_upto_region 1 with fail
  generalize (w.alloc (.cells b.val.toArray 28)).alloc (.cells #[.int .i64 t0.1, .int .i64 t0.2.1, .int .i64 t0.2.2] 30) = W0 at HB0 HL HSZ ⊢
  obtain ⟨⟨k0, k1, k2, k3, k4⟩, ⟨a0, a1, a2⟩⟩ := HL.out
  have g1 : (b.n : Int) > 7 := by omega
  clear h
  go_wp2_with (first
    | (go_at_call 6
       refine (rfew31_to (uOne b W0.heap.size (W0.heap.size + 1)) _ (one_ok b W0 ((HBK.out.below HB0.out).more HB0.out.size) 28 39)).mono ?_
       rintro e w1 ⟨bf, rfl, -, hb⟩
       have hal : Below W0.heap.size W0 ((W0.alloc (.cells b.val.toArray 28)).alloc (.cells #[.slice (some ⟨W0.heap.size, 0, none⟩) 1 1] 39)) := ((Below.refl _ _).alloc (Nat.le_refl _) _).alloc (by simp) _
       have hh : Below W0.heap.size W0 w1 := hal.trans (hb.mono hal.size)
       have HB1 := Lib.hid (HB0.out.trans (hh.mono HB0.out.size))
       replace HL := Lib.hid (HL.out.below HSZ.out hh)
       have HSZ1 := Lib.hid (Nat.le_trans HSZ.out hh.size)
       clear hb hal hh k0 k1 k2 k3 k4 a0 a1 a2 HSZ
       obtain ⟨⟨k0, k1, k2, k3, k4⟩, ⟨a0, a1, a2⟩⟩ := HL.out
       rcases bf with _ | _)
    | (go_at_call 7
       refine (known31 _ (HT.out.grown HB1.out)).mono ?_
       rintro e w9 ⟨rfl, hb9⟩))
  all_goals
    go_ret
    exact ⟨rfl, HB1.out.trans (hb9.mono HB1.out.size)⟩
set_option maxHeartbeats 8000000 in
theorem walk_err (b : Bk) (t0 : Tri) (cl : Int) (hcl : 0 ≤ cl ∧ cl ≤ 255) (h : b.n ≤ 7) (ho : outS b.X t0 b.n ≠ none) (w : World) (hb : BkOk w w.heap.size b) (hT : zai w) :
    Calls Tryd.prog 5 #[.agg b.val.toArray, .agg #[.int .i64 t0.1, .int .i64 t0.2.1, .int .i64 t0.2.2], .int .u8 cl] w fun e w' => e = .returned (.bool true) ∧ Below w.heap.size w w' := by
  obtain ⟨z, hz1, hz0, ez, hc⟩ := out_nz ho
  have HX := Lib.hid (fun j (hj : j < b.n) => node_small (hb.each j hj))
  have CB : Hid (∀ wx, zai wx → NodesAt wx wx.heap.size b.A b.n b.X → Calls Tryd.prog 8 #[.agg b.val.toArray, .agg #[.int .i64 t0.1, .int .i64 t0.2.1, .int .i64 t0.2.2], .int .i64 cl] wx fun e w' => e = .returned (.tuple #[.int .i64 0, .int .i64 z]) ∧ Below wx.heap.size wx w') :=
    Lib.hid (fun wx hT hA => (cblock_to b t0 cl (by omega) wx hT HX.out hA).mono fun e w' h => by have := cst_view h; rw [ez, hc] at this; exact this)
  clear ez hc ho HX
  have hb1 := (Below.refl w.heap.size w).alloc (Nat.le_refl _) (.cells b.val.toArray 28)
  have HB0 : Hid (Below w.heap.size w ((w.alloc (.cells b.val.toArray 28)).alloc (.cells #[.int .i64 t0.1, .int .i64 t0.2.1, .int .i64 t0.2.2] 30))) := Lib.hid (hb1.alloc (by simp) _)
  have HL : Hid (BtAt w.heap.size b t0 ((w.alloc (.cells b.val.toArray 28)).alloc (.cells #[.int .i64 t0.1, .int .i64 t0.2.1, .int .i64 t0.2.2] 30))) := Lib.hid (BtAt.new b t0 28 30 w)
  have HSZ : Hid (w.heap.size + 2 ≤ ((w.alloc (.cells b.val.toArray 28)).alloc (.cells #[.int .i64 t0.1, .int .i64 t0.2.1, .int .i64 t0.2.2] 30)).heap.size) := Lib.hid (by simp)
  have HBK := Lib.hid hb
  have HT := Lib.hid hT
  clear hb hT hb1
  go_enter Tryd.func5, Tryd.ntmps5
  go_upto_region 1 with fail
  generalize (w.alloc (.cells b.val.toArray 28)).alloc (.cells #[.int .i64 t0.1, .int .i64 t0.2.1, .int .i64 t0.2.2] 30) = W0 at HB0 HL HSZ ⊢
  obtain ⟨⟨k0, k1, k2, k3, k4⟩, ⟨a0, a1, a2⟩⟩ := HL.out
  have g1 : ¬ (b.n : Int) > 7 := by omega
  have hwc : IntKind.i64.wrap cl = cl := IntWalk.i64_in _ (by omega)
  clear h hcl
  go_wp2_with (first
    | (go_at_call 6
       refine (rfew31_to (uOne b W0.heap.size (W0.heap.size + 1)) _ (one_ok b W0 ((HBK.out.below HB0.out).more HB0.out.size) 28 39)).mono ?_
       rintro e w1 ⟨bf, rfl, -, hb⟩
       have hal : Below W0.heap.size W0 ((W0.alloc (.cells b.val.toArray 28)).alloc (.cells #[.slice (some ⟨W0.heap.size, 0, none⟩) 1 1] 39)) := ((Below.refl _ _).alloc (Nat.le_refl _) _).alloc (by simp) _
       have hh : Below W0.heap.size W0 w1 := hal.trans (hb.mono hal.size)
       have HB1 := Lib.hid (HB0.out.trans (hh.mono HB0.out.size))
       replace HL := Lib.hid (HL.out.below HSZ.out hh)
       have HSZ1 := Lib.hid (Nat.le_trans HSZ.out hh.size)
       clear hb hal hh k0 k1 k2 k3 k4 a0 a1 a2 HSZ
       obtain ⟨⟨k0, k1, k2, k3, k4⟩, ⟨a0, a1, a2⟩⟩ := HL.out
       rcases bf with _ | _)
    | (go_at_call 7
       refine (known31 _ (HT.out.grown HB1.out)).mono ?_
       rintro e w9 ⟨rfl, hb9⟩)
    | (go_at_call 8
       refine (CB.out _ (HT.out.grown HB1.out) ((HBK.out.nodes.below HB1.out).more HB1.out.size)).mono ?_
       rintro e w2 ⟨rfl, hb⟩
       replace HB1 := Lib.hid (HB1.out.trans (hb.mono HB1.out.size))
       clear hb k0 k1 k2 k3 k4 a0 a1 a2))
  all_goals
    go_ret
    exact ⟨rfl, HB1.out.trans (hb9.mono HB1.out.size)⟩
set_option maxHeartbeats 16000000 in
theorem walk_ok (b : Bk) (t0 : Tri) (cl : Int) (hcl : 0 ≤ cl ∧ cl ≤ 255) (h : b.n ≤ 7) (ho : outS b.X t0 b.n = none) (w : World) (hb : BkOk w w.heap.size b) (hT : zai w) :
    Calls Tryd.prog 5 #[.agg b.val.toArray, .agg #[.int .i64 t0.1, .int .i64 t0.2.1, .int .i64 t0.2.2], .int .u8 cl] w fun e w' => e = .returned (.bool true) ∧ Below w.heap.size w w' := by
  obtain ⟨f1, f2, f3⟩ := more_cost ho h b.ex cl
  have hm := more_out ho h
  have HX := Lib.hid (fun j (hj : j < b.n) => node_small (hb.each j hj))
  have CB : Hid (∀ wx, zai wx → NodesAt wx wx.heap.size b.A b.n b.X → Calls Tryd.prog 8 #[.agg b.val.toArray, .agg #[.int .i64 t0.1, .int .i64 t0.2.1, .int .i64 t0.2.2], .int .i64 cl] wx fun e w' => e = .returned (.tuple #[.int .i64 (blkZ b.X t0 b.n b.ex cl), .int .i64 0]) ∧ Below wx.heap.size wx w') :=
    Lib.hid (fun wx hT hA => (cblock_to b t0 cl (by omega) wx hT HX.out hA).mono fun e w' h => by have := cst_view h; unfold cZ outZ at this; rw [ho] at this; exact this)
  have CP : Hid (∀ wx, zai wx → NodesAt wx wx.heap.size b.A b.n b.X → Calls Tryd.prog 8 #[.agg (bkP b).val.toArray, .agg #[.int .i64 t0.1, .int .i64 t0.2.1, .int .i64 t0.2.2], .int .i64 cl] wx fun e w' => e = .returned (.tuple #[.int .i64 (blkZ b.X t0 b.n false cl), .int .i64 0]) ∧ Below wx.heap.size wx w') :=
    Lib.hid (fun wx hT hA => (cblock_to (bkP b) t0 cl (show b.n ≤ 50 by omega) wx hT HX.out hA).mono fun e w' h => by have h := (cst_view h : e = .returned (.tuple #[.int .i64 (cZ b.X t0 b.n false cl), .int .i64 (outZ b.X t0 b.n)]) ∧ Below wx.heap.size wx w'); unfold cZ outZ at h; rw [ho] at h; exact h)
  have CM : Hid (∀ wx A c, zai wx → NodesAt wx wx.heap.size A (b.n + 1) (addF b.X b.n) → Calls Tryd.prog 8 #[.agg (bkM b A c).val.toArray, .agg #[.int .i64 t0.1, .int .i64 t0.2.1, .int .i64 t0.2.2], .int .i64 cl] wx fun e w' => e = .returned (.tuple #[.int .i64 (blkZ (addF b.X b.n) t0 (b.n + 1) false cl), .int .i64 0]) ∧ Below wx.heap.size wx w') :=
    Lib.hid (fun wx A c hT hA => (cblock_to (bkM b A c) t0 cl (show b.n + 1 ≤ 50 by omega) wx hT (addF_small HX.out) hA).mono fun e w' h => by have h := (cst_view h : e = .returned (.tuple #[.int .i64 (cZ (addF b.X b.n) t0 (b.n + 1) false cl), .int .i64 (outZ (addF b.X b.n) t0 (b.n + 1))]) ∧ Below wx.heap.size wx w'); unfold cZ outZ at h; rw [hm] at h; exact h)
  generalize blkZ b.X t0 b.n b.ex cl = cz at CB f1 f2
  generalize blkZ b.X t0 b.n false cl = dz at CP f2 f3
  generalize blkZ (addF b.X b.n) t0 (b.n + 1) false cl = gz at CM f3
  have HF := Lib.hid (And.intro f1 (And.intro f2 f3))
  have HN7 := Lib.hid h
  obtain ⟨i0, hi0, hi1, hi2, hi3⟩ := info_parts info_nd19
  clear hm ho f1 f2 f3 HX
  have hb1 := (Below.refl w.heap.size w).alloc (Nat.le_refl _) (.cells b.val.toArray 28)
  have HB0 : Hid (Below w.heap.size w ((w.alloc (.cells b.val.toArray 28)).alloc (.cells #[.int .i64 t0.1, .int .i64 t0.2.1, .int .i64 t0.2.2] 30))) := Lib.hid (hb1.alloc (by simp) _)
  have HL : Hid (BtAt w.heap.size b t0 ((w.alloc (.cells b.val.toArray 28)).alloc (.cells #[.int .i64 t0.1, .int .i64 t0.2.1, .int .i64 t0.2.2] 30))) := Lib.hid (BtAt.new b t0 28 30 w)
  have HSZ : Hid (w.heap.size + 2 ≤ ((w.alloc (.cells b.val.toArray 28)).alloc (.cells #[.int .i64 t0.1, .int .i64 t0.2.1, .int .i64 t0.2.2] 30)).heap.size) := Lib.hid (by simp)
  have HBK := Lib.hid hb
  have HT := Lib.hid hT
  clear hb hT hb1
  go_enter Tryd.func5, Tryd.ntmps5
  go_upto_region 1 with fail
  generalize (w.alloc (.cells b.val.toArray 28)).alloc (.cells #[.int .i64 t0.1, .int .i64 t0.2.1, .int .i64 t0.2.2] 30) = W0 at HB0 HL HSZ ⊢
  obtain ⟨⟨k0, k1, k2, k3, k4⟩, ⟨a0, a1, a2⟩⟩ := HL.out
  have g1 : ¬ (b.n : Int) > 7 := by omega
  have hwc : IntKind.i64.wrap cl = cl := IntWalk.i64_in _ (by omega)
  clear h hcl
  go_upto_region 8 with (first
    | (go_at_call 6
       refine (rfew31_to (uOne b W0.heap.size (W0.heap.size + 1)) _ (one_ok b W0 ((HBK.out.below HB0.out).more HB0.out.size) 28 39)).mono ?_
       rintro e w1 ⟨bf, rfl, -, hb⟩
       have hal : Below W0.heap.size W0 ((W0.alloc (.cells b.val.toArray 28)).alloc (.cells #[.slice (some ⟨W0.heap.size, 0, none⟩) 1 1] 39)) := ((Below.refl _ _).alloc (Nat.le_refl _) _).alloc (by simp) _
       have hh : Below W0.heap.size W0 w1 := hal.trans (hb.mono hal.size)
       have HB1 := Lib.hid (HB0.out.trans (hh.mono HB0.out.size))
       replace HL := Lib.hid (HL.out.below HSZ.out hh)
       have HSZ1 := Lib.hid (Nat.le_trans HSZ.out hh.size)
       clear hb hal hh k0 k1 k2 k3 k4 a0 a1 a2 HSZ
       obtain ⟨⟨k0, k1, k2, k3, k4⟩, ⟨a0, a1, a2⟩⟩ := HL.out
       rcases bf with _ | _)
    | (go_at_call 7
       refine (known31 _ (HT.out.grown HB1.out)).mono ?_
       rintro e w9 ⟨rfl, hb9⟩)
    | (go_at_call 8
       refine (CB.out _ (HT.out.grown HB1.out) ((HBK.out.nodes.below HB1.out).more HB1.out.size)).mono ?_
       rintro e w2 ⟨rfl, hb⟩
       replace HL := Lib.hid (HL.out.below HSZ1.out hb)
       have HB2 := Lib.hid (HB1.out.trans (hb.mono HB1.out.size))
       have HSZ2 := Lib.hid (Nat.le_trans HSZ1.out hb.size)
       clear hb k0 k1 k2 k3 k4 a0 a1 a2 HSZ1
       obtain ⟨⟨k0, k1, k2, k3, k4⟩, ⟨a0, a1, a2⟩⟩ := HL.out))
  · go_ret
    exact ⟨rfl, HB1.out.trans (hb9.mono HB1.out.size)⟩
  · skip
    have hal : Below w2.heap.size w2 (w2.alloc (.cells #[.slice b.A b.n b.c, .bool false, .slice b.hd.WA b.hd.nW b.hd.cW, .slice b.hd.BA b.hd.nB b.hd.cB, .int .i32 b.hd.D] 28)) := (Below.refl _ _).alloc (Nat.le_refl _) _
    have HL3 : Hid (BtAt w.heap.size b t0 (w2.alloc (.cells #[.slice b.A b.n b.c, .bool false, .slice b.hd.WA b.hd.nW b.hd.cW, .slice b.hd.BA b.hd.nB b.hd.cB, .int .i32 b.hd.D] 28))) := Lib.hid (HL.out.below HSZ2.out hal)
    have HB3 : Hid (Below w.heap.size w (w2.alloc (.cells #[.slice b.A b.n b.c, .bool false, .slice b.hd.WA b.hd.nW b.hd.cW, .slice b.hd.BA b.hd.nB b.hd.cB, .int .i32 b.hd.D] 28))) := Lib.hid (HB2.out.trans (hal.mono HB2.out.size))
    have HM3 : Hid (MBox w2.heap.size (bkP b) (w2.alloc (.cells #[.slice b.A b.n b.c, .bool false, .slice b.hd.WA b.hd.nW b.hd.cW, .slice b.hd.BA b.hd.nB b.hd.cB, .int .i32 b.hd.D] 28))) := Lib.hid (MBox.new (bkP b) 28 w2)
    have HS9 : Hid (w2.heap.size + 1 ≤ (w2.alloc (.cells #[.slice b.A b.n b.c, .bool false, .slice b.hd.WA b.hd.nW b.hd.cW, .slice b.hd.BA b.hd.nB b.hd.cB, .int .i32 b.hd.D] 28)).heap.size) := Lib.hid (by simp)
    have HRN : Hid (∀ wS, Below w2.heap.size (w2.alloc (.cells #[.slice b.A b.n b.c, .bool false, .slice b.hd.WA b.hd.nW b.hd.cW, .slice b.hd.BA b.hd.nB b.hd.cB, .int .i32 b.hd.D] 28)) wS → Kit.Rd wS w2.heap.size b.A (ndV b.X b.n)) := Lib.hid (fun wS h => row_nodes (((HBK.out.nodes.below HB2.out).more HB2.out.size).below (hal.trans h)))
    generalize w2.alloc (.cells #[.slice b.A b.n b.c, .bool false, .slice b.hd.WA b.hd.nW b.hd.cW, .slice b.hd.BA b.hd.nB b.hd.cB, .int .i32 b.hd.D] 28) = W3 at HL3 HB3 HM3 HS9 HRN ⊢
    clear hal HL HB0 HB1 CB k0 k1 k2 k3 k4 a0 a1 a2
    refine wp_region_held_drew (S := fun wx => Below w2.heap.size W3 wx) (by kernel_rfl) (Below.refl _ _).drew (fun hHeld => ?_)
    have HBc : Hid (Below (w2.heap.size + 1) W3 W3.drew) := Lib.hid (Below.refl _ _).drew
    generalize W3.drew = W4 at hHeld HBc ⊢
    refine Tk.x 1 rfl ?_
    try simp only [Tk.put]
    refine Tk.y 2 (v := .slice b.A b.n b.c) rfl ?_ ?_
    · intro wS hSw
      obtain ⟨q0, -, -, -, -⟩ := HL3.out.1.below (B' := w2.heap.size) (by have := HSZ2.out; omega) hSw
      first | (go_simp; done) | (go_simp; with_reducible rfl)
    try simp only [Tk.put]
    refine Tk.x 4 rfl ?_
    try simp only [Tk.put]
    refine Tk.y 5 (v := .slice b.A b.n b.c) rfl ?_ ?_
    · intro wS hSw
      obtain ⟨q0, -, -, -, -⟩ := HL3.out.1.below (B' := w2.heap.size) (by have := HSZ2.out; omega) hSw
      first | (go_simp; done) | (go_simp; with_reducible rfl)
    try simp only [Tk.put]
    refine Tk.y 6 (v := .int .i64 (b.n : Int)) rfl ?_ ?_
    · intro wS hSw
      first | (go_simp; done) | (go_simp; with_reducible rfl)
    try simp only [Tk.put]
    refine Tk.y 7 (v := .agg #[.int .i64 9, .int .i64 (b.n : Int), .int .i64 0, .int .i64 0, .int .i64 0, .int .i64 0, .int .i64 0, .int .i8 0, .int .i8 0, .slice none 0 0, .slice none 0 0, .int .i32 0, .int .i64 0, .int .i8 0, .int .i32 0, .int .i64 0, .int .i8 0, .int .i8 0, .int .i8 0]) rfl ?_ ?_
    · intro wS hSw
      first | (go_simp; done) | (go_simp; with_reducible rfl)
    try simp only [Tk.put]
    refine wpAnyH_ready (rs := [0, 8]) (by kernel_rfl) (by simp) ?_
    refine Tk.c rfl (fun Kq hK => ?_) (Tk.c rfl (fun Kq hK => ?_) AllReadyH.nil)
    · skip
      go_simp
      have HOe : Hid ((W4.alloc (.cells #[] 35)).ownsRow (w2.heap.size + 1) 35 19 (.slice (some ⟨W4.heap.size, 0, none⟩) 0 0) 0 []) := Lib.hid ⟨rfl, .inr ⟨W4.heap.size, 0, _, rfl, (Nat.le_trans HS9.out HBc.out.size), heap_alloc_new W4 _, Nat.le_refl _, by decide, rfl, rfl⟩⟩
      have hS2 := hHeld.alloc (Nat.le_trans (by have := HS9.out; omega) hHeld.size) (.cells #[] 35)
      replace HBc := Lib.hid (HBc.out.alloc (Nat.le_trans HS9.out HBc.out.size) (.cells #[] 35))
      have HG0 : Hid (W4.heap.size < (W4.alloc (.cells #[] 35)).heap.size) := Lib.hid (by simp)
      generalize W4.alloc (.cells #[] 35) = W5 at HOe hS2 HBc HG0 ⊢
      clear hHeld
      refine hK.out _ _ hS2 (fun hHeld => ?_)
      clear hK Kq hS2
      try simp only [Tk.put]
      refine wpAnyH_ready (rs := [3, 8]) (by kernel_rfl) (by simp) ?_
      refine Tk.c rfl (fun Kq hK => ?_) (Tk.c rfl (fun Kq hK => ?_) AllReadyH.nil)
      · skip
        refine Kit.zat _ rfl (.tmp 46) (.tmp 48) _ rfl (w2.heap.size + 1) 35 i0 (.agg nd0.val) 19 168 Tryd.underlying22 hi0 hi1 hi2 hi3 rfl (by decide) _ 0 [] rfl HOe.out _ _ b.n b.c (ndV b.X b.n) rfl (zbb _ _) (HRN.out _ hHeld) (ndV_ones _ _) (by have := HN7.out; unfold maxLen; omega) (by have := HN7.out; omega) (Nat.le_trans HS9.out HBc.out.size) ?_
        intro v5 W6a hown5 hg5 _
        have hb5 : Below (w2.heap.size + 1) W5 W6a := (Below.refl _ _).grown hg5 (Nat.le_trans HS9.out HBc.out.size) (Kit.zan HOe.out)
        have hS2 := hHeld.trans (hb5.mono (by omega))
        replace HBc := Lib.hid (HBc.out.trans hb5)
        rw [Nat.zero_add, List.nil_append] at hown5
        have HO3 := Lib.hid hown5
        clear hown5 hg5 hb5 hHeld HOe
        dsimp only
        refine hK.out _ _ hS2 (fun hHeld => ?_)
        clear hK Kq hS2
        try simp only [Tk.put]
        refine Tk.s 8 rfl (fun Kq hK => ?_)
        go_simp
        have HR8 : Hid (Kit.Rd (W6a.alloc (.cells #[.int .i64 9, .int .i64 (b.n : Int), .int .i64 0, .int .i64 0, .int .i64 0, .int .i64 0, .int .i64 0, .int .i8 0, .int .i8 0, .slice none 0 0, .slice none 0 0, .int .i32 0, .int .i64 0, .int .i8 0, .int .i32 0, .int .i64 0, .int .i8 0, .int .i8 0, .int .i8 0] 35)) (W6a.heap.size + 1) (some ⟨W6a.heap.size, 0, none⟩) (flatN b.n).val.toList) := Lib.hid (Kit.Rd.new W6a (flatN b.n).val.toList 35 (Nat.lt_succ_self _))
        have hS2 := hHeld.alloc (Nat.le_trans (by have := HS9.out; omega) hHeld.size) (.cells #[.int .i64 9, .int .i64 (b.n : Int), .int .i64 0, .int .i64 0, .int .i64 0, .int .i64 0, .int .i64 0, .int .i8 0, .int .i8 0, .slice none 0 0, .slice none 0 0, .int .i32 0, .int .i64 0, .int .i8 0, .int .i32 0, .int .i64 0, .int .i8 0, .int .i8 0, .int .i8 0] 35)
        replace HO3 := Lib.hid (HO3.out.alloc (.cells #[.int .i64 9, .int .i64 (b.n : Int), .int .i64 0, .int .i64 0, .int .i64 0, .int .i64 0, .int .i64 0, .int .i8 0, .int .i8 0, .slice none 0 0, .slice none 0 0, .int .i32 0, .int .i64 0, .int .i8 0, .int .i32 0, .int .i64 0, .int .i8 0, .int .i8 0, .int .i8 0] 35))
        replace HBc := Lib.hid (HBc.out.alloc (Nat.le_trans HS9.out HBc.out.size) (.cells #[.int .i64 9, .int .i64 (b.n : Int), .int .i64 0, .int .i64 0, .int .i64 0, .int .i64 0, .int .i64 0, .int .i8 0, .int .i8 0, .slice none 0 0, .slice none 0 0, .int .i32 0, .int .i64 0, .int .i8 0, .int .i32 0, .int .i64 0, .int .i8 0, .int .i8 0, .int .i8 0] 35))
        have HG8 : Hid (W6a.heap.size < (W6a.alloc (.cells #[.int .i64 9, .int .i64 (b.n : Int), .int .i64 0, .int .i64 0, .int .i64 0, .int .i64 0, .int .i64 0, .int .i8 0, .int .i8 0, .slice none 0 0, .slice none 0 0, .int .i32 0, .int .i64 0, .int .i8 0, .int .i32 0, .int .i64 0, .int .i8 0, .int .i8 0, .int .i8 0] 35)).heap.size) := Lib.hid (by simp)
        generalize W6a.alloc (.cells #[.int .i64 9, .int .i64 (b.n : Int), .int .i64 0, .int .i64 0, .int .i64 0, .int .i64 0, .int .i64 0, .int .i8 0, .int .i8 0, .slice none 0 0, .slice none 0 0, .int .i32 0, .int .i64 0, .int .i8 0, .int .i32 0, .int .i64 0, .int .i8 0, .int .i8 0, .int .i8 0] 35) = W7a at HR8 hS2 HBc HG8 HO3 ⊢
        clear hHeld
        refine hK.out _ _ hS2 (fun hHeld => ?_)
        clear hK Kq hS2
        try simp only [Tk.put]
        refine Tk.s 9 rfl (fun Kq hK => ?_)
        refine Kit.zat _ rfl (.tmp 49) (.tmp 54) _ rfl (w2.heap.size + 1) 35 i0 (.agg nd0.val) 19 168 Tryd.underlying22 hi0 hi1 hi2 hi3 rfl (by decide) _ b.n (ndV b.X b.n) rfl HO3.out _ _ 1 1 (flatN b.n).val.toList rfl rfl HR8.out (nd_ones _) (by have := HN7.out; unfold maxLen; omega) (by have := HN7.out; omega) (Nat.le_trans HS9.out HBc.out.size) ?_
        intro v6 W8a hown5 hg5 _
        have hb5 : Below (w2.heap.size + 1) W7a W8a := (Below.refl _ _).grown hg5 (Nat.le_trans HS9.out HBc.out.size) (Kit.zan HO3.out)
        have hS2 := hHeld.trans (hb5.mono (by omega))
        replace HBc := Lib.hid (HBc.out.trans hb5)
        have e5 : ndV b.X b.n ++ (flatN b.n).val.toList = ndV (addF b.X b.n) (b.n + 1) := by rw [ndV, addF_at, ndV_congr (X := addF b.X b.n) (Y := b.X) (fun j hj => addF_lt hj)]
        rw [e5] at hown5
        obtain ⟨A6, c6, rfl, -, -, -⟩ := Kit.own_rd hown5
        have HO6 := Lib.hid hown5
        clear hown5 hg5 hb5 hHeld e5 HO3 HR8
        dsimp only
        refine hK.out _ _ hS2 (fun hHeld => ?_)
        clear hK Kq hS2
        try simp only [Tk.put]
        have HMB := Lib.hid (HM3.out.below (Nat.lt_succ_self _) HBc.out)
        obtain ⟨⟨m0, m1, m2, m3, m4⟩, mf⟩ := HMB.out
        refine Tk.x 10 rfl ?_
        try simp only [Tk.put]
        refine Tk.s 11 rfl (fun Kq hK => ?_)
        go_simp
        have hb6 : Below w2.heap.size W8a (W8a.setCell ⟨w2.heap.size, 0, none⟩ (.slice A6 (b.n + 1) c6)) := (Below.refl _ _).setCell (p := ⟨w2.heap.size, 0, none⟩) (Nat.le_refl _) _
        have hS2 := hHeld.trans hb6
        have HMM := Lib.hid (HMB.out.set A6 c6)
        have hkept : (W8a.setCell ⟨w2.heap.size, 0, none⟩ (.slice A6 (b.n + 1) c6)).ownsRow (w2.heap.size + 1) 35 19 (.slice A6 (b.n + 1) c6) (b.n + 1) (ndV (addF b.X b.n) (b.n + 1)) := HO6.out.kept (grownBy_setCell' _ _ _) (.inr (fun e => by have := Kit.zan HO6.out w2.heap.size e; omega))
        obtain ⟨A7, c7, e7, -, -, hrd⟩ := Kit.own_rd hkept
        cases e7
        have HN9 := Lib.hid (nodes_row hrd)
        have HX9 : Hid (w2.heap.size < (W8a.setCell ⟨w2.heap.size, 0, none⟩ (.slice A6 (b.n + 1) c6)).heap.size) := Lib.hid (by have := HS9.out; have := HBc.out.size; rw [World.size_setCell]; omega)
        clear hHeld hb6 hkept hrd m0 m1 m2 m3 m4 mf HMB HO6 HBc
        generalize (W8a.setCell ⟨w2.heap.size, 0, none⟩ (.slice A6 (b.n + 1) c6)) = WX at hS2 HMM HN9 HX9 ⊢
        refine hK.out _ _ hS2 (fun hHeld => ?_)
        clear hK Kq hS2
        try simp only [Tk.put]
        refine wpAnyH_done (by kernel_rfl) ?_ _
        have HL5 := Lib.hid (HL3.out.below HSZ2.out hHeld)
        have HB5 := Lib.hid (HB3.out.trans (hHeld.mono HB2.out.size))
        have HS5 := Lib.hid (Nat.le_trans HSZ2.out (Nat.le_of_lt HX9.out))
        obtain ⟨⟨k0, k1, k2, k3, k4⟩, ⟨a0, a1, a2⟩⟩ := HL5.out
        go_upto_region 11 with fail
        have hal : Below WX.heap.size WX (WX.alloc (.cells #[.slice b.A b.n b.c, .bool false, .slice b.hd.WA b.hd.nW b.hd.cW, .slice b.hd.BA b.hd.nB b.hd.cB, .int .i32 b.hd.D] 28)) := (Below.refl _ _).alloc (Nat.le_refl _) _
        have HL6 : Hid (BtAt w.heap.size b t0 (WX.alloc (.cells #[.slice b.A b.n b.c, .bool false, .slice b.hd.WA b.hd.nW b.hd.cW, .slice b.hd.BA b.hd.nB b.hd.cB, .int .i32 b.hd.D] 28))) := Lib.hid (HL5.out.below HS5.out hal)
        have HM6 : Hid (BkAt w2.heap.size (bkM b A6 c6) (WX.alloc (.cells #[.slice b.A b.n b.c, .bool false, .slice b.hd.WA b.hd.nW b.hd.cW, .slice b.hd.BA b.hd.nB b.hd.cB, .int .i32 b.hd.D] 28))) := Lib.hid (HMM.out.below HX9.out hal)
        have HP6 : Hid (BkAt WX.heap.size (bkP b) (WX.alloc (.cells #[.slice b.A b.n b.c, .bool false, .slice b.hd.WA b.hd.nW b.hd.cW, .slice b.hd.BA b.hd.nB b.hd.cB, .int .i32 b.hd.D] 28))) := Lib.hid (BkAt.new (bkP b) 28 WX)
        have HA6 : Hid (NodesAt (WX.alloc (.cells #[.slice b.A b.n b.c, .bool false, .slice b.hd.WA b.hd.nW b.hd.cW, .slice b.hd.BA b.hd.nB b.hd.cB, .int .i32 b.hd.D] 28)) (WX.alloc (.cells #[.slice b.A b.n b.c, .bool false, .slice b.hd.WA b.hd.nW b.hd.cW, .slice b.hd.BA b.hd.nB b.hd.cB, .int .i32 b.hd.D] 28)).heap.size A6 (b.n + 1) (addF b.X b.n)) := Lib.hid ((HN9.out.below hal).more hal.size)
        have HB6 : Hid (Below w.heap.size w (WX.alloc (.cells #[.slice b.A b.n b.c, .bool false, .slice b.hd.WA b.hd.nW b.hd.cW, .slice b.hd.BA b.hd.nB b.hd.cB, .int .i32 b.hd.D] 28))) := Lib.hid (HB5.out.trans (hal.mono HB5.out.size))
        have HS6 : Hid (w.heap.size + 2 ≤ (WX.alloc (.cells #[.slice b.A b.n b.c, .bool false, .slice b.hd.WA b.hd.nW b.hd.cW, .slice b.hd.BA b.hd.nB b.hd.cB, .int .i32 b.hd.D] 28)).heap.size ∧ w2.heap.size < (WX.alloc (.cells #[.slice b.A b.n b.c, .bool false, .slice b.hd.WA b.hd.nW b.hd.cW, .slice b.hd.BA b.hd.nB b.hd.cB, .int .i32 b.hd.D] 28)).heap.size ∧ WX.heap.size < (WX.alloc (.cells #[.slice b.A b.n b.c, .bool false, .slice b.hd.WA b.hd.nW b.hd.cW, .slice b.hd.BA b.hd.nB b.hd.cB, .int .i32 b.hd.D] 28)).heap.size) := Lib.hid (by have := HS5.out; have := HX9.out; simp; omega)
        generalize WX.alloc (.cells #[.slice b.A b.n b.c, .bool false, .slice b.hd.WA b.hd.nW b.hd.cW, .slice b.hd.BA b.hd.nB b.hd.cB, .int .i32 b.hd.D] 28) = W6 at HL6 HM6 HP6 HA6 HB6 HS6 ⊢
        clear hal HL5 HMM HN9 HB5 HS5 hHeld k0 k1 k2 k3 k4 a0 a1 a2
        obtain ⟨k0, k1, k2, k3, k4⟩ := HP6.out
        obtain ⟨a0, a1, a2⟩ := HL6.out.2
        go_upto_region 12 with (go_at_call 8; (refine (CP.out _ (HT.out.grown HB6.out) ((HBK.out.nodes.below HB6.out).more HB6.out.size)).mono ?_); rintro e w7 ⟨rfl, hb⟩)
        have HB7 := Lib.hid (HB6.out.trans (hb.mono HB6.out.size))
        have HM7 := Lib.hid (HM6.out.below HS6.out.2.1 hb)
        have HL7 := Lib.hid (HL6.out.below HS6.out.1 hb)
        have HA7 := Lib.hid ((HA6.out.below hb).more hb.size)
        clear hb HP6 HM6 HL6 HA6 k0 k1 k2 k3 k4 a0 a1 a2
        obtain ⟨k0, k1, k2, k3, k4⟩ := HM7.out
        obtain ⟨a0, a1, a2⟩ := HL7.out.2
        obtain ⟨f1, f2, f3⟩ := HF.out
        go_wp2_with (first
          | (go_at_call 8
             refine (CM.out _ A6 c6 (HT.out.grown HB7.out) HA7.out).mono ?_
             rintro e w8 ⟨rfl, hb⟩
             have HB8 := Lib.hid (HB7.out.trans (hb.mono HB7.out.size))
             clear hb k0 k1 k2 k3 k4 a0 a1 a2)
          | (go_at_call 7
             refine (known31 _ (HT.out.grown HB8.out)).mono ?_
             rintro e w9 ⟨rfl, hb9⟩))
        go_ret
        exact ⟨rfl, HB8.out.trans (hb9.mono HB8.out.size)⟩
      · skip
        go_simp
        have HR8 : Hid (Kit.Rd (W5.alloc (.cells #[.int .i64 9, .int .i64 (b.n : Int), .int .i64 0, .int .i64 0, .int .i64 0, .int .i64 0, .int .i64 0, .int .i8 0, .int .i8 0, .slice none 0 0, .slice none 0 0, .int .i32 0, .int .i64 0, .int .i8 0, .int .i32 0, .int .i64 0, .int .i8 0, .int .i8 0, .int .i8 0] 35)) (W5.heap.size + 1) (some ⟨W5.heap.size, 0, none⟩) (flatN b.n).val.toList) := Lib.hid (Kit.Rd.new W5 (flatN b.n).val.toList 35 (Nat.lt_succ_self _))
        have hS2 := hHeld.alloc (Nat.le_trans (by have := HS9.out; omega) hHeld.size) (.cells #[.int .i64 9, .int .i64 (b.n : Int), .int .i64 0, .int .i64 0, .int .i64 0, .int .i64 0, .int .i64 0, .int .i8 0, .int .i8 0, .slice none 0 0, .slice none 0 0, .int .i32 0, .int .i64 0, .int .i8 0, .int .i32 0, .int .i64 0, .int .i8 0, .int .i8 0, .int .i8 0] 35)
        replace HOe := Lib.hid (HOe.out.alloc (.cells #[.int .i64 9, .int .i64 (b.n : Int), .int .i64 0, .int .i64 0, .int .i64 0, .int .i64 0, .int .i64 0, .int .i8 0, .int .i8 0, .slice none 0 0, .slice none 0 0, .int .i32 0, .int .i64 0, .int .i8 0, .int .i32 0, .int .i64 0, .int .i8 0, .int .i8 0, .int .i8 0] 35))
        have HNE : Hid (¬ W5.heap.size = W4.heap.size) := Lib.hid (by have := HG0.out; omega)
        replace HBc := Lib.hid (HBc.out.alloc (Nat.le_trans HS9.out HBc.out.size) (.cells #[.int .i64 9, .int .i64 (b.n : Int), .int .i64 0, .int .i64 0, .int .i64 0, .int .i64 0, .int .i64 0, .int .i8 0, .int .i8 0, .slice none 0 0, .slice none 0 0, .int .i32 0, .int .i64 0, .int .i8 0, .int .i32 0, .int .i64 0, .int .i8 0, .int .i8 0, .int .i8 0] 35))
        have HG8 : Hid (W5.heap.size < (W5.alloc (.cells #[.int .i64 9, .int .i64 (b.n : Int), .int .i64 0, .int .i64 0, .int .i64 0, .int .i64 0, .int .i64 0, .int .i8 0, .int .i8 0, .slice none 0 0, .slice none 0 0, .int .i32 0, .int .i64 0, .int .i8 0, .int .i32 0, .int .i64 0, .int .i8 0, .int .i8 0, .int .i8 0] 35)).heap.size) := Lib.hid (by simp)
        generalize W5.alloc (.cells #[.int .i64 9, .int .i64 (b.n : Int), .int .i64 0, .int .i64 0, .int .i64 0, .int .i64 0, .int .i64 0, .int .i8 0, .int .i8 0, .slice none 0 0, .slice none 0 0, .int .i32 0, .int .i64 0, .int .i8 0, .int .i32 0, .int .i64 0, .int .i8 0, .int .i8 0, .int .i8 0] 35) = W6a at HR8 hS2 HBc HG8 HOe ⊢
        clear hHeld
        refine hK.out _ _ hS2 (fun hHeld => ?_)
        clear hK Kq hS2
        try simp only [Tk.put]
        refine Tk.s 3 rfl (fun Kq hK => ?_)
        refine Kit.zat _ rfl (.tmp 46) (.tmp 48) _ rfl (w2.heap.size + 1) 35 i0 (.agg nd0.val) 19 168 Tryd.underlying22 hi0 hi1 hi2 hi3 rfl (by decide) _ 0 [] rfl HOe.out _ _ b.n b.c (ndV b.X b.n) rfl (zbb _ _) (HRN.out _ hHeld) (ndV_ones _ _) (by have := HN7.out; unfold maxLen; omega) (by have := HN7.out; omega) (Nat.le_trans HS9.out HBc.out.size) ?_
        intro v5 W7a hown5 hg5 _
        have hb5 : Below (w2.heap.size + 1) W6a W7a := (Below.refl _ _).grown hg5 (Nat.le_trans HS9.out HBc.out.size) (Kit.zan HOe.out)
        have hS2 := hHeld.trans (hb5.mono (by omega))
        replace HBc := Lib.hid (HBc.out.trans hb5)
        rw [Nat.zero_add, List.nil_append] at hown5
        have HO3 := Lib.hid hown5
        replace HR8 := Lib.hid (rd_kept HR8.out hg5 (fun h => HNE.out (Option.some.inj h)))
        clear hown5 hg5 hb5 hHeld HOe
        dsimp only
        refine hK.out _ _ hS2 (fun hHeld => ?_)
        clear hK Kq hS2
        try simp only [Tk.put]
        refine Tk.s 9 rfl (fun Kq hK => ?_)
        refine Kit.zat _ rfl (.tmp 49) (.tmp 54) _ rfl (w2.heap.size + 1) 35 i0 (.agg nd0.val) 19 168 Tryd.underlying22 hi0 hi1 hi2 hi3 rfl (by decide) _ b.n (ndV b.X b.n) rfl HO3.out _ _ 1 1 (flatN b.n).val.toList rfl rfl HR8.out (nd_ones _) (by have := HN7.out; unfold maxLen; omega) (by have := HN7.out; omega) (Nat.le_trans HS9.out HBc.out.size) ?_
        intro v6 W8a hown5 hg5 _
        have hb5 : Below (w2.heap.size + 1) W7a W8a := (Below.refl _ _).grown hg5 (Nat.le_trans HS9.out HBc.out.size) (Kit.zan HO3.out)
        have hS2 := hHeld.trans (hb5.mono (by omega))
        replace HBc := Lib.hid (HBc.out.trans hb5)
        have e5 : ndV b.X b.n ++ (flatN b.n).val.toList = ndV (addF b.X b.n) (b.n + 1) := by rw [ndV, addF_at, ndV_congr (X := addF b.X b.n) (Y := b.X) (fun j hj => addF_lt hj)]
        rw [e5] at hown5
        obtain ⟨A6, c6, rfl, -, -, -⟩ := Kit.own_rd hown5
        have HO6 := Lib.hid hown5
        clear hown5 hg5 hb5 hHeld e5 HO3 HR8
        dsimp only
        refine hK.out _ _ hS2 (fun hHeld => ?_)
        clear hK Kq hS2
        try simp only [Tk.put]
        have HMB := Lib.hid (HM3.out.below (Nat.lt_succ_self _) HBc.out)
        obtain ⟨⟨m0, m1, m2, m3, m4⟩, mf⟩ := HMB.out
        refine Tk.x 10 rfl ?_
        try simp only [Tk.put]
        refine Tk.s 11 rfl (fun Kq hK => ?_)
        go_simp
        have hb6 : Below w2.heap.size W8a (W8a.setCell ⟨w2.heap.size, 0, none⟩ (.slice A6 (b.n + 1) c6)) := (Below.refl _ _).setCell (p := ⟨w2.heap.size, 0, none⟩) (Nat.le_refl _) _
        have hS2 := hHeld.trans hb6
        have HMM := Lib.hid (HMB.out.set A6 c6)
        have hkept : (W8a.setCell ⟨w2.heap.size, 0, none⟩ (.slice A6 (b.n + 1) c6)).ownsRow (w2.heap.size + 1) 35 19 (.slice A6 (b.n + 1) c6) (b.n + 1) (ndV (addF b.X b.n) (b.n + 1)) := HO6.out.kept (grownBy_setCell' _ _ _) (.inr (fun e => by have := Kit.zan HO6.out w2.heap.size e; omega))
        obtain ⟨A7, c7, e7, -, -, hrd⟩ := Kit.own_rd hkept
        cases e7
        have HN9 := Lib.hid (nodes_row hrd)
        have HX9 : Hid (w2.heap.size < (W8a.setCell ⟨w2.heap.size, 0, none⟩ (.slice A6 (b.n + 1) c6)).heap.size) := Lib.hid (by have := HS9.out; have := HBc.out.size; rw [World.size_setCell]; omega)
        clear hHeld hb6 hkept hrd m0 m1 m2 m3 m4 mf HMB HO6 HBc
        generalize (W8a.setCell ⟨w2.heap.size, 0, none⟩ (.slice A6 (b.n + 1) c6)) = WX at hS2 HMM HN9 HX9 ⊢
        refine hK.out _ _ hS2 (fun hHeld => ?_)
        clear hK Kq hS2
        try simp only [Tk.put]
        refine wpAnyH_done (by kernel_rfl) ?_ _
        have HL5 := Lib.hid (HL3.out.below HSZ2.out hHeld)
        have HB5 := Lib.hid (HB3.out.trans (hHeld.mono HB2.out.size))
        have HS5 := Lib.hid (Nat.le_trans HSZ2.out (Nat.le_of_lt HX9.out))
        obtain ⟨⟨k0, k1, k2, k3, k4⟩, ⟨a0, a1, a2⟩⟩ := HL5.out
        go_upto_region 11 with fail
        have hal : Below WX.heap.size WX (WX.alloc (.cells #[.slice b.A b.n b.c, .bool false, .slice b.hd.WA b.hd.nW b.hd.cW, .slice b.hd.BA b.hd.nB b.hd.cB, .int .i32 b.hd.D] 28)) := (Below.refl _ _).alloc (Nat.le_refl _) _
        have HL6 : Hid (BtAt w.heap.size b t0 (WX.alloc (.cells #[.slice b.A b.n b.c, .bool false, .slice b.hd.WA b.hd.nW b.hd.cW, .slice b.hd.BA b.hd.nB b.hd.cB, .int .i32 b.hd.D] 28))) := Lib.hid (HL5.out.below HS5.out hal)
        have HM6 : Hid (BkAt w2.heap.size (bkM b A6 c6) (WX.alloc (.cells #[.slice b.A b.n b.c, .bool false, .slice b.hd.WA b.hd.nW b.hd.cW, .slice b.hd.BA b.hd.nB b.hd.cB, .int .i32 b.hd.D] 28))) := Lib.hid (HMM.out.below HX9.out hal)
        have HP6 : Hid (BkAt WX.heap.size (bkP b) (WX.alloc (.cells #[.slice b.A b.n b.c, .bool false, .slice b.hd.WA b.hd.nW b.hd.cW, .slice b.hd.BA b.hd.nB b.hd.cB, .int .i32 b.hd.D] 28))) := Lib.hid (BkAt.new (bkP b) 28 WX)
        have HA6 : Hid (NodesAt (WX.alloc (.cells #[.slice b.A b.n b.c, .bool false, .slice b.hd.WA b.hd.nW b.hd.cW, .slice b.hd.BA b.hd.nB b.hd.cB, .int .i32 b.hd.D] 28)) (WX.alloc (.cells #[.slice b.A b.n b.c, .bool false, .slice b.hd.WA b.hd.nW b.hd.cW, .slice b.hd.BA b.hd.nB b.hd.cB, .int .i32 b.hd.D] 28)).heap.size A6 (b.n + 1) (addF b.X b.n)) := Lib.hid ((HN9.out.below hal).more hal.size)
        have HB6 : Hid (Below w.heap.size w (WX.alloc (.cells #[.slice b.A b.n b.c, .bool false, .slice b.hd.WA b.hd.nW b.hd.cW, .slice b.hd.BA b.hd.nB b.hd.cB, .int .i32 b.hd.D] 28))) := Lib.hid (HB5.out.trans (hal.mono HB5.out.size))
        have HS6 : Hid (w.heap.size + 2 ≤ (WX.alloc (.cells #[.slice b.A b.n b.c, .bool false, .slice b.hd.WA b.hd.nW b.hd.cW, .slice b.hd.BA b.hd.nB b.hd.cB, .int .i32 b.hd.D] 28)).heap.size ∧ w2.heap.size < (WX.alloc (.cells #[.slice b.A b.n b.c, .bool false, .slice b.hd.WA b.hd.nW b.hd.cW, .slice b.hd.BA b.hd.nB b.hd.cB, .int .i32 b.hd.D] 28)).heap.size ∧ WX.heap.size < (WX.alloc (.cells #[.slice b.A b.n b.c, .bool false, .slice b.hd.WA b.hd.nW b.hd.cW, .slice b.hd.BA b.hd.nB b.hd.cB, .int .i32 b.hd.D] 28)).heap.size) := Lib.hid (by have := HS5.out; have := HX9.out; simp; omega)
        generalize WX.alloc (.cells #[.slice b.A b.n b.c, .bool false, .slice b.hd.WA b.hd.nW b.hd.cW, .slice b.hd.BA b.hd.nB b.hd.cB, .int .i32 b.hd.D] 28) = W6 at HL6 HM6 HP6 HA6 HB6 HS6 ⊢
        clear hal HL5 HMM HN9 HB5 HS5 hHeld k0 k1 k2 k3 k4 a0 a1 a2
        obtain ⟨k0, k1, k2, k3, k4⟩ := HP6.out
        obtain ⟨a0, a1, a2⟩ := HL6.out.2
        go_upto_region 12 with (go_at_call 8; (refine (CP.out _ (HT.out.grown HB6.out) ((HBK.out.nodes.below HB6.out).more HB6.out.size)).mono ?_); rintro e w7 ⟨rfl, hb⟩)
        have HB7 := Lib.hid (HB6.out.trans (hb.mono HB6.out.size))
        have HM7 := Lib.hid (HM6.out.below HS6.out.2.1 hb)
        have HL7 := Lib.hid (HL6.out.below HS6.out.1 hb)
        have HA7 := Lib.hid ((HA6.out.below hb).more hb.size)
        clear hb HP6 HM6 HL6 HA6 k0 k1 k2 k3 k4 a0 a1 a2
        obtain ⟨k0, k1, k2, k3, k4⟩ := HM7.out
        obtain ⟨a0, a1, a2⟩ := HL7.out.2
        obtain ⟨f1, f2, f3⟩ := HF.out
        go_wp2_with (first
          | (go_at_call 8
             refine (CM.out _ A6 c6 (HT.out.grown HB7.out) HA7.out).mono ?_
             rintro e w8 ⟨rfl, hb⟩
             have HB8 := Lib.hid (HB7.out.trans (hb.mono HB7.out.size))
             clear hb k0 k1 k2 k3 k4 a0 a1 a2)
          | (go_at_call 7
             refine (known31 _ (HT.out.grown HB8.out)).mono ?_
             rintro e w9 ⟨rfl, hb9⟩))
        go_ret
        exact ⟨rfl, HB8.out.trans (hb9.mono HB8.out.size)⟩
    · skip
      go_simp
      have HR8 : Hid (Kit.Rd (W4.alloc (.cells #[.int .i64 9, .int .i64 (b.n : Int), .int .i64 0, .int .i64 0, .int .i64 0, .int .i64 0, .int .i64 0, .int .i8 0, .int .i8 0, .slice none 0 0, .slice none 0 0, .int .i32 0, .int .i64 0, .int .i8 0, .int .i32 0, .int .i64 0, .int .i8 0, .int .i8 0, .int .i8 0] 35)) (W4.heap.size + 1) (some ⟨W4.heap.size, 0, none⟩) (flatN b.n).val.toList) := Lib.hid (Kit.Rd.new W4 (flatN b.n).val.toList 35 (Nat.lt_succ_self _))
      have hS2 := hHeld.alloc (Nat.le_trans (by have := HS9.out; omega) hHeld.size) (.cells #[.int .i64 9, .int .i64 (b.n : Int), .int .i64 0, .int .i64 0, .int .i64 0, .int .i64 0, .int .i64 0, .int .i8 0, .int .i8 0, .slice none 0 0, .slice none 0 0, .int .i32 0, .int .i64 0, .int .i8 0, .int .i32 0, .int .i64 0, .int .i8 0, .int .i8 0, .int .i8 0] 35)
      replace HBc := Lib.hid (HBc.out.alloc (Nat.le_trans HS9.out HBc.out.size) (.cells #[.int .i64 9, .int .i64 (b.n : Int), .int .i64 0, .int .i64 0, .int .i64 0, .int .i64 0, .int .i64 0, .int .i8 0, .int .i8 0, .slice none 0 0, .slice none 0 0, .int .i32 0, .int .i64 0, .int .i8 0, .int .i32 0, .int .i64 0, .int .i8 0, .int .i8 0, .int .i8 0] 35))
      have HG8 : Hid (W4.heap.size < (W4.alloc (.cells #[.int .i64 9, .int .i64 (b.n : Int), .int .i64 0, .int .i64 0, .int .i64 0, .int .i64 0, .int .i64 0, .int .i8 0, .int .i8 0, .slice none 0 0, .slice none 0 0, .int .i32 0, .int .i64 0, .int .i8 0, .int .i32 0, .int .i64 0, .int .i8 0, .int .i8 0, .int .i8 0] 35)).heap.size) := Lib.hid (by simp)
      generalize W4.alloc (.cells #[.int .i64 9, .int .i64 (b.n : Int), .int .i64 0, .int .i64 0, .int .i64 0, .int .i64 0, .int .i64 0, .int .i8 0, .int .i8 0, .slice none 0 0, .slice none 0 0, .int .i32 0, .int .i64 0, .int .i8 0, .int .i32 0, .int .i64 0, .int .i8 0, .int .i8 0, .int .i8 0] 35) = W5 at HR8 hS2 HBc HG8 ⊢
      clear hHeld
      refine hK.out _ _ hS2 (fun hHeld => ?_)
      clear hK Kq hS2
      try simp only [Tk.put]
      refine Tk.s 0 rfl (fun Kq hK => ?_)
      go_simp
      have HOe : Hid ((W5.alloc (.cells #[] 35)).ownsRow (w2.heap.size + 1) 35 19 (.slice (some ⟨W5.heap.size, 0, none⟩) 0 0) 0 []) := Lib.hid ⟨rfl, .inr ⟨W5.heap.size, 0, _, rfl, (Nat.le_trans HS9.out HBc.out.size), heap_alloc_new W5 _, Nat.le_refl _, by decide, rfl, rfl⟩⟩
      have hS2 := hHeld.alloc (Nat.le_trans (by have := HS9.out; omega) hHeld.size) (.cells #[] 35)
      replace HBc := Lib.hid (HBc.out.alloc (Nat.le_trans HS9.out HBc.out.size) (.cells #[] 35))
      have HNE : Hid (¬ W4.heap.size = W5.heap.size) := Lib.hid (by have := HG8.out; omega)
      replace HR8 := Lib.hid (HR8.out.below ((Below.refl (W4.heap.size + 1) W5).alloc (by have := HG8.out; omega) (.cells #[] 35)))
      replace HG8 : Hid (W4.heap.size < (W5.alloc (.cells #[] 35)).heap.size) := Lib.hid (by have := HG8.out; simp; omega)
      generalize W5.alloc (.cells #[] 35) = W6a at HOe hS2 HBc HR8 HG8 ⊢
      clear hHeld
      refine hK.out _ _ hS2 (fun hHeld => ?_)
      clear hK Kq hS2
      try simp only [Tk.put]
      refine Tk.s 3 rfl (fun Kq hK => ?_)
      refine Kit.zat _ rfl (.tmp 46) (.tmp 48) _ rfl (w2.heap.size + 1) 35 i0 (.agg nd0.val) 19 168 Tryd.underlying22 hi0 hi1 hi2 hi3 rfl (by decide) _ 0 [] rfl HOe.out _ _ b.n b.c (ndV b.X b.n) rfl (zbb _ _) (HRN.out _ hHeld) (ndV_ones _ _) (by have := HN7.out; unfold maxLen; omega) (by have := HN7.out; omega) (Nat.le_trans HS9.out HBc.out.size) ?_
      intro v5 W7a hown5 hg5 _
      have hb5 : Below (w2.heap.size + 1) W6a W7a := (Below.refl _ _).grown hg5 (Nat.le_trans HS9.out HBc.out.size) (Kit.zan HOe.out)
      have hS2 := hHeld.trans (hb5.mono (by omega))
      replace HBc := Lib.hid (HBc.out.trans hb5)
      rw [Nat.zero_add, List.nil_append] at hown5
      have HO3 := Lib.hid hown5
      replace HR8 := Lib.hid (rd_kept HR8.out hg5 (fun h => HNE.out (Option.some.inj h)))
      clear hown5 hg5 hb5 hHeld HOe
      dsimp only
      refine hK.out _ _ hS2 (fun hHeld => ?_)
      clear hK Kq hS2
      try simp only [Tk.put]
      refine Tk.s 9 rfl (fun Kq hK => ?_)
      refine Kit.zat _ rfl (.tmp 49) (.tmp 54) _ rfl (w2.heap.size + 1) 35 i0 (.agg nd0.val) 19 168 Tryd.underlying22 hi0 hi1 hi2 hi3 rfl (by decide) _ b.n (ndV b.X b.n) rfl HO3.out _ _ 1 1 (flatN b.n).val.toList rfl rfl HR8.out (nd_ones _) (by have := HN7.out; unfold maxLen; omega) (by have := HN7.out; omega) (Nat.le_trans HS9.out HBc.out.size) ?_
      intro v6 W8a hown5 hg5 _
      have hb5 : Below (w2.heap.size + 1) W7a W8a := (Below.refl _ _).grown hg5 (Nat.le_trans HS9.out HBc.out.size) (Kit.zan HO3.out)
      have hS2 := hHeld.trans (hb5.mono (by omega))
      replace HBc := Lib.hid (HBc.out.trans hb5)
      have e5 : ndV b.X b.n ++ (flatN b.n).val.toList = ndV (addF b.X b.n) (b.n + 1) := by rw [ndV, addF_at, ndV_congr (X := addF b.X b.n) (Y := b.X) (fun j hj => addF_lt hj)]
      rw [e5] at hown5
      obtain ⟨A6, c6, rfl, -, -, -⟩ := Kit.own_rd hown5
      have HO6 := Lib.hid hown5
      clear hown5 hg5 hb5 hHeld e5 HO3 HR8
      dsimp only
      refine hK.out _ _ hS2 (fun hHeld => ?_)
      clear hK Kq hS2
      try simp only [Tk.put]
      have HMB := Lib.hid (HM3.out.below (Nat.lt_succ_self _) HBc.out)
      obtain ⟨⟨m0, m1, m2, m3, m4⟩, mf⟩ := HMB.out
      refine Tk.x 10 rfl ?_
      try simp only [Tk.put]
      refine Tk.s 11 rfl (fun Kq hK => ?_)
      go_simp
      have hb6 : Below w2.heap.size W8a (W8a.setCell ⟨w2.heap.size, 0, none⟩ (.slice A6 (b.n + 1) c6)) := (Below.refl _ _).setCell (p := ⟨w2.heap.size, 0, none⟩) (Nat.le_refl _) _
      have hS2 := hHeld.trans hb6
      have HMM := Lib.hid (HMB.out.set A6 c6)
      have hkept : (W8a.setCell ⟨w2.heap.size, 0, none⟩ (.slice A6 (b.n + 1) c6)).ownsRow (w2.heap.size + 1) 35 19 (.slice A6 (b.n + 1) c6) (b.n + 1) (ndV (addF b.X b.n) (b.n + 1)) := HO6.out.kept (grownBy_setCell' _ _ _) (.inr (fun e => by have := Kit.zan HO6.out w2.heap.size e; omega))
      obtain ⟨A7, c7, e7, -, -, hrd⟩ := Kit.own_rd hkept
      cases e7
      have HN9 := Lib.hid (nodes_row hrd)
      have HX9 : Hid (w2.heap.size < (W8a.setCell ⟨w2.heap.size, 0, none⟩ (.slice A6 (b.n + 1) c6)).heap.size) := Lib.hid (by have := HS9.out; have := HBc.out.size; rw [World.size_setCell]; omega)
      clear hHeld hb6 hkept hrd m0 m1 m2 m3 m4 mf HMB HO6 HBc
      generalize (W8a.setCell ⟨w2.heap.size, 0, none⟩ (.slice A6 (b.n + 1) c6)) = WX at hS2 HMM HN9 HX9 ⊢
      refine hK.out _ _ hS2 (fun hHeld => ?_)
      clear hK Kq hS2
      try simp only [Tk.put]
      refine wpAnyH_done (by kernel_rfl) ?_ _
      have HL5 := Lib.hid (HL3.out.below HSZ2.out hHeld)
      have HB5 := Lib.hid (HB3.out.trans (hHeld.mono HB2.out.size))
      have HS5 := Lib.hid (Nat.le_trans HSZ2.out (Nat.le_of_lt HX9.out))
      obtain ⟨⟨k0, k1, k2, k3, k4⟩, ⟨a0, a1, a2⟩⟩ := HL5.out
      go_upto_region 11 with fail
      have hal : Below WX.heap.size WX (WX.alloc (.cells #[.slice b.A b.n b.c, .bool false, .slice b.hd.WA b.hd.nW b.hd.cW, .slice b.hd.BA b.hd.nB b.hd.cB, .int .i32 b.hd.D] 28)) := (Below.refl _ _).alloc (Nat.le_refl _) _
      have HL6 : Hid (BtAt w.heap.size b t0 (WX.alloc (.cells #[.slice b.A b.n b.c, .bool false, .slice b.hd.WA b.hd.nW b.hd.cW, .slice b.hd.BA b.hd.nB b.hd.cB, .int .i32 b.hd.D] 28))) := Lib.hid (HL5.out.below HS5.out hal)
      have HM6 : Hid (BkAt w2.heap.size (bkM b A6 c6) (WX.alloc (.cells #[.slice b.A b.n b.c, .bool false, .slice b.hd.WA b.hd.nW b.hd.cW, .slice b.hd.BA b.hd.nB b.hd.cB, .int .i32 b.hd.D] 28))) := Lib.hid (HMM.out.below HX9.out hal)
      have HP6 : Hid (BkAt WX.heap.size (bkP b) (WX.alloc (.cells #[.slice b.A b.n b.c, .bool false, .slice b.hd.WA b.hd.nW b.hd.cW, .slice b.hd.BA b.hd.nB b.hd.cB, .int .i32 b.hd.D] 28))) := Lib.hid (BkAt.new (bkP b) 28 WX)
      have HA6 : Hid (NodesAt (WX.alloc (.cells #[.slice b.A b.n b.c, .bool false, .slice b.hd.WA b.hd.nW b.hd.cW, .slice b.hd.BA b.hd.nB b.hd.cB, .int .i32 b.hd.D] 28)) (WX.alloc (.cells #[.slice b.A b.n b.c, .bool false, .slice b.hd.WA b.hd.nW b.hd.cW, .slice b.hd.BA b.hd.nB b.hd.cB, .int .i32 b.hd.D] 28)).heap.size A6 (b.n + 1) (addF b.X b.n)) := Lib.hid ((HN9.out.below hal).more hal.size)
      have HB6 : Hid (Below w.heap.size w (WX.alloc (.cells #[.slice b.A b.n b.c, .bool false, .slice b.hd.WA b.hd.nW b.hd.cW, .slice b.hd.BA b.hd.nB b.hd.cB, .int .i32 b.hd.D] 28))) := Lib.hid (HB5.out.trans (hal.mono HB5.out.size))
      have HS6 : Hid (w.heap.size + 2 ≤ (WX.alloc (.cells #[.slice b.A b.n b.c, .bool false, .slice b.hd.WA b.hd.nW b.hd.cW, .slice b.hd.BA b.hd.nB b.hd.cB, .int .i32 b.hd.D] 28)).heap.size ∧ w2.heap.size < (WX.alloc (.cells #[.slice b.A b.n b.c, .bool false, .slice b.hd.WA b.hd.nW b.hd.cW, .slice b.hd.BA b.hd.nB b.hd.cB, .int .i32 b.hd.D] 28)).heap.size ∧ WX.heap.size < (WX.alloc (.cells #[.slice b.A b.n b.c, .bool false, .slice b.hd.WA b.hd.nW b.hd.cW, .slice b.hd.BA b.hd.nB b.hd.cB, .int .i32 b.hd.D] 28)).heap.size) := Lib.hid (by have := HS5.out; have := HX9.out; simp; omega)
      generalize WX.alloc (.cells #[.slice b.A b.n b.c, .bool false, .slice b.hd.WA b.hd.nW b.hd.cW, .slice b.hd.BA b.hd.nB b.hd.cB, .int .i32 b.hd.D] 28) = W6 at HL6 HM6 HP6 HA6 HB6 HS6 ⊢
      clear hal HL5 HMM HN9 HB5 HS5 hHeld k0 k1 k2 k3 k4 a0 a1 a2
      obtain ⟨k0, k1, k2, k3, k4⟩ := HP6.out
      obtain ⟨a0, a1, a2⟩ := HL6.out.2
      go_upto_region 12 with (go_at_call 8; (refine (CP.out _ (HT.out.grown HB6.out) ((HBK.out.nodes.below HB6.out).more HB6.out.size)).mono ?_); rintro e w7 ⟨rfl, hb⟩)
      have HB7 := Lib.hid (HB6.out.trans (hb.mono HB6.out.size))
      have HM7 := Lib.hid (HM6.out.below HS6.out.2.1 hb)
      have HL7 := Lib.hid (HL6.out.below HS6.out.1 hb)
      have HA7 := Lib.hid ((HA6.out.below hb).more hb.size)
      clear hb HP6 HM6 HL6 HA6 k0 k1 k2 k3 k4 a0 a1 a2
      obtain ⟨k0, k1, k2, k3, k4⟩ := HM7.out
      obtain ⟨a0, a1, a2⟩ := HL7.out.2
      obtain ⟨f1, f2, f3⟩ := HF.out
      go_wp2_with (first
        | (go_at_call 8
           refine (CM.out _ A6 c6 (HT.out.grown HB7.out) HA7.out).mono ?_
           rintro e w8 ⟨rfl, hb⟩
           have HB8 := Lib.hid (HB7.out.trans (hb.mono HB7.out.size))
           clear hb k0 k1 k2 k3 k4 a0 a1 a2)
        | (go_at_call 7
           refine (known31 _ (HT.out.grown HB8.out)).mono ?_
           rintro e w9 ⟨rfl, hb9⟩))
      go_ret
      exact ⟨rfl, HB8.out.trans (hb9.mono HB8.out.size)⟩
theorem walk {w : World} (b : Bk) (hb : BkOk w w.heap.size b) (H : Int) (wH : (Lit.int .i64 H).wf = true) (W : Int) (wW : (Lit.int .i64 W).wf = true) (C : Int) (wC : (Lit.int .i64 C).wf = true) (cl : Int) (wcl : (Lit.int .u8 cl).wf = true) (hT : zai w) :
    Calls Tryd.prog 5 #[.agg b.val.toArray, .agg #[.int .i64 H, .int .i64 W, .int .i64 C], .int .u8 cl] w fun e w' => e = .returned (.bool true) ∧ Below w.heap.size w w' := by
  have hcl : 0 ≤ cl ∧ cl ≤ 255 := by simpa [Lit.wf, IntKind.min, IntKind.max, IntKind.signed, IntKind.bits] using wcl
  by_cases h : 7 < b.n
  · exact walk_no b (H, W, C) cl h w hb hT
  · by_cases ho : outS b.X (H, W, C) b.n = none
    · exact walk_ok b (H, W, C) cl hcl (by omega) ho w hb hT
    · exact walk_err b (H, W, C) cl hcl (by omega) ho w hb hT
/-! ### the frame: written by program -/
theorem own : ownKnob Tryd.prog.godebug = none := by kernel_rfl
theorem laid : laidOutB Tryd.prog = true := by kernel_rfl
theorem contract {H : Type} {enc : TypeId × Value → H} {W : World} {base : Nat} {args : Array Value} {ds gs : List (DataW H)} {before : List MemPlace}
    (hval0 : ∀ (j : Nat) t v, Tryd.f5.params[j]? = some t → args[j]? = some v → Value.okWide Tryd.prog W .any base t v)
    (hW : DataW.Whole enc Tryd.prog Tryd.f5.params.toList Rows.costMoreSpec.vars false W args.toList ds gs before)
    (hL : laidMetH Tryd.prog [("stepwell/kinds.names", Rows.laid_stepwell_kinds_names)] W) :
    Calls Tryd.prog 5 args W fun e W' => e = .returned (.bool true) ∧ Below W.heap.size W W' := by
  have hval : ∀ (j : Nat) t v, Tryd.f5.params[j]? = some t → args[j]? = some v → Value.okWide Tryd.prog W .any base t v := hval0
  obtain ⟨p, q, hA0, hV, rfl, hfz, hnd⟩ := hW
  have hA : DataW.TrodAll enc Tryd.prog W 0 (fun _ => true) true Tryd.f5.params.toList args.toList ds p := hA0
  rw [Tryd.params5] at hA hval
  obtain ⟨v0, vs0, d0, ds0, p0, q0, hargs, rfl, rfl, h0, r0⟩ := trodAll_cons hA
  obtain ⟨v1, vs1, d1, ds1, p1, q1, rfl, rfl, rfl, h1, r1⟩ := trodAll_cons r0
  obtain ⟨v2, vs2, d2, ds2, p2, q2, rfl, rfl, rfl, h2, r2⟩ := trodAll_cons r1
  obtain ⟨rfl, rfl, rfl⟩ := trodAll_nil r2
  obtain rfl : args = #[v0, v1, v2] := by cases args; simp_all
  clear hA0 hval0
  obtain ⟨b0, rfl, hb0⟩ := CBund.open_block (hval 0 28 v0 rfl rfl) h0
  obtain ⟨cs1, rfl, hs1, hf1⟩ := Kit.open_flat Tryd.underlying30 (by kernel_rfl) (by kernel_rfl) (hval 1 30 v1 rfl rfl) h1
  obtain ⟨u1_0, u1_1, u1_2, rfl⟩ := Kit.size_3 hs1
  obtain ⟨a1_0, rfl, w1_0⟩ := Kit.flat_int Tryd.underlying3 (v := u1_0) rfl (hf1 0 _ rfl)
  obtain ⟨a1_1, rfl, w1_1⟩ := Kit.flat_int Tryd.underlying3 (v := u1_1) rfl (hf1 1 _ rfl)
  obtain ⟨a1_2, rfl, w1_2⟩ := Kit.flat_int Tryd.underlying3 (v := u1_2) rfl (hf1 2 _ rfl)
  obtain ⟨a2, rfl, rfl, rfl, w2⟩ := open_int Tryd.underlying5 (hval 2 5 v2 rfl rfl) h2
  exact walk (w := W) b0 hb0 a1_0 w1_0 a1_1 w1_1 a1_2 w1_2 a2 w2 (of_laid hL)
theorem fnIs {H : Type} : ∀ ds : List (DataW H), ds.length = Tryd.f5.params.toList.length → Rows.costMoreSpec.fn H ds = { results := [.lit (.bool true)], args := ds } := by
  intro ds h
  rw [Tryd.params5] at h
  match ds, h with
  | [d1, d2, d3], _ => rfl
theorem door_met (os : Os) (args : Array Value) : laidMetH Tryd.prog [("stepwell/kinds.names", Rows.laid_stepwell_kinds_names)] ((World.doorLaid Tryd.prog 400 os).forCall (fun _ _ => 0) ⟨#[], args, []⟩).memory :=
  laidMetH_of_parts3 (fuel := 8) (laidMet_of_run' 8 (by kernel_rfl) (by kernel_rfl)) (by kernel_rfl) (by kernel_rfl)
set_option maxRecDepth 100000 in
theorem lifted (os : Os) (started : os.Started) (H : Type) (enc : TypeId × Value → H) :
    ReturnsInHanded {} Tryd.checked os 5 .any (fun w args => (Rows.costMoreSpec.pre enc Tryd.prog Tryd.f5 [] false w args ∧ laidMetH Tryd.prog [("stepwell/kinds.names", Rows.laid_stepwell_kinds_names)] w) ∧ sizedMet enc Tryd.prog Tryd.f5 (OpenSpec.ofChange Rows.costMoreSpec) false w args) (Rows.costMoreSpec.post enc Tryd.prog Tryd.f5 false true false false) := by
  refine returnsInHanded_of_change_and (C := Tryd.checked) (X := fun w _ => laidMetH Tryd.prog [("stepwell/kinds.names", Rows.laid_stepwell_kinds_names)] w) (fun _ _ _ hh h => h.of_heap hh) own started (by kernel_rfl) Tryd.func5
    (ChangeSpec.witness_shaped (enc := enc) (C := Tryd.checked) (os := os) (X := fun w _ => laidMetH Tryd.prog [("stepwell/kinds.names", Rows.laid_stepwell_kinds_names)] w) false (World.doorLaid Tryd.prog 400 os) #[.agg #[.slice none 0 0, .bool false, .slice none 0 0, .slice none 0 0, .int .i32 0], .agg #[.int .i64 0, .int .i64 0, .int .i64 0], .int .u8 0] 8 rfl (World.shaped_of_RefB (by kernel_rfl) (by kernel_rfl)) (by kernel_rfl) (by kernel_rfl) (by kernel_rfl) (door_met os _)) ?_
  intro W base args ds gs before hval hW _ _ hL _
  refine (contract hval hW hL).mono fun e W' ⟨he, hg⟩ => ?_
  subst he
  exact ⟨_, rfl, Kit.law_post (tb := 4) laid (by kernel_rfl) rfl (by kernel_rfl) Tryd.underlying4 fnIs hW hg⟩
theorem over : Rows.costMoreRow.holds Tryd.pinned (OpenSpec.ofChange Rows.costMoreSpec) :=
  OpenClaim.holds_of_wide 5 Tryd.f5 rfl rfl rfl rfl rfl rfl rfl ⟨rfl, rfl, rfl, rfl, rfl⟩ rfl rfl rfl rfl rfl (by kernel_rfl) Tryd.func5 (by kernel_rfl)
    (of_decide_eq_true (by kernel_rfl)) (by unfold Func.isWrapper; first | (rw [if_pos (by decide +kernel)]; kernel_rfl) | (rw [if_neg (by decide +kernel)]; exact ⟨rfl, rfl⟩))
    (fun os started H enc _ => lifted os started H enc)
/-- the statement: the tied card. -/
theorem proved : Rows.CostMoreCardSaid :=
  Claim7.holds_tied_plain_at .later [] [.data] true (true, "fcdad785783cefc6c1d75b195ccf91e91d8a240d4d9bedd1e158f0222e4bf5a2") false
    over (fun _ h => by cases h) (by kernel_rfl) (fun _ h => by cases h) costMore_row_tie rfl ⟨rfl, rfl⟩ (by kernel_rfl) rfl
    (fun f fn hf hfn => by
      obtain rfl : f = 5 := Option.some.inj ((show Tryd.prog.funcNamed "stepwell/stepwelllaw31.CostMore" = some 5 by kernel_rfl).symm.trans hf) |>.symm
      obtain rfl : fn = Tryd.f5 := (Option.some.inj (Tryd.func5.symm.trans hfn)).symm
      exact ⟨by kernel_rfl, fun j t ht => by
        rw [Tryd.params5] at ht
        have hm : t ∈ [28, 30, 5] := by simpa using Array.mem_of_getElem? ht
        have hall : ([28, 30, 5].all fun u => !Tryd.prog.wantsStandIn u) = true := by kernel_rfl
        exact (show Tryd.prog.wantsStandIn t = false by simpa using List.all_eq_true.1 hall t hm)⟩)
    (by kernel_rfl)
end Go.Proofs.YtjhlkmnpfibgaaaDoor.lawCostMore
