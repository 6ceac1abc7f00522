/- Layer 31 (cost), CostBlocks: what any block costs, what goes out of it, and what any node costs, is what the document says, whatever the block, the shape that comes in, the number of classes and the node; the call returns true and leaves its arguments as they were. The names of the kinds are listed as the program's text lays them. Written by gen_cost6.py. -/
import Derived.Test.YtjhlkmnpfibgaaaDoorTie
import Derived.Test.YtjhlkmnpfibgaaaDoorCards
import Derived.Test.YtjhlkmnpfibgaaaDoorGB50
namespace Go.Proofs.YtjhlkmnpfibgaaaDoor.CConv
end Go.Proofs.YtjhlkmnpfibgaaaDoor.CConv
namespace Go.Proofs.YtjhlkmnpfibgaaaDoor.CDense
end Go.Proofs.YtjhlkmnpfibgaaaDoor.CDense
namespace Go.Proofs.YtjhlkmnpfibgaaaDoor.CGraph
end Go.Proofs.YtjhlkmnpfibgaaaDoor.CGraph
namespace Go.Proofs.YtjhlkmnpfibgaaaDoor.CSat
end Go.Proofs.YtjhlkmnpfibgaaaDoor.CSat
namespace Go.Proofs.YtjhlkmnpfibgaaaDoor.CTensor
end Go.Proofs.YtjhlkmnpfibgaaaDoor.CTensor
namespace Go.Proofs.YtjhlkmnpfibgaaaDoor.lawCostBlocks
open Go Go.ChangeShapes Go.WideShapes Go.ChangeAt Go.RowKit Go.Deep
open Plain CSat CFix CShape CTensor CConv CKind CGraph CDense CBund CCost
set_option maxRecDepth 100000
set_option linter.unusedVariables false
set_option linter.unusedSimpArgs false
/-- the boxes of the law's arguments: a block, a shape, a node. -/
def LawAt (B : Nat) (b : Bk) (t0 : Tri) (x : Nd) (w : World) : Prop := BkAt B b w ∧ TriAt (B + 1) t0 w ∧ NdAt (B + 2) x w
theorem LawAt.below {B B' : Nat} {b : Bk} {t0 : Tri} {x : Nd} {w w' : World} (h : LawAt B b t0 x w) (hB : B + 3 ≤ B') (hb : Below B' w w') : LawAt B b t0 x w' :=
  ⟨h.1.below (by omega) hb, h.2.1.below (by omega) hb, h.2.2.below (by omega) hb⟩
theorem LawAt.new (b : Bk) (t0 : Tri) (x : Nd) (T1 T2 T3 : TypeId) (w : World) : LawAt w.heap.size b t0 x (((w.alloc (.cells b.val.toArray T1)).alloc (.cells #[.int .i64 t0.1, .int .i64 t0.2.1, .int .i64 t0.2.2] T2)).alloc (.cells x.val T3)) := by
  have q1 := BkAt.new b T1 w
  have q2 := TriAt.new t0 T2 (w.alloc (.cells b.val.toArray T1))
  have q3 := NdAt.new x T3 ((w.alloc (.cells b.val.toArray T1)).alloc (.cells #[.int .i64 t0.1, .int .i64 t0.2.1, .int .i64 t0.2.2] T2))
  simp only [World.size_alloc] at q2 q3
  have b2 : Below (w.heap.size + 2) ((w.alloc (.cells b.val.toArray T1)).alloc (.cells #[.int .i64 t0.1, .int .i64 t0.2.1, .int .i64 t0.2.2] T2)) (((w.alloc (.cells b.val.toArray T1)).alloc (.cells #[.int .i64 t0.1, .int .i64 t0.2.1, .int .i64 t0.2.2] T2)).alloc (.cells x.val T3)) := (Below.refl _ _).alloc (by simp) _
  have b1 : Below (w.heap.size + 1) (w.alloc (.cells b.val.toArray T1)) (((w.alloc (.cells b.val.toArray T1)).alloc (.cells #[.int .i64 t0.1, .int .i64 t0.2.1, .int .i64 t0.2.2] T2)).alloc (.cells x.val T3)) := ((Below.refl _ _).alloc (by simp) _).trans (b2.mono (by omega))
  exact ⟨q1.below (Nat.lt_succ_self _) b1, q2.below (Nat.lt_succ_self _) b2, q3⟩
theorem few_one {b : Bk} {B1 B2 : Nat} (h : FewU (uOne b B1 B2)) : b.n ≤ 12 := ((h.2 0 (show (0 : Nat) < 1 by decide)).2 0 (show (0 : Nat) < 1 by decide)).1
set_option maxHeartbeats 8000000 in
theorem walk_no (b : Bk) (t0 : Tri) (cl : Int) (x : Nd) (h : 2000 < x.nW ∨ 200 < x.nB) (w : World) (hb : BkOk w w.heap.size b) (hT : zav w) :
    Calls Tryd.prog 3 #[.agg b.val.toArray, .agg #[.int .i64 t0.1, .int .i64 t0.2.1, .int .i64 t0.2.2], .int .i64 cl, .agg x.val] w fun e w' => e = .returned (.bool true) ∧ Below w.heap.size w w' := by
  have hb1 := (Below.refl w.heap.size w).alloc (Nat.le_refl _) (.cells b.val.toArray 28)
  have HB0 : Hid (Below w.heap.size w (((w.alloc (.cells b.val.toArray 28)).alloc (.cells #[.int .i64 t0.1, .int .i64 t0.2.1, .int .i64 t0.2.2] 30)).alloc (.cells x.val 35))) := Lib.hid ((hb1.alloc (by simp) _).alloc (by simp; omega) _)
  have HL : Hid (LawAt w.heap.size b t0 x (((w.alloc (.cells b.val.toArray 28)).alloc (.cells #[.int .i64 t0.1, .int .i64 t0.2.1, .int .i64 t0.2.2] 30)).alloc (.cells x.val 35))) := Lib.hid (LawAt.new b t0 x 28 30 35 w)
  have HSZ : Hid (w.heap.size + 3 ≤ (((w.alloc (.cells b.val.toArray 28)).alloc (.cells #[.int .i64 t0.1, .int .i64 t0.2.1, .int .i64 t0.2.2] 30)).alloc (.cells x.val 35)).heap.size) := Lib.hid (by simp)
  have HBK := Lib.hid hb
  have HT := Lib.hid hT
  clear hb hT hb1
  go_enter Tryd.func3, Tryd.ntmps3
  go_upto_region 1 with fail
  generalize ((w.alloc (.cells b.val.toArray 28)).alloc (.cells #[.int .i64 t0.1, .int .i64 t0.2.1, .int .i64 t0.2.2] 30)).alloc (.cells x.val 35) = W0 at HB0 HL HSZ ⊢
  obtain ⟨⟨k0, k1, k2, k3, k4⟩, ⟨a0, a1, a2⟩, hnd⟩ := HL.out
  have c9 := hnd.at 9 _ rfl
  have c10 := hnd.at 10 _ rfl
  by_cases h1 : 2000 < x.nW
  · have g1 : (x.nW : Int) > 2000 := by omega
    clear h h1
    go_wp2_with (first
    | (go_at_call 6
       refine (rfew31_to (uOne b W0.heap.size (W0.heap.size + 1)) _ (one_ok b W0 ((HBK.out.below HB0.out).more HB0.out.size) 28 39)).mono ?_
       rintro e w1 ⟨bf, rfl, hfew, hb⟩
       have hal : Below W0.heap.size W0 ((W0.alloc (.cells b.val.toArray 28)).alloc (.cells #[.slice (some ⟨W0.heap.size, 0, none⟩) 1 1] 39)) := ((Below.refl _ _).alloc (Nat.le_refl _) _).alloc (by simp) _
       have hh : Below W0.heap.size W0 w1 := hal.trans (hb.mono hal.size)
       have HB1 := Lib.hid (HB0.out.trans (hh.mono HB0.out.size))
       replace HL := Lib.hid (HL.out.below HSZ.out hh)
       have HSZ1 := Lib.hid (Nat.le_trans HSZ.out hh.size)
       have HFW : Hid (FewIs bf (FewU (uOne b W0.heap.size (W0.heap.size + 1)))) := Lib.hid hfew
       clear hfew hb hal hh k0 k1 k2 k3 k4 a0 a1 a2 c9 c10 hnd HSZ
       obtain ⟨⟨k0, k1, k2, k3, k4⟩, ⟨a0, a1, a2⟩, hnd⟩ := HL.out
       have c9 := hnd.at 9 _ rfl
       have c10 := hnd.at 10 _ rfl
       rcases bf with _ | _)
    | (go_at_call 7
       refine (known31 _ (HT.out.grown HB1.out)).mono ?_
       rintro e w9 ⟨rfl, hb9⟩))
    all_goals
      go_ret
      exact ⟨rfl, HB1.out.trans (hb9.mono HB1.out.size)⟩
  · have g1 : ¬ (x.nW : Int) > 2000 := by omega
    have g2 : (x.nB : Int) > 200 := by omega
    clear h h1
    go_wp2_with (first
    | (go_at_call 6
       refine (rfew31_to (uOne b W0.heap.size (W0.heap.size + 1)) _ (one_ok b W0 ((HBK.out.below HB0.out).more HB0.out.size) 28 39)).mono ?_
       rintro e w1 ⟨bf, rfl, hfew, hb⟩
       have hal : Below W0.heap.size W0 ((W0.alloc (.cells b.val.toArray 28)).alloc (.cells #[.slice (some ⟨W0.heap.size, 0, none⟩) 1 1] 39)) := ((Below.refl _ _).alloc (Nat.le_refl _) _).alloc (by simp) _
       have hh : Below W0.heap.size W0 w1 := hal.trans (hb.mono hal.size)
       have HB1 := Lib.hid (HB0.out.trans (hh.mono HB0.out.size))
       replace HL := Lib.hid (HL.out.below HSZ.out hh)
       have HSZ1 := Lib.hid (Nat.le_trans HSZ.out hh.size)
       have HFW : Hid (FewIs bf (FewU (uOne b W0.heap.size (W0.heap.size + 1)))) := Lib.hid hfew
       clear hfew hb hal hh k0 k1 k2 k3 k4 a0 a1 a2 c9 c10 hnd HSZ
       obtain ⟨⟨k0, k1, k2, k3, k4⟩, ⟨a0, a1, a2⟩, hnd⟩ := HL.out
       have c9 := hnd.at 9 _ rfl
       have c10 := hnd.at 10 _ rfl
       rcases bf with _ | _)
    | (go_at_call 7
       refine (known31 _ (HT.out.grown HB1.out)).mono ?_
       rintro e w9 ⟨rfl, hb9⟩))
    all_goals
      go_ret
      exact ⟨rfl, HB1.out.trans (hb9.mono HB1.out.size)⟩
set_option maxHeartbeats 16000000 in
theorem walk_yes (b : Bk) (t0 : Tri) (cl : Int) (x : Nd) (h1 : x.nW ≤ 2000) (h2 : x.nB ≤ 200) (w : World) (hb : BkOk w w.heap.size b) (hT : zav w) :
    Calls Tryd.prog 3 #[.agg b.val.toArray, .agg #[.int .i64 t0.1, .int .i64 t0.2.1, .int .i64 t0.2.2], .int .i64 cl, .agg x.val] w fun e w' => e = .returned (.bool true) ∧ Below w.heap.size w w' := by
  have g1 : ¬ (x.nW : Int) > 2000 := by omega
  have g2 : ¬ (x.nB : Int) > 200 := by omega
  have CC := Lib.hid (fun wx : World => cnode_to x t0 t0 wx)
  have CR := Lib.hid (fun wx : World => rnode_to x t0 t0 wx)
  generalize costZ x t0 t0 = cn at CC CR
  have HX := Lib.hid (fun j (hj : j < b.n) => node_small (hb.each j hj))
  have CB : Hid (∀ wx, zav wx → NodesAt wx wx.heap.size b.A b.n b.X → b.n ≤ 12 → Calls Tryd.prog 8 #[.agg b.val.toArray, .agg #[.int .i64 t0.1, .int .i64 t0.2.1, .int .i64 t0.2.2], .int .i64 cl] wx fun e w' => e = .returned (.tuple #[.int .i64 (cZ b.X t0 b.n b.ex cl), .int .i64 (outZ b.X t0 b.n)]) ∧ Below wx.heap.size wx w') :=
    Lib.hid (fun wx hT hA hn => (cblock_to b t0 cl (by omega) wx hT HX.out hA).mono fun e w' h => cst_view h)
  have CO : Hid (∀ wx, zav wx → NodesAt wx wx.heap.size b.A b.n b.X → b.n ≤ 12 → Calls Tryd.prog 9 #[.agg b.val.toArray, .agg #[.int .i64 t0.1, .int .i64 t0.2.1, .int .i64 t0.2.2]] wx fun e w' => e = .returned (.tuple #[.agg #[.int .i64 (oT b.X t0 b.n).1, .int .i64 (oT b.X t0 b.n).2.1, .int .i64 (oT b.X t0 b.n).2.2], .int .i64 (outZ b.X t0 b.n)]) ∧ Below wx.heap.size wx w') :=
    Lib.hid (fun wx hT hA hn => (out_to b t0 (by omega) wx hT HX.out hA).mono fun e w' h => out_view h)
  have CD : Hid (∀ wx, NodesAt wx wx.heap.size b.A b.n b.X → b.n ≤ 12 → Calls Tryd.prog 10 #[.agg b.val.toArray, .agg #[.int .i64 t0.1, .int .i64 t0.2.1, .int .i64 t0.2.2], .int .i64 cl] wx fun e w' => e = .returned (.tuple #[.int .i64 (cZ b.X t0 b.n b.ex cl), .agg #[.int .i64 (oT b.X t0 b.n).1, .int .i64 (oT b.X t0 b.n).2.1, .int .i64 (oT b.X t0 b.n).2.2], .int .i64 (outZ b.X t0 b.n)]) ∧ Below wx.heap.size wx w') :=
    Lib.hid (fun wx hA hn => (rblock_to b t0 cl (by omega) wx hA).mono fun e w' h => blk_view h)
  generalize cZ b.X t0 b.n b.ex cl = cz at CB CD
  generalize oT b.X t0 b.n = o at CO CD
  generalize outZ b.X t0 b.n = ez at CB CO CD
  have HQ := Lib.hid (CGraph.eqShape o.1 o.2.1 o.2.2 o.1 o.2.1 o.2.2)
  have HG := Lib.hid Tryd.eqGuardType30
  clear h1 h2
  have hb1 := (Below.refl w.heap.size w).alloc (Nat.le_refl _) (.cells b.val.toArray 28)
  have HB0 : Hid (Below w.heap.size w (((w.alloc (.cells b.val.toArray 28)).alloc (.cells #[.int .i64 t0.1, .int .i64 t0.2.1, .int .i64 t0.2.2] 30)).alloc (.cells x.val 35))) := Lib.hid ((hb1.alloc (by simp) _).alloc (by simp; omega) _)
  have HL : Hid (LawAt w.heap.size b t0 x (((w.alloc (.cells b.val.toArray 28)).alloc (.cells #[.int .i64 t0.1, .int .i64 t0.2.1, .int .i64 t0.2.2] 30)).alloc (.cells x.val 35))) := Lib.hid (LawAt.new b t0 x 28 30 35 w)
  have HSZ : Hid (w.heap.size + 3 ≤ (((w.alloc (.cells b.val.toArray 28)).alloc (.cells #[.int .i64 t0.1, .int .i64 t0.2.1, .int .i64 t0.2.2] 30)).alloc (.cells x.val 35)).heap.size) := Lib.hid (by simp)
  have HBK := Lib.hid hb
  have HT := Lib.hid hT
  clear hb hT hb1
  go_enter Tryd.func3, Tryd.ntmps3
  go_upto_region 1 with fail
  generalize ((w.alloc (.cells b.val.toArray 28)).alloc (.cells #[.int .i64 t0.1, .int .i64 t0.2.1, .int .i64 t0.2.2] 30)).alloc (.cells x.val 35) = W0 at HB0 HL HSZ ⊢
  obtain ⟨⟨k0, k1, k2, k3, k4⟩, ⟨a0, a1, a2⟩, hnd⟩ := HL.out
  have c9 := hnd.at 9 _ rfl
  have c10 := hnd.at 10 _ rfl
  go_upto_region 6 with (first
    | (go_at_call 6
       refine (rfew31_to (uOne b W0.heap.size (W0.heap.size + 1)) _ (one_ok b W0 ((HBK.out.below HB0.out).more HB0.out.size) 28 39)).mono ?_
       rintro e w1 ⟨bf, rfl, hfew, hb⟩
       have hal : Below W0.heap.size W0 ((W0.alloc (.cells b.val.toArray 28)).alloc (.cells #[.slice (some ⟨W0.heap.size, 0, none⟩) 1 1] 39)) := ((Below.refl _ _).alloc (Nat.le_refl _) _).alloc (by simp) _
       have hh : Below W0.heap.size W0 w1 := hal.trans (hb.mono hal.size)
       have HB1 := Lib.hid (HB0.out.trans (hh.mono HB0.out.size))
       replace HL := Lib.hid (HL.out.below HSZ.out hh)
       have HSZ1 := Lib.hid (Nat.le_trans HSZ.out hh.size)
       have HFW : Hid (FewIs bf (FewU (uOne b W0.heap.size (W0.heap.size + 1)))) := Lib.hid hfew
       clear hfew hb hal hh k0 k1 k2 k3 k4 a0 a1 a2 c9 c10 hnd HSZ
       obtain ⟨⟨k0, k1, k2, k3, k4⟩, ⟨a0, a1, a2⟩, hnd⟩ := HL.out
       have c9 := hnd.at 9 _ rfl
       have c10 := hnd.at 10 _ rfl
       rcases bf with _ | _)
    | (go_at_call 7
       refine (known31 _ (HT.out.grown HB1.out)).mono ?_
       rintro e w9 ⟨rfl, hb9⟩)
    | (go_at_call 8
       refine (CB.out _ (HT.out.grown HB1.out) ((HBK.out.nodes.below HB1.out).more HB1.out.size) (few_one (HFW.out rfl))).mono ?_
       rintro e w2 ⟨rfl, hb⟩
       replace HL := Lib.hid (HL.out.below HSZ1.out hb)
       have HB2 := Lib.hid (HB1.out.trans (hb.mono HB1.out.size))
       have HSZ2 := Lib.hid (Nat.le_trans HSZ1.out hb.size)
       clear hb k0 k1 k2 k3 k4 a0 a1 a2 c9 c10 hnd HSZ1
       obtain ⟨⟨k0, k1, k2, k3, k4⟩, ⟨a0, a1, a2⟩, hnd⟩ := HL.out)
    | (go_at_call 9
       refine (CO.out _ (HT.out.grown HB2.out) ((HBK.out.nodes.below HB2.out).more HB2.out.size) (few_one (HFW.out rfl))).mono ?_
       rintro e w3 ⟨rfl, hb⟩
       replace HL := Lib.hid (HL.out.below HSZ2.out hb)
       have HB3 := Lib.hid (HB2.out.trans (hb.mono HB2.out.size))
       have HSZ3 := Lib.hid (Nat.le_trans HSZ2.out hb.size)
       have hz0 : w.heap.size < w3.heap.size := by have := HSZ3.out; omega
       have hz1 : w.heap.size + 1 < w3.heap.size := by have := HSZ3.out; omega
       clear hb k0 k1 k2 k3 k4 a0 a1 a2 hnd HSZ2
       obtain ⟨⟨k0, k1, k2, k3, k4⟩, ⟨a0, a1, a2⟩, hnd⟩ := HL.out)
    | (go_at_call 10
       have hal : Below w3.heap.size w3 (w3.alloc (.cells #[.int .i64 o.1, .int .i64 o.2.1, .int .i64 o.2.2] 30)) := (Below.refl _ _).alloc (Nat.le_refl _) _
       have hbx := HB3.out.trans (hal.mono HB3.out.size)
       refine (CD.out _ ((HBK.out.nodes.below hbx).more hbx.size) (few_one (HFW.out rfl))).mono ?_
       rintro e w4 ⟨rfl, hb⟩
       have hh := hal.trans (hb.mono hal.size)
       replace HL := Lib.hid (HL.out.below HSZ3.out hh)
       have HB4 := Lib.hid (HB3.out.trans (hh.mono HB3.out.size))
       have HSZ4 := Lib.hid (Nat.le_trans HSZ3.out hh.size)
       have hlt : w3.heap.size < (w3.alloc (.cells #[.int .i64 o.1, .int .i64 o.2.1, .int .i64 o.2.2] 30)).heap.size := by simp
       have HO1 := Lib.hid ((TriAt.new o 30 w3).below hlt hb)
       have HLT := Lib.hid (Nat.lt_of_lt_of_le hlt hb.size)
       clear hb hal hbx hh hlt k0 k1 k2 k3 k4 a0 a1 a2 hnd hz0 hz1))
  · go_ret
    exact ⟨rfl, HB1.out.trans (hb9.mono HB1.out.size)⟩
  · have hal : Below w4.heap.size w4 (w4.alloc (.cells #[.int .i64 o.1, .int .i64 o.2.1, .int .i64 o.2.2] 30)) := (Below.refl _ _).alloc (Nat.le_refl _) _
    have HL6 := Lib.hid (HL.out.below HSZ4.out hal)
    have HB6 := Lib.hid (HB4.out.trans (hal.mono HB4.out.size))
    replace HO1 := Lib.hid (HO1.out.below HLT.out hal)
    have HO2 := Lib.hid (TriAt.new o 30 w4)
    have HS6 : Hid (w.heap.size + 2 < (w4.alloc (.cells #[.int .i64 o.1, .int .i64 o.2.1, .int .i64 o.2.2] 30)).heap.size ∧ w.heap.size + 1 < (w4.alloc (.cells #[.int .i64 o.1, .int .i64 o.2.1, .int .i64 o.2.2] 30)).heap.size ∧ w3.heap.size < (w4.alloc (.cells #[.int .i64 o.1, .int .i64 o.2.1, .int .i64 o.2.2] 30)).heap.size ∧ w4.heap.size < (w4.alloc (.cells #[.int .i64 o.1, .int .i64 o.2.1, .int .i64 o.2.2] 30)).heap.size) :=
      Lib.hid (by have := HSZ4.out; have := HLT.out; simp; omega)
    generalize w4.alloc (.cells #[.int .i64 o.1, .int .i64 o.2.1, .int .i64 o.2.2] 30) = W6 at HL6 HB6 HO1 HO2 HS6 ⊢
    clear hal HL HB1 HB2 HB3 HB4 HLT HSZ3 HSZ4 CB CO CD
    skip
    refine wp_region_held_drew (S := fun wx => Below W6.heap.size W6 wx) (by kernel_rfl) (Below.refl _ _).drew (fun hHeld => ?_)
    generalize W6.drew = W1 at hHeld ⊢
    refine Tk.x 0 rfl ?_
    try simp only [Tk.put]
    refine Tk.x 1 rfl ?_
    try simp only [Tk.put]
    refine Tk.y 2 (v := .bool true) rfl ?_ ?_
    · intro wS hSw
      first | (go_simp; done) | (go_simp; with_reducible rfl)
    try simp only [Tk.put]
    refine Tk.x 3 rfl ?_
    try simp only [Tk.put]
    refine Tk.x 4 rfl ?_
    try simp only [Tk.put]
    refine Tk.x 5 rfl ?_
    try simp only [Tk.put]
    refine Tk.y 6 (v := .bool true) rfl ?_ ?_
    · intro wS hSw
      first | (go_simp; done) | (go_simp; with_reducible rfl)
    try simp only [Tk.put]
    refine Tk.y 7 (v := .bool true) rfl ?_ ?_
    · intro wS hSw
      first | (go_simp; done) | (go_simp; with_reducible rfl)
    try simp only [Tk.put]
    refine Tk.x 8 rfl ?_
    try simp only [Tk.put]
    refine Tk.y 9 (v := .agg #[.int .i64 o.1, .int .i64 o.2.1, .int .i64 o.2.2]) rfl ?_ ?_
    · intro wS hSw
      obtain ⟨q0, q1, q2⟩ := HO1.out.below HS6.out.2.2.1 hSw
      first | (go_simp; done) | (go_simp; with_reducible rfl)
    try simp only [Tk.put]
    refine Tk.y 10 (v := .agg #[.int .i64 o.1, .int .i64 o.2.1, .int .i64 o.2.2]) rfl ?_ ?_
    · intro wS hSw
      obtain ⟨q0, q1, q2⟩ := HO2.out.below HS6.out.2.2.2 hSw
      first | (go_simp; done) | (go_simp; with_reducible rfl)
    try simp only [Tk.put]
    refine Tk.y 11 (v := .bool true) rfl ?_ ?_
    · intro wS hSw
      have hq := HQ.out
      have hgd := HG.out
      first | (go_simp; done) | (go_simp; with_reducible rfl)
    try simp only [Tk.put]
    refine Tk.y 12 (v := .bool true) rfl ?_ ?_
    · intro wS hSw
      first | (go_simp; done) | (go_simp; with_reducible rfl)
    try simp only [Tk.put]
    refine Tk.x 13 rfl ?_
    try simp only [Tk.put]
    refine Tk.x 14 rfl ?_
    try simp only [Tk.put]
    refine Tk.x 15 rfl ?_
    try simp only [Tk.put]
    refine Tk.y 16 (v := .bool true) rfl ?_ ?_
    · intro wS hSw
      first | (go_simp; done) | (go_simp; with_reducible rfl)
    try simp only [Tk.put]
    refine Tk.y 17 (v := .bool true) rfl ?_ ?_
    · intro wS hSw
      first | (go_simp; done) | (go_simp; with_reducible rfl)
    try simp only [Tk.put]
    refine Tk.x 18 rfl ?_
    try simp only [Tk.put]
    refine Tk.t 19 (v := .agg x.val) rfl (za1 _ rfl (by rfl) (w.heap.size + 2) x rfl (fun _ h => HL6.out.2.2.below HS6.out.1 h)) (by assumption) ?_
    try simp only [Tk.put]
    refine Tk.y 20 (v := .agg #[.int .i64 t0.1, .int .i64 t0.2.1, .int .i64 t0.2.2]) rfl ?_ ?_
    · intro wS hSw
      obtain ⟨q0, q1, q2⟩ := HL6.out.2.1.below HS6.out.2.1 hSw
      first | (go_simp; done) | (go_simp; with_reducible rfl)
    try simp only [Tk.put]
    refine Tk.y 21 (v := .agg #[.int .i64 t0.1, .int .i64 t0.2.1, .int .i64 t0.2.2]) rfl ?_ ?_
    · intro wS hSw
      obtain ⟨q0, q1, q2⟩ := HL6.out.2.1.below HS6.out.2.1 hSw
      first | (go_simp; done) | (go_simp; with_reducible rfl)
    try simp only [Tk.put]
    refine Tk.t 23 (v := .agg x.val) rfl (za1 _ rfl (by rfl) (w.heap.size + 2) x rfl (fun _ h => HL6.out.2.2.below HS6.out.1 h)) (by assumption) ?_
    try simp only [Tk.put]
    refine Tk.y 24 (v := .agg #[.int .i64 t0.1, .int .i64 t0.2.1, .int .i64 t0.2.2]) rfl ?_ ?_
    · intro wS hSw
      obtain ⟨q0, q1, q2⟩ := HL6.out.2.1.below HS6.out.2.1 hSw
      first | (go_simp; done) | (go_simp; with_reducible rfl)
    try simp only [Tk.put]
    refine Tk.y 25 (v := .agg #[.int .i64 t0.1, .int .i64 t0.2.1, .int .i64 t0.2.2]) rfl ?_ ?_
    · intro wS hSw
      obtain ⟨q0, q1, q2⟩ := HL6.out.2.1.below HS6.out.2.1 hSw
      first | (go_simp; done) | (go_simp; with_reducible rfl)
    try simp only [Tk.put]
    refine Tk.s 22 rfl (fun Kq hK => ?_)
    go_simp
    go_at_call 11
    refine (CC.out _).mono ?_
    rintro e W2 ⟨rfl, hb⟩
    have hS2 := hHeld.trans (hb.mono hHeld.size)
    clear hHeld hb
    dsimp only
    refine hK.out _ _ hS2 (fun hHeld => ?_)
    clear hK Kq hS2
    try simp only [Tk.put]
    refine Tk.s 26 rfl (fun Kq hK => ?_)
    go_simp
    go_at_call 12
    refine (CR.out _).mono ?_
    rintro e W2 ⟨rfl, hb⟩
    have hS2 := hHeld.trans (hb.mono hHeld.size)
    clear hHeld hb
    dsimp only
    refine hK.out _ _ hS2 (fun hHeld => ?_)
    clear hK Kq hS2
    try simp only [Tk.put]
    refine Tk.y 27 (v := .bool true) rfl ?_ ?_
    · intro wS hSw
      first | (go_simp; done) | (go_simp; with_reducible rfl)
    try simp only [Tk.put]
    refine Tk.y 28 (v := .bool true) rfl ?_ ?_
    · intro wS hSw
      first | (go_simp; done) | (go_simp; with_reducible rfl)
    try simp only [Tk.put]
    refine Tk.x 29 rfl ?_
    try simp only [Tk.put]
    refine Tk.s 30 rfl (fun Kq hK => ?_)
    go_simp
    go_at_call 7
    refine (known31 _ (HT.out.grown (HB6.out.trans (hHeld.mono HB6.out.size)))).mono ?_
    rintro e W2 ⟨rfl, hb⟩
    have hS2 := hHeld.trans (hb.mono hHeld.size)
    clear hHeld hb
    dsimp only
    refine hK.out _ _ hS2 (fun hHeld => ?_)
    clear hK Kq hS2
    try simp only [Tk.put]
    refine Tk.y 31 (v := .bool true) rfl ?_ ?_
    · intro wS hSw
      first | (go_simp; done) | (go_simp; with_reducible rfl)
    try simp only [Tk.put]
    refine Tk.x 32 rfl ?_
    try simp only [Tk.put]
    refine wpAnyH_done (by kernel_rfl) ?_ _
    go_wp2_with fail
    go_ret
    exact ⟨rfl, HB6.out.trans (hHeld.mono HB6.out.size)⟩
theorem walk {w : World} (b : Bk) (hb : BkOk w w.heap.size b) (H : Int) (wH : (Lit.int .i64 H).wf = true) (W : Int) (wW : (Lit.int .i64 W).wf = true) (C : Int) (wC : (Lit.int .i64 C).wf = true) (cl : Int) (wcl : (Lit.int .i64 cl).wf = true)
    (x0 x1 x2 x8 x11 x12 x13 x14 x15 x16 x17 x18 : Value) (K S P O Z : Int) (WA : Option Addr) (ws : List Int) (cW : Nat) (BA : Option Addr) (bs : List Int) (cB : Nat) (wz : (Lit.int .i8 Z).wf = true) (hcw : ws.length ≤ cW) (hmw : cW ≤ maxLen) (hww : ∀ n ∈ ws, (Lit.int .i8 n).wf = true) (hrw : Kit.Rd w w.heap.size WA (ws.map (.int .i8)))
    (hcb : bs.length ≤ cB) (hmb : cB ≤ maxLen) (hwb : ∀ n ∈ bs, (Lit.int .i32 n).wf = true) (hrb : Kit.Rd w w.heap.size BA (bs.map (.int .i32)))
    (hnd : ∃ kd na nb Y m1 s1 z1 m2 s2 z2 lo hi : Int, (x0 = .int .i64 kd ∧ x1 = .int .i64 na ∧ x2 = .int .i64 nb ∧ x8 = .int .i8 Y ∧ x11 = .int .i32 m1 ∧ x12 = .int .i64 s1 ∧ x13 = .int .i8 z1 ∧ x14 = .int .i32 m2 ∧ x15 = .int .i64 s2 ∧ x16 = .int .i8 z2 ∧ x17 = .int .i8 lo ∧ x18 = .int .i8 hi) ∧ NdBd kd na nb Y m1 s1 z1 m2 s2 z2 lo hi) (hT : zav w) :
    Calls Tryd.prog 3 #[.agg b.val.toArray, .agg #[.int .i64 H, .int .i64 W, .int .i64 C], .int .i64 cl, .agg #[x0, x1, x2, .int .i64 K, .int .i64 S, .int .i64 P, .int .i64 O, .int .i8 Z, x8, .slice WA ws.length cW, .slice BA bs.length cB, x11, x12, x13, x14, x15, x16, x17, x18]] w fun e w' => e = .returned (.bool true) ∧ Below w.heap.size w w' := by
  obtain ⟨kd, na, nb, Y, m1, s1, z1, m2, s2, z2, lo, hi, ⟨rfl, rfl, rfl, rfl, rfl, rfl, rfl, rfl, rfl, rfl, rfl, rfl⟩, bd⟩ := hnd
  by_cases hf : ws.length ≤ 2000 ∧ bs.length ≤ 200
  · exact walk_yes b (H, W, C) cl ⟨kd, na, nb, K, S, P, O, Z, Y, WA, ws.length, cW, BA, bs.length, cB, m1, s1, z1, m2, s2, z2, lo, hi⟩ hf.1 hf.2 w hb hT
  · exact walk_no b (H, W, C) cl ⟨kd, na, nb, K, S, P, O, Z, Y, WA, ws.length, cW, BA, bs.length, cB, m1, s1, z1, m2, s2, z2, lo, hi⟩ (show 2000 < ws.length ∨ 200 < bs.length by omega) w hb hT
/-! ### the frame: written by program -/
theorem own : ownKnob Tryd.prog.godebug = none := by kernel_rfl
theorem laid : laidOutB Tryd.prog = true := by kernel_rfl
theorem contract {H : Type} {enc : TypeId × Value → H} {W : World} {base : Nat} {args : Array Value} {ds gs : List (DataW H)} {before : List MemPlace}
    (hval0 : ∀ (j : Nat) t v, Tryd.f3.params[j]? = some t → args[j]? = some v → Value.okWide Tryd.prog W .any base t v)
    (hW : DataW.Whole enc Tryd.prog Tryd.f3.params.toList Rows.costBlocksSpec.vars false W args.toList ds gs before)
    (hL : laidMetH Tryd.prog [("stepwell/kinds.names", Rows.laid_stepwell_kinds_names)] W) :
    Calls Tryd.prog 3 args W fun e W' => e = .returned (.bool true) ∧ Below W.heap.size W W' := by
  have hval : ∀ (j : Nat) t v, Tryd.f3.params[j]? = some t → args[j]? = some v → Value.okWide Tryd.prog W .any base t v := hval0
  obtain ⟨p, q, hA0, hV, rfl, hfz, hnd⟩ := hW
  have hA : DataW.TrodAll enc Tryd.prog W 0 (fun _ => true) true Tryd.f3.params.toList args.toList ds p := hA0
  rw [Tryd.params3] at hA hval
  obtain ⟨v0, vs0, d0, ds0, p0, q0, hargs, rfl, rfl, h0, r0⟩ := trodAll_cons hA
  obtain ⟨v1, vs1, d1, ds1, p1, q1, rfl, rfl, rfl, h1, r1⟩ := trodAll_cons r0
  obtain ⟨v2, vs2, d2, ds2, p2, q2, rfl, rfl, rfl, h2, r2⟩ := trodAll_cons r1
  obtain ⟨v3, vs3, d3, ds3, p3, q3, rfl, rfl, rfl, h3, r3⟩ := trodAll_cons r2
  obtain ⟨rfl, rfl, rfl⟩ := trodAll_nil r3
  obtain rfl : args = #[v0, v1, v2, v3] := by cases args; simp_all
  clear hA0 hval0
  obtain ⟨b0, rfl, hb0⟩ := CBund.open_block (hval 0 28 v0 rfl rfl) h0
  obtain ⟨cs1, rfl, hs1, hf1⟩ := Kit.open_flat Tryd.underlying30 (by kernel_rfl) (by kernel_rfl) (hval 1 30 v1 rfl rfl) h1
  obtain ⟨u1_0, u1_1, u1_2, rfl⟩ := Kit.size_3 hs1
  obtain ⟨a1_0, rfl, w1_0⟩ := Kit.flat_int Tryd.underlying3 (v := u1_0) rfl (hf1 0 _ rfl)
  obtain ⟨a1_1, rfl, w1_1⟩ := Kit.flat_int Tryd.underlying3 (v := u1_1) rfl (hf1 1 _ rfl)
  obtain ⟨a1_2, rfl, w1_2⟩ := Kit.flat_int Tryd.underlying3 (v := u1_2) rfl (hf1 2 _ rfl)
  obtain ⟨a2, rfl, rfl, rfl, w2⟩ := open_int Tryd.underlying3 (hval 2 3 v2 rfl rfl) h2
  obtain ⟨n3_0, n3_1, n3_2, n3_8, n3_11, n3_12, n3_13, n3_14, n3_15, n3_16, n3_17, n3_18, K3, S3, Q3, O3, Z3, WA3, ws3, cW3, BA3, bs3, cB3, rfl, wz3, hcw3, hmw3, hww3, hrw3, hcb3, hmb3, hwb3, hrb3⟩ := Kit.open_node (i := 3) (b8 := 31) (d := 23) (e := 31) (d2 := 24) (e2 := 21) Tryd.underlying35 (by kernel_rfl) Tryd.underlying3 (by kernel_rfl) Tryd.underlying31 (by kernel_rfl) Tryd.underlying23 Tryd.underlying31 (by kernel_rfl) (by kernel_rfl) Tryd.underlying24 Tryd.underlying21 (by kernel_rfl) (by kernel_rfl) rfl rfl rfl rfl rfl rfl rfl ⟨rfl, rfl⟩ ⟨rfl, rfl⟩ ⟨rfl, rfl⟩ ⟨rfl, rfl⟩ ⟨rfl, rfl⟩ ⟨rfl, rfl⟩ ⟨rfl, rfl⟩ (hval 3 35 v3 rfl rfl) h3
  exact walk (w := W) b0 hb0 a1_0 w1_0 a1_1 w1_1 a1_2 w1_2 a2 w2 n3_0 n3_1 n3_2 n3_8 n3_11 n3_12 n3_13 n3_14 n3_15 n3_16 n3_17 n3_18 K3 S3 Q3 O3 Z3 WA3 ws3 cW3 BA3 bs3 cB3 wz3 hcw3 hmw3 hww3 hrw3 hcb3 hmb3 hwb3 hrb3 (CKind.nd_cells (hval 3 35 _ rfl rfl)) (of_laid hL)
theorem fnIs {H : Type} : ∀ ds : List (DataW H), ds.length = Tryd.f3.params.toList.length → Rows.costBlocksSpec.fn H ds = { results := [.lit (.bool true)], args := ds } := by
  intro ds h
  rw [Tryd.params3] at h
  match ds, h with
  | [d1, d2, d3, d4], _ => rfl
theorem door_met (os : Os) (args : Array Value) : laidMetH Tryd.prog [("stepwell/kinds.names", Rows.laid_stepwell_kinds_names)] ((World.doorLaid Tryd.prog 400 os).forCall (fun _ _ => 0) ⟨#[], args, []⟩).memory :=
  laidMetH_of_parts3 (fuel := 8) (laidMet_of_run' 8 (by kernel_rfl) (by kernel_rfl)) (by kernel_rfl) (by kernel_rfl)
set_option maxRecDepth 100000 in
theorem lifted (os : Os) (started : os.Started) (H : Type) (enc : TypeId × Value → H) :
    ReturnsInHanded {} Tryd.checked os 3 .any (fun w args => (Rows.costBlocksSpec.pre enc Tryd.prog Tryd.f3 [] false w args ∧ laidMetH Tryd.prog [("stepwell/kinds.names", Rows.laid_stepwell_kinds_names)] w) ∧ sizedMet enc Tryd.prog Tryd.f3 (OpenSpec.ofChange Rows.costBlocksSpec) false w args) (Rows.costBlocksSpec.post enc Tryd.prog Tryd.f3 false true false false) := by
  refine returnsInHanded_of_change_and (C := Tryd.checked) (X := fun w _ => laidMetH Tryd.prog [("stepwell/kinds.names", Rows.laid_stepwell_kinds_names)] w) (fun _ _ _ hh h => h.of_heap hh) own started (by kernel_rfl) Tryd.func3
    (ChangeSpec.witness_shaped (enc := enc) (C := Tryd.checked) (os := os) (X := fun w _ => laidMetH Tryd.prog [("stepwell/kinds.names", Rows.laid_stepwell_kinds_names)] w) false (World.doorLaid Tryd.prog 400 os) #[.agg #[.slice none 0 0, .bool false, .slice none 0 0, .slice none 0 0, .int .i32 0], .agg #[.int .i64 0, .int .i64 0, .int .i64 0], .int .i64 0, .agg #[.int .i64 0, .int .i64 0, .int .i64 0, .int .i64 0, .int .i64 0, .int .i64 0, .int .i64 0, .int .i8 0, .int .i8 0, .slice none 0 0, .slice none 0 0, .int .i32 0, .int .i64 0, .int .i8 0, .int .i32 0, .int .i64 0, .int .i8 0, .int .i8 0, .int .i8 0]] 8 rfl (World.shaped_of_RefB (by kernel_rfl) (by kernel_rfl)) (by kernel_rfl) (by kernel_rfl) (by kernel_rfl) (door_met os _)) ?_
  intro W base args ds gs before hval hW _ _ hL _
  refine (contract hval hW hL).mono fun e W' ⟨he, hg⟩ => ?_
  subst he
  exact ⟨_, rfl, Kit.law_post (tb := 4) laid (by kernel_rfl) rfl (by kernel_rfl) Tryd.underlying4 fnIs hW hg⟩
theorem over : Rows.costBlocksRow.holds Tryd.pinned (OpenSpec.ofChange Rows.costBlocksSpec) :=
  OpenClaim.holds_of_wide 3 Tryd.f3 rfl rfl rfl rfl rfl rfl rfl ⟨rfl, rfl, rfl, rfl, rfl⟩ rfl rfl rfl rfl rfl (by kernel_rfl) Tryd.func3 (by kernel_rfl)
    (of_decide_eq_true (by kernel_rfl)) (by unfold Func.isWrapper; first | (rw [if_pos (by decide +kernel)]; kernel_rfl) | (rw [if_neg (by decide +kernel)]; exact ⟨rfl, rfl⟩))
    (fun os started H enc _ => lifted os started H enc)
/-- the statement: the tied card. -/
theorem proved : Rows.CostBlocksCardSaid :=
  Claim7.holds_tied_plain_at .later [] [.data] true (true, "fcdad785783cefc6c1d75b195ccf91e91d8a240d4d9bedd1e158f0222e4bf5a2") false
    over (fun _ h => by cases h) (by kernel_rfl) (fun _ h => by cases h) costBlocks_row_tie rfl ⟨rfl, rfl⟩ (by kernel_rfl) rfl
    (fun f fn hf hfn => by
      obtain rfl : f = 3 := Option.some.inj ((show Tryd.prog.funcNamed "stepwell/stepwelllaw31.CostBlocks" = some 3 by kernel_rfl).symm.trans hf) |>.symm
      obtain rfl : fn = Tryd.f3 := (Option.some.inj (Tryd.func3.symm.trans hfn)).symm
      exact ⟨by kernel_rfl, fun j t ht => by
        rw [Tryd.params3] at ht
        have hm : t ∈ [28, 30, 3, 35] := by simpa using Array.mem_of_getElem? ht
        have hall : ([28, 30, 3, 35].all fun u => !Tryd.prog.wantsStandIn u) = true := by kernel_rfl
        exact (show Tryd.prog.wantsStandIn t = false by simpa using List.all_eq_true.1 hall t hm)⟩)
    (by kernel_rfl)
end Go.Proofs.YtjhlkmnpfibgaaaDoor.lawCostBlocks
