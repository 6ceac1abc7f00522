/- PoolAll: the mean of each channel, or that there is none, is that of the document; the call returns true and leaves its arguments as they were. No condition. -/
import Derived.Test.YtccngjgbhbeobaaPoolAllC
import Derived.Test.YtccngjgbhbeobaaOpenTensor
import Derived.Deep.CutRange
import Derived.Deep.RegionHeld3
namespace Go.Proofs.Ytccngjgbhbeobaa.lawPoolAll
open Go Go.ChangeShapes Go.WideShapes Go.ChangeAt Go.RowKit Go.Deep
open Plain CSat CShape CTensor CConv CPool
set_option linter.unusedVariables false

theorem I8b_of_mem {zs : List Int} (h : ∀ x ∈ zs, -128 ≤ x ∧ x ≤ 127) : I8b zs := fun q => by
  rw [List.getD_eq_getElem?_getD]
  cases hq : zs[q]? with
  | none => simp
  | some x => simpa using h x (List.mem_of_getElem? hq)
set_option maxRecDepth 100000 in
set_option maxHeartbeats 4000000 in
theorem walk_no {w : World} (H W C : Int) (A : Option Addr) (n c : Nat) (hfew : ¬ n ≤ 1024) :
    Calls Try.prog 5 #[.agg #[.int .i64 H, .int .i64 W, .int .i64 C, .slice A n c]] w fun e w' => e = .returned (.bool true) ∧ Below w.heap.size w w' := by
  have hal : Below w.heap.size w (w.alloc (.cells #[.int .i64 H, .int .i64 W, .int .i64 C, .slice A n c] 29)) := (Below.refl _ _).alloc (Nat.le_refl _) _
  have h3 : (n : Int) > 1024 := by omega
  go_enter Try.func5, Try.ntmps5
  go_wp2_with (go_at_call 9; (refine (known19 _).mono ?_); rintro e w4 ⟨rfl, hb4⟩)
  go_ret
  exact ⟨rfl, hal.trans (hb4.mono hal.size)⟩
set_option maxRecDepth 100000 in
set_option maxHeartbeats 4000000 in
theorem walk_bad {w : World} (H W C : Int) (A : Option Addr) (n c : Nat) (hf1 : n ≤ 1024) (ht : tensB H W C n = false) :
    Calls Try.prog 5 #[.agg #[.int .i64 H, .int .i64 W, .int .i64 C, .slice A n c]] w fun e w' => e = .returned (.bool true) ∧ Below w.heap.size w w' := by
  have HT := Lib.hid ht
  clear ht
  have h3 : ¬ (n : Int) > 1024 := by omega
  go_enter Try.func5, Try.ntmps5
  go_wp2_with (first
    | (go_at_call 14
       have hal : Below w.heap.size w (w.alloc (.cells #[.int .i64 H, .int .i64 W, .int .i64 C, .slice A n c] 29)) := (Below.refl _ _).alloc (by first | exact Nat.le_refl _ | (simp; done) | (simp; omega)) _
       refine (all_bad H W C A n c HT.out _).mono ?_
       rintro e w1 ⟨rfl, hb⟩
       have hh : Below w.heap.size w w1 := hal.trans (hb.mono hal.size)
       have qTB := (boxNew H W C A n c 29) w
       try simp only [World.size_alloc] at qTB
       have TB := Lib.hid (qTB.below (by first | (simp; done) | (simp; omega)) hb)
       have yTB : w.heap.size < w1.heap.size := by have := hb.size; simp at this; omega
       clear qTB
       have HBW : Hid (Below w.heap.size w w1) := Lib.hid hh
       obtain ⟨tbp0, tbp1, tbp2, tbp3⟩ := TB.out
       clear hb hh hal)
    | (go_at_call 15
       have hal : Below w1.heap.size w1 w1 := Below.refl _ _
       refine (refRight_to H W C A n c false HT.out _).mono ?_
       rintro e w2 ⟨rfl, hb⟩
       have hh : Below w1.heap.size w1 w2 := hal.trans (hb.mono hal.size)
       replace TB := Lib.hid (TB.out.below yTB hh)
       replace yTB := Nat.lt_of_lt_of_le yTB hh.size
       replace HBW := Lib.hid (HBW.out.trans (hh.mono HBW.out.size))
       clear tbp0 tbp1 tbp2 tbp3
       obtain ⟨tbp0, tbp1, tbp2, tbp3⟩ := TB.out
       clear hb hh hal)
    | (go_at_call 9
       have hal : Below w2.heap.size w2 w2 := Below.refl _ _
       refine (known19 _).mono ?_
       rintro e w3 ⟨rfl, hb⟩
       have hh : Below w2.heap.size w2 w3 := hal.trans (hb.mono hal.size)
       replace TB := Lib.hid (TB.out.below yTB hh)
       replace yTB := Nat.lt_of_lt_of_le yTB hh.size
       replace HBW := Lib.hid (HBW.out.trans (hh.mono HBW.out.size))
       clear tbp0 tbp1 tbp2 tbp3
       obtain ⟨tbp0, tbp1, tbp2, tbp3⟩ := TB.out
       clear hb hh hal))
  go_ret
  exact ⟨rfl, HBW.out⟩
set_option maxRecDepth 100000 in
set_option maxHeartbeats 8000000 in
theorem walk_yes {w : World} (H W : Int) (d : Nat) (A : Option Addr) (zs : List Int) (n c : Nat) (hn : zs.length = n) (hz : I8b zs) (hf1 : n ≤ 1024) (ht : tensB H W (d : Int) n = true) (hr : Kit.Rd w w.heap.size A (I8s zs)) :
    Calls Try.prog 5 #[.agg #[.int .i64 H, .int .i64 W, .int .i64 (d : Int), .slice A n c]] w fun e w' => e = .returned (.bool true) ∧ Below w.heap.size w w' := by
  obtain ⟨hs, hN⟩ : shapeB H W (d : Int) = true ∧ (n : Int) = H * W * (d : Int) := by simpa [tensB] using ht
  obtain ⟨g1, g2, g3, g4, g5, g6, g7⟩ := shapeB_yes hs
  obtain ⟨hw, hhw⟩ : ∃ hw : Nat, H * W = (hw : Int) := ⟨(H * W).toNat, by have := Int.mul_pos (show 0 < H by omega) (show 0 < W by omega); omega⟩
  have hwd : hw * d = n := by
    have : ((hw * d : Nat) : Int) = (n : Int) := by rw [hN, hhw]; simp
    omega
  obtain ⟨G, hG0⟩ : ∃ G : Nat → Int, G = fun q => IntKind.i8.wrap (nearZ (sumsF zs d n q) (hw : Int)) := ⟨_, rfl⟩
  have hG : ∀ q, G q = IntKind.i8.wrap (nearZ (sumsF zs d n q) (hw : Int)) := fun q => by rw [hG0]
  have hGM : ∀ q, q < d → meanZ (chanK zs d q n) = G q := fun q hq => by
    rw [hG, meanZ_sum, chanK_all zs hq hwd]; rfl
  have hd1 : 1 ≤ d := by omega
  have hd2 : d ≤ 1024 := by omega
  obtain ⟨xs, hxs⟩ : ∃ xs, rowL G d = xs := ⟨_, rfl⟩
  have hxl : xs.length = d := by rw [← hxs]; exact rowL_len _ _
  have hxg : ∀ q, q < d → xs.getD q 0 = G q := fun q hq => by rw [← hxs, rowL_getD, if_pos hq]
  have HT := Lib.hid ht
  have HN := Lib.hid hn
  have HZ := Lib.hid hz
  have HHW := Lib.hid hhw
  have HG := Lib.hid hG
  have HGM := Lib.hid hGM
  have HXL := Lib.hid hxl
  have HXG := Lib.hid hxg
  have HXS := Lib.hid hxs
  have HR := Lib.hid hr
  clear ht hn hz hhw hG0 hG hGM hxl hxg hxs hr hs hN g7 hwd
  have h3 : ¬ (n : Int) > 1024 := by omega
  have hd0 : ¬ d = 0 := by omega
  go_enter Try.func5, Try.ntmps5
  go_wp2_with (first
    | (go_at_call 14
       have hal : Below w.heap.size w (w.alloc (.cells #[.int .i64 H, .int .i64 W, .int .i64 (d : Int), .slice A n c] 29)) := (Below.refl _ _).alloc (by first | exact Nat.le_refl _ | (simp; done) | (simp; omega)) _
       refine (all_yes H W d hw A zs n c HN.out HZ.out HT.out hf1 HHW.out G HG.out _ ((HR.out.below hal).more hal.size)).mono ?_
       rintro e w1 ⟨v1, rfl, ho1, hb⟩
       have hh : Below w.heap.size w w1 := hal.trans (hb.mono hal.size)
       have qTB := (boxNew H W (d : Int) A n c 29) w
       try simp only [World.size_alloc] at qTB
       have TB := Lib.hid (qTB.below (by first | (simp; done) | (simp; omega)) hb)
       have yTB : w.heap.size < w1.heap.size := by have := hb.size; simp at this; omega
       clear qTB
       replace HR := Lib.hid ((HR.out.below hh).more hh.size)
       have HBW : Hid (Below w.heap.size w w1) := Lib.hid hh
       obtain ⟨A1, c1, rfl, -, -, hrd1⟩ := Kit.own_rd ho1
       have RA1 := Lib.hid hrd1
       clear ho1 hrd1
       obtain ⟨tbp0, tbp1, tbp2, tbp3⟩ := TB.out
       clear hb hh hal)
    | (go_at_call 15
       have hal : Below w1.heap.size w1 w1 := Below.refl _ _
       refine (refRight_to H W (d : Int) A n c true HT.out _).mono ?_
       rintro e w2 ⟨rfl, hb⟩
       have hh : Below w1.heap.size w1 w2 := hal.trans (hb.mono hal.size)
       replace TB := Lib.hid (TB.out.below yTB hh)
       replace yTB := Nat.lt_of_lt_of_le yTB hh.size
       replace HR := Lib.hid ((HR.out.below hh).more hh.size)
       replace RA1 := Lib.hid ((RA1.out.below hh).more hh.size)
       replace HBW := Lib.hid (HBW.out.trans (hh.mono HBW.out.size))
       clear tbp0 tbp1 tbp2 tbp3
       obtain ⟨tbp0, tbp1, tbp2, tbp3⟩ := TB.out
       clear hb hh hal))
  rw [HXS.out] at RA1
  go_loopw [5] (fun u wr => ∃ k : Nat, k ≤ d ∧ u = .int .i64 k ∧ Hid (BoxAt w.heap.size H W (d : Int) A n c wr) ∧ Hid (Kit.Rd wr wr.heap.size A (I8s zs)) ∧ Hid (Kit.Rd wr wr.heap.size A1 (I8s xs)) ∧ Hid (Below w.heap.size w wr) ∧ w.heap.size < wr.heap.size) (fun u _ => d - (intOf u).toNat)
  case atStart => exact ⟨0, Nat.zero_le _, rfl, TB, HR, RA1, HBW, yTB⟩
  case round =>
    clear TB HR RA1 HBW yTB tbp0 tbp1 tbp2 tbp3
    obtain ⟨k, hk, rfl, TB, HR, RA1, HBW, yT⟩ := hrel
    obtain ⟨s1, s2, s3, s4⟩ := TB.out
    by_cases hlt : k < d
    · have hk0 : (0 : Int) ≤ (k : Int) := by omega
      have hkI : (k : Int) < (d : Int) := by omega
      have hkN : ¬ (k : Int) ≥ (d : Int) := by omega
      have hdk : decide (d ≤ k) = false := by simp; omega
      have hdk2 : ¬ d ≤ k := by omega
      obtain ⟨b1, o1, rfl, hb1, hcx0⟩ := ints_getD RA1.out (j := 0) (by have := HXL.out; omega)
      have hcx := hcx0 k (by have := HXL.out; omega)
      have hm := HGM.out k hlt
      rw [HXG.out k hlt] at hcx
      generalize G k = x at hcx hm
      have hlb := I8b_of_mem (chanK_mem zs HZ.out d k n)
      have hln := chanK_len zs d k n
      obtain ⟨L, hL⟩ : ∃ L, chanK zs d k n = L := ⟨_, rfl⟩
      rw [hL] at hm hlb hln
      have HL := Lib.hid hL
      have HM := Lib.hid hm
      have HLB := Lib.hid hlb
      have HLN : Hid (L.length ≤ 1000000) := Lib.hid (by omega)
      clear hcx0 hL hm hlb hln
      go_wp2_with fail
      refine wp_region_held_drew (S := fun w' => BoxAt w.heap.size H W (d : Int) A n c w' ∧ w'.cell? ⟨b1, o1 + k, none⟩ = some (.int .i8 x)) (by kernel_rfl) ⟨TB.out, hcx⟩ (fun hHeld => ?_)
      replace HBW : Hid (Below w.heap.size w wr.drew) := Lib.hid HBW.out.drew
      replace HR : Hid (Kit.Rd wr.drew wr.drew.heap.size A (I8s zs)) := Lib.hid (HR.out.below ((Below.refl _ _).drew))
      have RA3 : Hid (Kit.Rd wr.drew wr.drew.heap.size (some ⟨b1, o1, none⟩) (I8s xs)) := Lib.hid (RA1.out.below ((Below.refl _ _).drew))
      replace yT : w.heap.size < wr.drew.heap.size := yT
      replace hb1 : b1 < wr.drew.heap.size := hb1
      clear TB hcx RA1 s1 s2 s3 s4
      generalize wr.drew = V1 at HBW HR RA3 yT hb1 hHeld ⊢
      refine wpAnyH_take (i := 0) (oi := ({ dst := some 36, op := Op.move (Operand.tmp 5), type := 3, pos := "law.go:42", after := #[], guard := none } : Oper)) (v := ?_) rfl (by kernel_rfl) (by kernel_rfl) (by kernel_rfl) (fun _ _ _ h => h) (Or.inl ⟨by rfl, ?_⟩) (by assumption) ?_
      rotate_left
      · intro wS hSw
        first
          | (go_simp; done)
          | (go_simp; with_reducible rfl)
      try simp only [Act.put, List.setIfInBounds_toArray, List.set_cons_zero, List.set_cons_succ]
      refine wpAnyH_take (i := 1) (oi := ({ dst := some 37, op := Op.move (Operand.tmp 3), type := 27, pos := "law.go:42", after := #[], guard := none } : Oper)) (v := ?_) rfl (by kernel_rfl) (by kernel_rfl) (by kernel_rfl) (fun _ _ _ h => h) (Or.inl ⟨by rfl, ?_⟩) (by assumption) ?_
      rotate_left
      · intro wS hSw
        first
          | (go_simp; done)
          | (go_simp; with_reducible rfl)
      try simp only [Act.put, List.setIfInBounds_toArray, List.set_cons_zero, List.set_cons_succ]
      refine wpAnyH_take (i := 2) (oi := ({ dst := some 38, op := Op.call { callee := Callee.builtin Builtin.len, args := #[Operand.tmp 37], argTypes := #[27] }, type := 3, pos := "law.go:42", after := #[{ on := 1, ground := Ground.data }], guard := none } : Oper)) (v := ?_) rfl (by kernel_rfl) (by kernel_rfl) (by kernel_rfl) (fun _ _ _ h => h) (Or.inl ⟨by rfl, ?_⟩) (by assumption) ?_
      rotate_left
      · intro wS hSw
        first
          | (go_simp; done)
          | (go_simp; with_reducible rfl)
      try simp only [Act.put, List.setIfInBounds_toArray, List.set_cons_zero, List.set_cons_succ]
      refine wpAnyH_take (i := 3) (oi := ({ dst := some 39, op := Op.binOp BinOp.geq 3 (Operand.tmp 36) (Operand.tmp 38) 3, type := 4, pos := "law.go:42", after := #[{ on := 0, ground := Ground.data }, { on := 2, ground := Ground.data }], guard := none } : Oper)) (v := ?_) rfl (by kernel_rfl) (by kernel_rfl) (by kernel_rfl) (fun _ _ _ h => h) (Or.inl ⟨by rfl, ?_⟩) (by assumption) ?_
      rotate_left
      · intro wS hSw
        first
          | (go_simp; done)
          | (go_simp; with_reducible rfl)
      try simp only [Act.put, List.setIfInBounds_toArray, List.set_cons_zero, List.set_cons_succ]
      refine wpAnyH_take (i := 4) (oi := ({ dst := some 40, op := Op.move (Operand.tmp 39), type := 4, pos := "law.go:42", after := #[{ on := 3, ground := Ground.data }], guard := none } : Oper)) (v := ?_) rfl (by kernel_rfl) (by kernel_rfl) (by kernel_rfl) (fun _ _ _ h => h) (Or.inl ⟨by rfl, ?_⟩) (by assumption) ?_
      rotate_left
      · intro wS hSw
        first
          | (go_simp; done)
          | (go_simp; with_reducible rfl)
      try simp only [Act.put, List.setIfInBounds_toArray, List.set_cons_zero, List.set_cons_succ]
      refine wpAnyH_take (i := 5) (oi := ({ dst := some 41, op := Op.move (Operand.tmp 3), type := 27, pos := "law.go:42", after := #[{ on := 4, ground := Ground.guard }], guard := some (4, false) } : Oper)) (v := ?_) rfl (by kernel_rfl) (by kernel_rfl) (by kernel_rfl) (fun _ _ _ h => h) (Or.inl ⟨by rfl, ?_⟩) (by assumption) ?_
      rotate_left
      · intro wS hSw
        first
          | (go_simp; done)
          | (go_simp; with_reducible rfl)
      try simp only [Act.put, List.setIfInBounds_toArray, List.set_cons_zero, List.set_cons_succ]
      refine wpAnyH_take (i := 6) (oi := ({ dst := some 42, op := Op.move (Operand.tmp 5), type := 3, pos := "law.go:42", after := #[{ on := 4, ground := Ground.guard }], guard := some (4, false) } : Oper)) (v := ?_) rfl (by kernel_rfl) (by kernel_rfl) (by kernel_rfl) (fun _ _ _ h => h) (Or.inl ⟨by rfl, ?_⟩) (by assumption) ?_
      rotate_left
      · intro wS hSw
        first
          | (go_simp; done)
          | (go_simp; with_reducible rfl)
      try simp only [Act.put, List.setIfInBounds_toArray, List.set_cons_zero, List.set_cons_succ]
      refine wpAnyH_take (i := 7) (oi := ({ dst := some 43, op := Op.indexAddr 27 (Operand.tmp 41) (Operand.tmp 42), type := 0, pos := "law.go:42", after := #[{ on := 5, ground := Ground.data }, { on := 6, ground := Ground.data }, { on := 4, ground := Ground.guard }], guard := some (4, false) } : Oper)) (v := ?_) rfl (by kernel_rfl) (by kernel_rfl) (by kernel_rfl) (fun _ _ _ h => h) (Or.inl ⟨by rfl, ?_⟩) (by assumption) ?_
      rotate_left
      · intro wS hSw
        first
          | (go_simp; done)
          | (go_simp; with_reducible rfl)
      try simp only [Act.put, List.setIfInBounds_toArray, List.set_cons_zero, List.set_cons_succ]
      refine wpAnyH_take (i := 8) (oi := ({ dst := some 44, op := Op.load 30 (Operand.tmp 43), type := 30, pos := "law.go:42", after := #[{ on := 7, ground := Ground.data }, { on := 4, ground := Ground.guard }], guard := some (4, false) } : Oper)) (v := ?_) rfl (by kernel_rfl) (by kernel_rfl) (by kernel_rfl) (fun _ _ _ h => h) (Or.inl ⟨by rfl, ?_⟩) (by assumption) ?_
      rotate_left
      · intro wS hSw
        obtain ⟨hq1, hq2⟩ := hSw
        obtain ⟨z1, z2, z3, z4⟩ := hq1
        first
          | (go_simp; done)
          | (go_simp; with_reducible rfl)
      try simp only [Act.put, List.setIfInBounds_toArray, List.set_cons_zero, List.set_cons_succ]
      refine wpAnyH_take (i := 9) (oi := ({ dst := some 45, op := Op.load 29 (Operand.tmp 1), type := 29, pos := "law.go:42", after := #[{ on := 4, ground := Ground.guard }], guard := some (4, false) } : Oper)) (v := ?_) rfl (by kernel_rfl) (by kernel_rfl) (by kernel_rfl) (fun _ _ _ h => h) (Or.inl ⟨by rfl, ?_⟩) (by assumption) ?_
      rotate_left
      · intro wS hSw
        obtain ⟨hq1, hq2⟩ := hSw
        obtain ⟨z1, z2, z3, z4⟩ := hq1
        first
          | (go_simp; done)
          | (go_simp; with_reducible rfl)
      try simp only [Act.put, List.setIfInBounds_toArray, List.set_cons_zero, List.set_cons_succ]
      refine wpAnyH_take (i := 10) (oi := ({ dst := some 46, op := Op.move (Operand.tmp 5), type := 3, pos := "law.go:42", after := #[{ on := 4, ground := Ground.guard }], guard := some (4, false) } : Oper)) (v := ?_) rfl (by kernel_rfl) (by kernel_rfl) (by kernel_rfl) (fun _ _ _ h => h) (Or.inl ⟨by rfl, ?_⟩) (by assumption) ?_
      rotate_left
      · intro wS hSw
        first
          | (go_simp; done)
          | (go_simp; with_reducible rfl)
      try simp only [Act.put, List.setIfInBounds_toArray, List.set_cons_zero, List.set_cons_succ]
      refine wpAnyH_ready (rs := [11]) (by kernel_rfl) (by simp) ?_
      refine AllReadyH.cons (o := ({ dst := some 47, op := Op.call { callee := Callee.value (Operand.func 17), args := #[Operand.tmp 45, Operand.tmp 46], argTypes := #[29, 3] }, type := 27, pos := "law.go:42", after := #[{ on := 9, ground := Ground.data }, { on := 10, ground := Ground.data }, { on := 4, ground := Ground.chain }, { on := 4, ground := Ground.guard }], guard := some (4, false) } : Oper)) rfl (fun Kq hK => ?_) (AllReadyH.nil)
      go_simp
      go_at_call 17
      refine (chan_to H W d k A zs n c HN.out hf1 HT.out hlt L HL.out _ HR.out).mono ?_
      rintro e V2 ⟨v2, rfl, ho2, hb2⟩
      have hS1 : BoxAt w.heap.size H W (d : Int) A n c V2 ∧ V2.cell? ⟨b1, o1 + k, none⟩ = some (.int .i8 x) := ⟨hHeld.1.below yT hb2, (hb2.cell (p := ⟨b1, o1 + k, none⟩) hb1).trans hHeld.2⟩
      obtain ⟨A2, c2, rfl, -, -, hrd2⟩ := Kit.own_rd ho2
      have RA2 := Lib.hid hrd2
      replace HBW := Lib.hid (HBW.out.trans (hb2.mono HBW.out.size))
      replace HR := Lib.hid ((HR.out.below hb2).more hb2.size)
      replace RA3 := Lib.hid ((RA3.out.below hb2).more hb2.size)
      replace yT := Nat.lt_of_lt_of_le yT hb2.size
      replace hb1 := Nat.lt_of_lt_of_le hb1 hb2.size
      clear hHeld hb2 ho2 hrd2
      dsimp only
      refine hK.out _ _ ?_ (fun hHeld => ?_)
      · exact hS1
      clear hK Kq
      try simp only [Act.put, List.setIfInBounds_toArray, List.set_cons_zero, List.set_cons_succ]
      refine wpAnyH_ready (rs := [12]) (by kernel_rfl) (by simp) ?_
      refine AllReadyH.cons (o := ({ dst := some 48, op := Op.call { callee := Callee.value (Operand.func 16), args := #[Operand.tmp 47], argTypes := #[27] }, type := 30, pos := "law.go:42", after := #[{ on := 11, ground := Ground.data }, { on := 11, ground := Ground.chain }, { on := 4, ground := Ground.guard }], guard := some (4, false) } : Oper)) rfl (fun Kq hK => ?_) (AllReadyH.nil)
      go_simp
      go_at_call 16
      refine (refMean_x A2 L L.length c2 rfl HLN.out HLB.out x HM.out _ RA2.out).mono ?_
      rintro e V3 ⟨rfl, nq, hV3⟩
      have hbq : Below V2.heap.size V2 V3 := by rw [hV3]; exact Kit.below_drewN (Below.refl _ _) nq
      clear hV3
      have hS1 : BoxAt w.heap.size H W (d : Int) A n c V3 ∧ V3.cell? ⟨b1, o1 + k, none⟩ = some (.int .i8 x) := ⟨hHeld.1.below yT hbq, (hbq.cell (p := ⟨b1, o1 + k, none⟩) hb1).trans hHeld.2⟩
      replace HBW := Lib.hid (HBW.out.trans (hbq.mono HBW.out.size))
      replace HR := Lib.hid ((HR.out.below hbq).more hbq.size)
      replace RA3 := Lib.hid ((RA3.out.below hbq).more hbq.size)
      replace yT := Nat.lt_of_lt_of_le yT hbq.size
      clear hHeld hbq RA2 hb1
      dsimp only
      refine hK.out _ _ ?_ (fun hHeld => ?_)
      · exact hS1
      clear hK Kq
      try simp only [Act.put, List.setIfInBounds_toArray, List.set_cons_zero, List.set_cons_succ]
      refine wpAnyH_take (i := 13) (oi := ({ dst := some 49, op := Op.binOp BinOp.neq 30 (Operand.tmp 44) (Operand.tmp 48) 30, type := 4, pos := "law.go:42", after := #[{ on := 8, ground := Ground.data }, { on := 12, ground := Ground.data }, { on := 4, ground := Ground.guard }], guard := some (4, false) } : Oper)) (v := ?_) rfl (by kernel_rfl) (by kernel_rfl) (by kernel_rfl) (fun _ _ _ h => h) (Or.inl ⟨by rfl, ?_⟩) (by assumption) ?_
      rotate_left
      · intro wS hSw
        first
          | (go_simp; done)
          | (go_simp; with_reducible rfl)
      try simp only [Act.put, List.setIfInBounds_toArray, List.set_cons_zero, List.set_cons_succ]
      refine wpAnyH_take (i := 14) (oi := ({ dst := some 50, op := Op.pick (Operand.tmp 40) (Operand.const (Value.bool true)) (Operand.tmp 49), type := 4, pos := "law.go:42", after := #[{ on := 4, ground := Ground.data }, { on := 13, ground := Ground.data }], guard := none } : Oper)) (v := ?_) rfl (by kernel_rfl) (by kernel_rfl) (by kernel_rfl) (fun _ _ _ h => h) (Or.inl ⟨by rfl, ?_⟩) (by assumption) ?_
      rotate_left
      · intro wS hSw
        first
          | (go_simp; done)
          | (go_simp; with_reducible rfl)
      try simp only [Act.put, List.setIfInBounds_toArray, List.set_cons_zero, List.set_cons_succ]
      refine wpAnyH_done (by kernel_rfl) ?_ _
      have HTB := Lib.hid hHeld.1
      clear hHeld
      go_wp2_with fail
      go_roundw
      case rel => exact ⟨k + 1, by omega, by go_num, HTB, HR, RA3, HBW, yT⟩
      case measure => simp [intOf]; omega
    · obtain rfl : k = d := by omega
      go_wp2_with (go_at_call 9; (refine (known19 _).mono ?_); rintro e w9 ⟨rfl, hb9⟩)
      go_ret
      exact ⟨rfl, HBW.out.trans (hb9.mono HBW.out.size)⟩
theorem walk {w : World} (H : Int) (wH : (Lit.int .i64 H).wf = true) (W : Int) (wW : (Lit.int .i64 W).wf = true) (C : Int) (wC : (Lit.int .i64 C).wf = true) (A : Option Addr) (zs : List Int) (c : Nat) (hc : zs.length ≤ c) (hm : c ≤ maxLen) (hw : ∀ n ∈ zs, (Lit.int .i8 n).wf = true) (hr : Kit.Rd w w.heap.size A (zs.map (.int .i8))) :
    Calls Try.prog 5 #[.agg #[.int .i64 H, .int .i64 W, .int .i64 C, .slice A zs.length c]] w fun e w' => e = .returned (.bool true) ∧ Below w.heap.size w w' := by
  by_cases hf : zs.length ≤ 1024
  · cases ht : tensB H W C zs.length
    · exact walk_bad H W C A _ c hf ht
    · obtain ⟨d, hd⟩ : ∃ d : Nat, C = (d : Int) := ⟨C.toNat, by
        obtain ⟨hs, -⟩ : shapeB H W C = true ∧ (zs.length : Int) = H * W * C := by simpa [tensB] using ht
        obtain ⟨g1, g2, g3, g4, g5, g6, g7⟩ := shapeB_yes hs
        omega⟩
      subst hd
      exact walk_yes H W d A zs _ c rfl (i8b_of hw) hf ht hr
  · exact walk_no H W C A _ c hf
/-! ### the frame: written by program -/
theorem own : ownKnob Try.prog.godebug = none := by kernel_rfl
theorem laid : laidOutB Try.prog = true := by kernel_rfl
theorem contract {H : Type} {enc : TypeId × Value → H} {W : World} {base : Nat} {args : Array Value} {ds gs : List (DataW H)} {before : List MemPlace}
    (hval0 : ∀ (j : Nat) t v, Try.f5.params[j]? = some t → args[j]? = some v → Value.okWide Try.prog W .any base t v)
    (hW : DataW.Whole enc Try.prog Try.f5.params.toList Rows.poolAllSpec.vars false W args.toList ds gs before) :
    Calls Try.prog 5 args W fun e W' => e = .returned (.bool true) ∧ Below W.heap.size W W' := by
  have hval : ∀ (j : Nat) t v, Try.f5.params[j]? = some t → args[j]? = some v → Value.okWide Try.prog W .any base t v := hval0
  obtain ⟨p, q, hA0, hV, rfl, hfz, hnd⟩ := hW
  have hA : DataW.TrodAll enc Try.prog W 0 (fun _ => true) true Try.f5.params.toList args.toList ds p := hA0
  rw [Try.params5] at hA hval
  obtain ⟨v0, vs0, d0, ds0, p0, q0, hargs, rfl, rfl, h0, r0⟩ := trodAll_cons hA
  obtain ⟨rfl, rfl, rfl⟩ := trodAll_nil r0
  obtain rfl : args = #[v0] := by cases args; simp_all
  clear hA0 hval0
  obtain ⟨x0, y0, t0, A0, z0, c0, rfl, wx0, wy0, wt0, hc0, hm0, hw0, hr0⟩ := Kit.open_tensor (s := 26) (d := 27) (e := 30) (i := 3) Try.underlying29 Try.underlying26 Try.underlying27 Try.underlying30 Try.underlying3 (by kernel_rfl) (by kernel_rfl) (by kernel_rfl) (by kernel_rfl) (by kernel_rfl) ⟨rfl, rfl, rfl, rfl⟩ ⟨rfl, rfl, rfl, rfl, rfl, rfl⟩ (hval 0 29 v0 rfl rfl) h0
  exact walk (w := W) x0 wx0 y0 wy0 t0 wt0 A0 z0 c0 hc0 hm0 hw0 hr0
theorem fnIs {H : Type} : ∀ ds : List (DataW H), ds.length = Try.f5.params.toList.length → Rows.poolAllSpec.fn H ds = { results := [.lit (.bool true)], args := ds } := by
  intro ds h
  rw [Try.params5] at h
  match ds, h with
  | [d1], _ => rfl
set_option maxRecDepth 100000 in
theorem lifted (os : Os) (started : os.Started) (H : Type) (enc : TypeId × Value → H) :
    ReturnsInHanded {} Try.checked os 5 .any (Rows.poolAllSpec.pre6 enc Try.prog Try.f5 Rows.poolAllRow.domain false) (Rows.poolAllSpec.post enc Try.prog Try.f5 false true false false) := by
  refine returnsInHanded_of_change (C := Try.checked) own started (by kernel_rfl) Try.func5
    (ChangeSpec.witness6 (enc := enc) (C := Try.checked) false ⟨#[], #[.agg #[.int .i64 0, .int .i64 0, .int .i64 0, .slice none 0 0]], []⟩ 8 (by kernel_rfl) (by kernel_rfl) (by kernel_rfl) (by kernel_rfl)) ?_
  intro W base args ds gs before hval hW _ _
  refine (contract hval hW).mono fun e W' ⟨he, hg⟩ => ?_
  subst he
  exact ⟨_, rfl, Kit.law_post (tb := 4) laid (by kernel_rfl) rfl (by kernel_rfl) Try.underlying4 fnIs hW hg⟩
theorem over : Rows.poolAllRow.holds Try.pinned (OpenSpec.ofChange Rows.poolAllSpec) :=
  OpenClaim.holds_of_wide 5 Try.f5 rfl rfl rfl rfl rfl rfl rfl ⟨rfl, rfl, rfl, rfl, rfl⟩ rfl rfl rfl rfl rfl (by kernel_rfl) Try.func5 (by kernel_rfl)
    (of_decide_eq_true (by kernel_rfl)) (by unfold Func.isWrapper; first | (rw [if_pos (by decide +kernel)]; kernel_rfl) | (rw [if_neg (by decide +kernel)]; exact ⟨rfl, rfl⟩))
    (fun os started H enc _ => lifted os started H enc)
/-- the statement. -/
theorem proved : Rows.PoolAllSaid :=
  over
end Go.Proofs.Ytccngjgbhbeobaa.lawPoolAll
