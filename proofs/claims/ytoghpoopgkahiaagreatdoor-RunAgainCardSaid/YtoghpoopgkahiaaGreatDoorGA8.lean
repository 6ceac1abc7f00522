/- Texts of this seat, one behind the other: ShapeRefTwo, Tensor, TensorTwo, PadRef. -/
import Derived.OrdersHeld
import Derived.Deep.RegionHeld3
import Derived.Lib.SliceRun
import Derived.Laws.StructEq
import Derived.Test.YtoghpoopgkahiaaGreatDoorGA4
import Derived.Test.YtoghpoopgkahiaaGreatDoorGA5
import Derived.Test.YtoghpoopgkahiaaGreatDoorGA7
section
namespace Go.Proofs.YtoghpoopgkahiaaGreatDoor.CShape
open Go Go.ChangeShapes Go.WideShapes Go.ChangeAt Go.RowKit
open Plain CSat
set_option linter.unusedVariables false
/-- the position, or none. -/
def indexZ (H W C h w c z : Int) : Int := if inB H W C h w c then (h * W + w) * C + c else z
theorem indexZ_yes {H W C h w c z : Int} (hs : inB H W C h w c = true) : indexZ H W C h w c z = (h * W + w) * C + c := by unfold indexZ; rw [if_pos hs]
theorem indexZ_no {H W C h w c z : Int} (hs : inB H W C h w c = false) : indexZ H W C h w c z = z := by unfold indexZ; rw [if_neg (by simp [hs])]
theorem index_to (H W C h w c r : Int) (b : Bool) (hs : inB H W C h w c = b) (hr : indexZ H W C h w c 0 = r) (wd : World) :
    Calls Tryz.prog 133 #[.agg #[.int .i64 H, .int .i64 W, .int .i64 C], .int .i64 h, .int .i64 w, .int .i64 c] wd fun e w' => e = .returned (.tuple #[.int .i64 r, .bool b]) ∧ Below wd.heap.size wd w' := by
  subst hr
  cases b
  · rw [indexZ_no hs]; exact index_no H W C h w c hs wd
  · rw [indexZ_yes hs]
    simp only [inB, Bool.and_eq_true, decide_eq_true_eq] at hs
    obtain ⟨h0, h1, h2, h3, h4, h5, h6⟩ := hs
    exact index_yes H W C h w c _ h0 h1 h2 h3 h4 h5 h6 rfl wd
end Go.Proofs.YtoghpoopgkahiaaGreatDoor.CShape
end
section
namespace Go.Proofs.YtoghpoopgkahiaaGreatDoor.CTensor
open Go Go.ChangeShapes Go.WideShapes Go.ChangeAt Go.RowKit
open Plain CSat CShape
set_option linter.unusedVariables false
def I8s (zs : List Int) : List Value := zs.map (.int .i8)
/-- what is handed back: a list of the call's own; nothing that was there has turned. -/
def Owned (w : World) (n : Nat) (xs : List Value) (e : Ending) (w' : World) : Prop :=
  ∃ v, e = .returned v ∧ w'.ownsRow w.heap.size 22 1 v n xs ∧ Below w.heap.size w w'
theorem info_i8 : (Tryz.prog.info? 22).map (fun i => (i.zero, i.size, i.bytes)) = some (some (.int .i8 0), 1, 1) := by kernel_rfl
theorem sclone (A : Option Addr) (zs : List Int) (n c : Nat) (hn : zs.length = n) (hl : n ≤ 1000000) {B : Nat} (w : World) (hB : B ≤ w.heap.size) (hr : Kit.Rd w B A (zs.map (.int .i8))) :
    Calls Tryz.prog 143 #[.slice A n c] w (Owned w n (I8s zs)) := by
  have HN := Lib.hid hn
  have HR := Lib.hid hr
  have qn : ∀ (w : World) (a : Option Addr) (n c n' c' : Nat), (binOp .eql 23 (.slice a n c) (.slice none n' c')).run Tryz.prog w = .ok (.bool a.isNone) w := fun w a n c n' c' => Lib.run_eql_slice_nil w _ _ a n c n' c' Tryz.underlying23
  cases A with
  | none =>
    have hz : zs = [] := by
      cases zs with
      | nil => rfl
      | cons z zs => obtain ⟨b, off, h, _⟩ := hr.plain (by simp); cases h
    subst hz
    have h0 : n = 0 := by simpa using hn.symm
    subst h0
    clear hn hr HN HR
    go_enter Tryz.func143, Tryz.ntmps143
    go_wp2
    go_ret
    exact ⟨_, rfl, ⟨by simp [I8s], .inl ⟨rfl, rfl⟩⟩, Below.refl _ _⟩
  | some ad =>
    clear hn hr
    go_enter Tryz.func143, Tryz.ntmps143
    obtain ⟨i0, hi0, hi1, hi2, hi3⟩ := info_parts info_i8
    go_wp2_with (at_builtin; refine Kit.wpList_append_rd _ rfl (.tmp 5) (.tmp 6) _ rfl w.heap.size 22 i0 (.int .i8 0) 1 1 Tryz.underlying23 hi0 hi1 hi2 hi3 rfl (by decide) (.slice (some ⟨_, 0, none⟩) 0 0) 0 [] rfl (World.ownsRow_lit _ #[] 0 (Nat.le_refl _) (Nat.zero_le _) rfl) _ _ n _ (I8s zs) rfl (by simp [I8s, HN.out]) (HR.out.alloc hB _) (Kit.ints_one .i8 zs) (by unfold maxLen; omega) (by omega) (by simp) ?_; intro v1 w1 hown1 hg1 hat1; replace hown1 : w1.ownsRow w.heap.size 22 1 v1 n (I8s zs) := (by simpa using hown1); have HO := Lib.hid hown1; have HX := Lib.hid (((Below.refl _ w).alloc (Nat.le_refl _) (.cells #[] 22)).grown hg1 (by simp) (fun q hq => by simp [Value.ownBlock] at hq; omega)); clear hown1 hg1 hat1)
    go_ret
    exact ⟨_, rfl, HO.out, HX.out⟩
/-- is a tensor right? -/
def tensB (H W C : Int) (n : Nat) : Bool := shapeB H W C && decide ((n : Int) = H * W * C)
/-- the box of a tensor, in whatever world. -/
def BoxAt (B : Nat) (H W C : Int) (A : Option Addr) (n c : Nat) (wd : World) : Prop :=
  wd.cell? ⟨B, 0, none⟩ = some (.int .i64 H) ∧ wd.cell? ⟨B, 1, none⟩ = some (.int .i64 W) ∧ wd.cell? ⟨B, 2, none⟩ = some (.int .i64 C) ∧ wd.cell? ⟨B, 3, none⟩ = some (.slice A n c)
theorem BoxAt.new (H W C : Int) (A : Option Addr) (n c : Nat) (T : TypeId) (w : World) : BoxAt w.heap.size H W C A n c (w.alloc (.cells #[.int .i64 H, .int .i64 W, .int .i64 C, .slice A n c] T)).drew :=
  ⟨Kit.new_cell _ _ _ _, Kit.new_cell _ _ _ _, Kit.new_cell _ _ _ _, Kit.new_cell _ _ _ _⟩
theorem BoxAt.below {B B' : Nat} {H W C : Int} {A : Option Addr} {n c : Nat} {w w' : World} (h : BoxAt B H W C A n c w) (hB : B < B') (hb : Below B' w w') : BoxAt B H W C A n c w' :=
  ⟨(hb.cell (p := ⟨B, 0, none⟩) hB).trans h.1, (hb.cell (p := ⟨B, 1, none⟩) hB).trans h.2.1, (hb.cell (p := ⟨B, 2, none⟩) hB).trans h.2.2.1, (hb.cell (p := ⟨B, 3, none⟩) hB).trans h.2.2.2⟩
theorem tens_eq {H W C m : Int} {n : Nat} {b : Bool} (hm : elemsZ H W C = m) (hb : tensB H W C n = b) : (if shapeB H W C = true then 0 < m ∧ ((n : Int) == m) = b else m = 0 ∧ false = b) := by
  cases hr : shapeB H W C
  · rw [elemsZ_no hr] at hm
    subst hm hb
    simp [tensB, hr]
  · have := elemsZ_pos H W C
    rw [hr, hm] at this
    rw [elemsZ_yes hr] at hm
    subst hb
    simp at this
    rw [if_pos rfl]
    refine ⟨this, ?_⟩
    rw [tensB, hr, hm, Bool.true_and]
    rfl
theorem right_to (H W C : Int) (A : Option Addr) (n c : Nat) (b : Bool) (hb : tensB H W C n = b) (w : World) :
    Calls Tryz.prog 17 #[.agg #[.int .i64 H, .int .i64 W, .int .i64 C, .slice A n c]] w fun e w' => e = .returned (.bool b) ∧ Below w.heap.size w w' := by
  obtain ⟨m, hm⟩ : ∃ m, elemsZ H W C = m := ⟨_, rfl⟩
  have hT := tens_eq (n := n) hm hb
  have HM := Lib.hid hm
  have HB0 := Lib.hid (((Below.refl w.heap.size w).alloc (Nat.le_refl _) (.cells #[.int .i64 H, .int .i64 W, .int .i64 C, .slice A n c] 32)).drew)
  cases hr : shapeB H W C
  all_goals
    have HR := Lib.hid hr
    rw [hr] at hT
    clear hr hb hm
  · obtain ⟨h0, rfl⟩ := hT
    have HM0 := HM.out
    go_enter Tryz.func17, Tryz.ntmps17
    go_wp2_with fail
    refine wp_region_held_drew (S := BoxAt w.heap.size H W C A n c) (by kernel_rfl) (BoxAt.new _ _ _ _ _ _ _ _) (fun hHeld => ?_)
    refine Tk.y 0 (v := ?_) rfl ?_ ?_
    rotate_left
    · intro wS hSw
      obtain ⟨s1, s2, s3, s4⟩ := hSw
      first | (go_simp; done) | (go_simp; with_reducible rfl)
    try simp only [Tk.put]
    refine Tk.y 1 (v := ?_) rfl ?_ ?_
    rotate_left
    · intro wS hSw
      obtain ⟨s1, s2, s3, s4⟩ := hSw
      first | (go_simp; done) | (go_simp; with_reducible rfl)
    try simp only [Tk.put]
    refine Tk.s 2 rfl (fun K hK => ?_)
    go_simp
    go_at_call 51
    refine (CShape.right_to H W C false HR.out _).mono ?_
    rintro e w1 ⟨rfl, hb1⟩
    have hS1 := hHeld.below (by first | (simp; done) | assumption) hb1
    have hz1 : w.heap.size < w1.heap.size := by have := hb1.size; first | omega | (simp at this; omega)
    have HB1 := Lib.hid (HB0.out.trans (hb1.mono HB0.out.size))
    clear hb1 hHeld
    dsimp only
    refine hK.out _ _ ?_ (fun hHeld => ?_)
    · exact hS1
    clear hK K
    try simp only [Tk.put]
    refine Tk.x 3 rfl ?_
    try simp only [Tk.put]
    refine Tk.t 4 (v := undef) rfl (Or.inr ⟨by rfl, rfl⟩) (by assumption) ?_
    try simp only [Tk.put]
    refine Tk.t 5 (v := undef) rfl (Or.inr ⟨by rfl, rfl⟩) (by assumption) ?_
    try simp only [Tk.put]
    refine Tk.t 6 (v := undef) rfl (Or.inr ⟨by rfl, rfl⟩) (by assumption) ?_
    try simp only [Tk.put]
    refine Tk.t 7 (v := undef) rfl (Or.inr ⟨by rfl, rfl⟩) (by assumption) ?_
    try simp only [Tk.put]
    refine Tk.t 8 (v := undef) rfl (Or.inr ⟨by rfl, rfl⟩) (by assumption) ?_
    try simp only [Tk.put]
    refine Tk.t 9 (v := undef) rfl (Or.inr ⟨by rfl, rfl⟩) (by assumption) ?_
    try simp only [Tk.put]
    refine Tk.t 10 (v := undef) rfl (Or.inr ⟨by rfl, rfl⟩) (by assumption) ?_
    try simp only [Tk.put]
    refine Tk.x 11 rfl ?_
    try simp only [Tk.put]
    refine Tk.x 12 rfl ?_
    try simp only [Tk.put]
    refine wpAnyH_done (by kernel_rfl) ?_ _
    go_wp2
    go_ret
    exact ⟨rfl, HB1.out⟩
  · obtain ⟨h0, rfl⟩ := hT
    go_enter Tryz.func17, Tryz.ntmps17
    go_wp2_with fail
    refine wp_region_held_drew (S := BoxAt w.heap.size H W C A n c) (by kernel_rfl) (BoxAt.new _ _ _ _ _ _ _ _) (fun hHeld => ?_)
    refine Tk.y 0 (v := ?_) rfl ?_ ?_
    rotate_left
    · intro wS hSw
      obtain ⟨s1, s2, s3, s4⟩ := hSw
      first | (go_simp; done) | (go_simp; with_reducible rfl)
    try simp only [Tk.put]
    refine Tk.y 1 (v := ?_) rfl ?_ ?_
    rotate_left
    · intro wS hSw
      obtain ⟨s1, s2, s3, s4⟩ := hSw
      first | (go_simp; done) | (go_simp; with_reducible rfl)
    try simp only [Tk.put]
    refine Tk.s 2 rfl (fun K hK => ?_)
    go_simp
    go_at_call 51
    refine (CShape.right_to H W C true HR.out _).mono ?_
    rintro e w1 ⟨rfl, hb1⟩
    have hS1 := hHeld.below (by first | (simp; done) | assumption) hb1
    have hz1 : w.heap.size < w1.heap.size := by have := hb1.size; first | omega | (simp at this; omega)
    have HB1 := Lib.hid (HB0.out.trans (hb1.mono HB0.out.size))
    clear hb1 hHeld
    dsimp only
    refine hK.out _ _ ?_ (fun hHeld => ?_)
    · exact hS1
    clear hK K
    try simp only [Tk.put]
    refine Tk.x 3 rfl ?_
    try simp only [Tk.put]
    refine Tk.y 4 (v := ?_) rfl ?_ ?_
    rotate_left
    · intro wS hSw
      obtain ⟨s1, s2, s3, s4⟩ := hSw
      first | (go_simp; done) | (go_simp; with_reducible rfl)
    try simp only [Tk.put]
    refine Tk.y 5 (v := ?_) rfl ?_ ?_
    rotate_left
    · intro wS hSw
      obtain ⟨s1, s2, s3, s4⟩ := hSw
      first | (go_simp; done) | (go_simp; with_reducible rfl)
    try simp only [Tk.put]
    refine Tk.y 6 (v := ?_) rfl ?_ ?_
    rotate_left
    · intro wS hSw
      obtain ⟨s1, s2, s3, s4⟩ := hSw
      first | (go_simp; done) | (go_simp; with_reducible rfl)
    try simp only [Tk.put]
    refine Tk.y 7 (v := ?_) rfl ?_ ?_
    rotate_left
    · intro wS hSw
      obtain ⟨s1, s2, s3, s4⟩ := hSw
      first | (go_simp; done) | (go_simp; with_reducible rfl)
    try simp only [Tk.put]
    refine Tk.y 8 (v := ?_) rfl ?_ ?_
    rotate_left
    · intro wS hSw
      obtain ⟨s1, s2, s3, s4⟩ := hSw
      first | (go_simp; done) | (go_simp; with_reducible rfl)
    try simp only [Tk.put]
    refine Tk.s 9 rfl (fun K hK => ?_)
    go_simp
    go_at_call 52
    refine (CShape.elems_to H W C m HM.out _).mono ?_
    rintro e w2 ⟨rfl, hb2⟩
    have hS2 := hHeld.below (by first | (simp; done) | assumption) hb2
    have hz2 : w.heap.size < w2.heap.size := by have := hb2.size; first | omega | (simp at this; omega)
    have HB2 := Lib.hid (HB1.out.trans (hb2.mono HB1.out.size))
    clear hb2 hHeld
    dsimp only
    refine hK.out _ _ ?_ (fun hHeld => ?_)
    · exact hS2
    clear hK K
    try simp only [Tk.put]
    refine Tk.x 10 rfl ?_
    try simp only [Tk.put]
    refine Tk.x 11 rfl ?_
    try simp only [Tk.put]
    refine Tk.x 12 rfl ?_
    try simp only [Tk.put]
    refine wpAnyH_done (by kernel_rfl) ?_ _
    go_wp2
    go_ret
    exact ⟨rfl, HB2.out⟩
end Go.Proofs.YtoghpoopgkahiaaGreatDoor.CTensor
end
section
namespace Go.Proofs.YtoghpoopgkahiaaGreatDoor.CTensor
open Go Go.ChangeShapes Go.WideShapes Go.ChangeAt Go.RowKit
open Plain CSat CShape
set_option linter.unusedVariables false
/-- a block for a tensor, as it is made. -/
def FreshT (B : Nat) (wd : World) : Prop :=
  (wd.cell? ⟨B, 0, none⟩ = some (.int .i64 0) ∧ wd.cell? ⟨B, 1, none⟩ = some (.int .i64 0) ∧ wd.cell? ⟨B, 2, none⟩ = some (.int .i64 0) ∧ wd.cell? ⟨B, 3, none⟩ = some (.slice none 0 0)) ∧
  wd.frozen? ⟨B, 0, none⟩ = false ∧ wd.frozen? ⟨B, 1, none⟩ = false ∧ wd.frozen? ⟨B, 2, none⟩ = false ∧ wd.frozen? ⟨B, 3, none⟩ = false
theorem FreshT.new (T : TypeId) (w : World) (B : Nat) (hB : B = w.heap.size) : FreshT B (w.alloc (.cells #[.int .i64 0, .int .i64 0, .int .i64 0, .slice none 0 0] T)) := by
  subst hB
  exact ⟨⟨Kit.new_cell _ _ _ _, Kit.new_cell _ _ _ _, Kit.new_cell _ _ _ _, Kit.new_cell _ _ _ _⟩, World.frozen?_alloc_at _ _ _ _ rfl, World.frozen?_alloc_at _ _ _ _ rfl, World.frozen?_alloc_at _ _ _ _ rfl, World.frozen?_alloc_at _ _ _ _ rfl⟩
theorem FreshT.below {B B' : Nat} {w w' : World} (h : FreshT B w) (hB : B < B') (hb : Below B' w w') : FreshT B w' := by
  obtain ⟨⟨h1, h2, h3, h4⟩, h5, h6, h7, h8⟩ := h
  exact ⟨⟨(hb.cell (p := ⟨B, 0, none⟩) hB).trans h1, (hb.cell (p := ⟨B, 1, none⟩) hB).trans h2, (hb.cell (p := ⟨B, 2, none⟩) hB).trans h3, (hb.cell (p := ⟨B, 3, none⟩) hB).trans h4⟩,
    (hb.frozen (p := ⟨B, 0, none⟩) hB).trans h5, (hb.frozen (p := ⟨B, 1, none⟩) hB).trans h6, (hb.frozen (p := ⟨B, 2, none⟩) hB).trans h7, (hb.frozen (p := ⟨B, 3, none⟩) hB).trans h8⟩
theorem range_4 {w : World} {b : Nat} {x y z u : Value} (h0 : w.cell? ⟨b, 0, none⟩ = some x) (h1 : w.cell? ⟨b, 1, none⟩ = some y) (h2 : w.cell? ⟨b, 2, none⟩ = some z) (h3 : w.cell? ⟨b, 3, none⟩ = some u) : w.rangeAt b 0 [x, y, z, u] := by
  intro j v hj
  match j, hj with
  | 0, hj => simpa [← hj] using h0
  | 1, hj => simpa [← hj] using h1
  | 2, hj => simpa [← hj] using h2
  | 3, hj => simpa [← hj] using h3
/-- a store of four cells into a block beside. -/
theorem BoxAt.stores {B B2 : Nat} {H W C : Int} {A : Option Addr} {n c : Nat} {w : World} (h : BoxAt B H W C A n c w) (hne : B ≠ B2) (a b d e : Value) :
    BoxAt B H W C A n c ((((w.setCell ⟨B2, 0, none⟩ a).setCell ⟨B2, 1, none⟩ b).setCell ⟨B2, 2, none⟩ d).setCell ⟨B2, 3, none⟩ e) := by
  have k : ∀ i j (v : Value) (wd : World), (wd.setCell ⟨B2, j, none⟩ v).cell? ⟨B, i, none⟩ = wd.cell? ⟨B, i, none⟩ := fun i j v wd => World.cell?_setCell_other _ _ _ _ (fun e => hne (congrArg Addr.block e).symm)
  unfold BoxAt
  simp only [k]
  exact h
/-- what is owned stays over a store below. -/
theorem own_set {w : World} {base : Nat} {e : TypeId} {size n : Nat} {v : Value} {xs : List Value} (h : w.ownsRow base e size v n xs) (a : Addr) (u : Value) (ha : a.block < base) : (w.setCell a u).ownsRow base e size v n xs := by
  refine h.kept (row := some a.block) ⟨rfl, rfl, rfl, by simp, fun k _ hk => Below.heap_setCell _ _ _ k (fun e => hk (by rw [e]))⟩ ?_
  cases hv : v.ownBlock with
  | none => exact .inl rfl
  | some q => exact .inr (fun e => by have := Kit.own_block_ge h q hv; cases e; omega)
/-- a tensor of the call's own, handed back. -/
def Cloned (w : World) (H W C : Int) (n : Nat) (zs : List Int) (e : Ending) (w' : World) : Prop :=
  ∃ v, e = .returned (.agg #[.int .i64 H, .int .i64 W, .int .i64 C, v]) ∧ w'.ownsRow w.heap.size 22 1 v n (I8s zs) ∧ Below w.heap.size w w'
theorem clone_to (H W C : Int) (A : Option Addr) (zs : List Int) (n c : Nat) (hn : zs.length = n) (hl : n ≤ 1000000) {B : Nat} (w : World) (hB : B ≤ w.heap.size) (hr : Kit.Rd w B A (zs.map (.int .i8))) :
    Calls Tryz.prog 111 #[.agg #[.int .i64 H, .int .i64 W, .int .i64 C, .slice A n c]] w (Cloned w H W C n zs) := by
  have HN := Lib.hid hn
  have HR := Lib.hid hr
  clear hn hr
  go_enter Tryz.func111, Tryz.ntmps111
  go_wp2_with fail
  have hbox : BoxAt w.heap.size H W C A n c ((w.alloc (.cells #[.int .i64 H, .int .i64 W, .int .i64 C, .slice A n c] 32)).alloc (.cells #[.int .i64 0, .int .i64 0, .int .i64 0, .slice none 0 0] 32)).drew :=
    (BoxAt.new H W C A n c 32 w).below (Nat.lt_succ_self _) (((Below.refl _ _).alloc (by simp) _))
  have HFR : Hid (FreshT (w.heap.size + 1) ((w.alloc (.cells #[.int .i64 H, .int .i64 W, .int .i64 C, .slice A n c] 32)).alloc (.cells #[.int .i64 0, .int .i64 0, .int .i64 0, .slice none 0 0] 32)).drew) := Lib.hid (FreshT.new _ _ _ (by simp))
  refine wp_region_held_drew (S := BoxAt w.heap.size H W C A n c) (by kernel_rfl) hbox (fun hHeld => ?_)
  refine Tk.y 0 (v := ?_) rfl ?_ ?_
  rotate_left
  · intro wS hSw
    obtain ⟨s1, s2, s3, s4⟩ := hSw
    first | (go_simp; done) | (go_simp; with_reducible rfl)
  try simp only [Tk.put]
  refine Tk.y 1 (v := ?_) rfl ?_ ?_
  rotate_left
  · intro wS hSw
    obtain ⟨s1, s2, s3, s4⟩ := hSw
    first | (go_simp; done) | (go_simp; with_reducible rfl)
  try simp only [Tk.put]
  refine Tk.y 2 (v := ?_) rfl ?_ ?_
  rotate_left
  · intro wS hSw
    obtain ⟨s1, s2, s3, s4⟩ := hSw
    first | (go_simp; done) | (go_simp; with_reducible rfl)
  try simp only [Tk.put]
  refine Tk.y 3 (v := ?_) rfl ?_ ?_
  rotate_left
  · intro wS hSw
    obtain ⟨s1, s2, s3, s4⟩ := hSw
    first | (go_simp; done) | (go_simp; with_reducible rfl)
  try simp only [Tk.put]
  refine Tk.s 4 rfl (fun K hK => ?_)
  go_simp
  go_at_call 143
  refine (sclone A zs n c HN.out hl (B := B) _ (by simp; omega) (((HR.out.alloc hB _).alloc (by simp; omega) _).drew)).mono ?_
  rintro e w1 ⟨v1, rfl, ho1, hb1⟩
  have hS1 := hHeld.below (by first | (simp; done) | (simp; omega)) hb1
  obtain ⟨⟨z0, z1, z2, z3⟩, z4, z5, z6, z7⟩ := HFR.out.below (by first | (simp; done) | (simp; omega)) hb1
  obtain ⟨A1, c1, rfl, _, _, _⟩ := Kit.own_rd ho1
  have HO := Lib.hid ho1
  have HB1 := Lib.hid hb1
  clear ho1 hb1 hHeld
  dsimp only
  refine hK.out _ _ ?_ (fun hHeld => ?_)
  · exact hS1
  clear hK K
  try simp only [Tk.put]
  refine Tk.x 5 rfl ?_
  try simp only [Tk.put]
  refine Tk.s 6 rfl (fun K hK => ?_)
  go_simp
  refine hK.out _ _ ?_ (fun hHeld => ?_)
  · exact hHeld.stores (by omega) _ _ _ _
  clear hK K
  try simp only [Tk.put]
  refine wpAnyH_done (by kernel_rfl) ?_ _
  go_wp2_with fail
  refine bodyPost_ret (Kit.results_c rfl _ _ (w.heap.size + 1) 0 [.int .i64 H, .int .i64 W, .int .i64 C, .slice A1 n c1] _ rfl (range_4 (by go_cell) (by go_cell) (by go_cell) (by go_cell)) Tryz.underlying32 rfl (by kernel_rfl)) rfl ?_
  have hz : w.heap.size + 2 ≤ w1.heap.size := by have := HB1.out.size; simp at this; omega
  refine ⟨_, rfl, Kit.own_base (own_set (own_set (own_set (own_set HO.out _ _ ?_) _ _ ?_) _ _ ?_) _ _ ?_) ?_, ?_⟩
  any_goals (first | (simp; done) | (simp; omega))
  exact (((((((Below.refl w.heap.size w).alloc (Nat.le_refl _) _).alloc (by simp) _).drew).trans (HB1.out.mono (by simp; omega))).setCell (p := ⟨w.heap.size + 1, 0, none⟩) (by simp) _).setCell (p := ⟨w.heap.size + 1, 1, none⟩) (by simp) _ |>.setCell (p := ⟨w.heap.size + 1, 2, none⟩) (by simp) _).setCell (p := ⟨w.heap.size + 1, 3, none⟩) (by simp) _
end Go.Proofs.YtoghpoopgkahiaaGreatDoor.CTensor
end
section
namespace Go.Proofs.YtoghpoopgkahiaaGreatDoor.CPad
open Go Go.ChangeShapes Go.WideShapes Go.ChangeAt Go.RowKit
open Plain CSat CShape CTensor
set_option linter.unusedVariables false
/-- the number at a row, a column, a channel; z, where there is none. -/
def pixZ (zs : List Int) (H W C h w k z : Int) : Int := if 0 ≤ h ∧ h < H ∧ 0 ≤ w ∧ w < W then zs.getD ((h * W + w) * C + k).toNat 0 else z
theorem mul_lt {a b c d : Int} (h0 : 0 ≤ a) (h1 : a < b) (h2 : 0 ≤ c) (h3 : c < d) : 0 ≤ a * d + c ∧ a * d + c < b * d := by
  have e1 : 0 ≤ a * d := Int.mul_nonneg h0 (by omega)
  have e2 : (a + 1) * d ≤ b * d := Int.mul_le_mul_of_nonneg_right (by omega) (by omega)
  rw [Int.add_mul, Int.one_mul] at e2
  omega
/-- where a place of a right tensor lies in its list. -/
theorem place_bd {H W C h w k : Int} {n : Nat} (hs : shapeB H W C = true) (hn : (n : Int) = H * W * C) (h0 : 0 ≤ h) (h1 : h < H) (w0 : 0 ≤ w) (w1 : w < W) (k0 : 0 ≤ k) (k1 : k < C) :
    0 ≤ h * W ∧ h * W ≤ 256 ∧ 0 ≤ h * W + w ∧ h * W + w ≤ 256 ∧ 0 ≤ (h * W + w) * C ∧ (h * W + w) * C ≤ 1024 ∧ 0 ≤ (h * W + w) * C + k ∧ (h * W + w) * C + k < (n : Int) := by
  obtain ⟨a1, a2, a3, a4, a5, a6, a7⟩ := shapeB_yes hs
  have m1 := mul_lt h0 h1 w0 w1
  have m2 := mul_lt m1.1 m1.2 k0 k1
  have e1 : 0 ≤ h * W := Int.mul_nonneg h0 (by omega)
  have e2 : H * W ≤ 256 := Int.mul_le_mul a2 a4 (by omega) (by omega)
  have e3 : 0 ≤ (h * W + w) * C := Int.mul_nonneg m1.1 (by omega)
  rw [← hn] at m2 a7
  exact ⟨e1, by omega, m1.1, by omega, e3, by omega, m2.1, m2.2⟩
end Go.Proofs.YtoghpoopgkahiaaGreatDoor.CPad
end
