/- Contracts of layer 9's document side: a tensor that is moved. -/
import Derived.Test.YtgoonenkcikkaaaPadRef
import Derived.Test.YtgoonenkcikkaaaTensorFill
namespace Go.Proofs.Ytgoonenkcikkaaa.CPad
open Go Go.ChangeShapes Go.WideShapes Go.ChangeAt Go.RowKit
open Plain CSat CShape CTensor
set_option linter.unusedVariables false

/-- how a round of Move stands: the shape's box, the tensor's box, the result's block as it was made, the new tensor's block with its list. -/
def MoveAt (w0 : World) (g : Nat) (U V H W C : Int) (A : Option Addr) (n c : Nat) (v : Value) (wd : World) : Prop :=
  ShapeAt g U V C wd ∧ BoxAt (g + 1) H W C A n c wd ∧ FreshT (g + 2) wd ∧ (wd.cell? ⟨g + 3, 0, none⟩ = some (.int .i64 U) ∧ wd.cell? ⟨g + 3, 1, none⟩ = some (.int .i64 V) ∧ wd.cell? ⟨g + 3, 2, none⟩ = some (.int .i64 C) ∧ wd.cell? ⟨g + 3, 3, none⟩ = some v ∧ wd.frozen? ⟨g + 3, 3, none⟩ = false) ∧
  Below g w0 wd ∧ g + 4 ≤ wd.heap.size
theorem MoveAt.below {w0 : World} {g : Nat} {U V H W C : Int} {A : Option Addr} {n c : Nat} {v : Value} {wd w' : World} (h : MoveAt w0 g U V H W C A n c v wd) (hb : Below (g + 4) wd w') : MoveAt w0 g U V H W C A n c v w' := by
  obtain ⟨h1, h0, h2, ⟨h3, h4, h5, h6, h7⟩, h8, h9⟩ := h
  exact ⟨h1.below (by omega) hb, h0.below (by omega) hb, h2.below (by omega) hb, ⟨(hb.cell (p := ⟨g + 3, 0, none⟩) (by simp)).trans h3, (hb.cell (p := ⟨g + 3, 1, none⟩) (by simp)).trans h4, (hb.cell (p := ⟨g + 3, 2, none⟩) (by simp)).trans h5, (hb.cell (p := ⟨g + 3, 3, none⟩) (by simp)).trans h6, (hb.frozen (p := ⟨g + 3, 3, none⟩) (by simp)).trans h7⟩,
    h8.trans (hb.mono (by omega)), Nat.le_trans h9 hb.size⟩
theorem MoveAt.store {w0 : World} {g : Nat} {U V H W C : Int} {A : Option Addr} {n c : Nat} {v : Value} {wd : World} (h : MoveAt w0 g U V H W C A n c v wd) (u : Value) : MoveAt w0 g U V H W C A n c u (wd.setCell ⟨g + 3, 3, none⟩ u) := by
  obtain ⟨⟨a1, a2, a3⟩, ⟨b1, b2, b3, b4⟩, ⟨⟨f1, f2, f3, f4⟩, f5, f6, f7, f8⟩, ⟨h3, h4, h5, h6, h7⟩, h8, h9⟩ := h
  have k : ∀ (b i : Nat), b ≠ g + 3 ∨ i ≠ 3 → (wd.setCell ⟨g + 3, 3, none⟩ u).cell? ⟨b, i, none⟩ = wd.cell? ⟨b, i, none⟩ := fun b i hne => World.cell?_setCell_other _ _ _ _ (fun e => by injection e; omega)
  have fz : ∀ (b i : Nat), (wd.setCell ⟨g + 3, 3, none⟩ u).frozen? ⟨b, i, none⟩ = wd.frozen? ⟨b, i, none⟩ := fun b i => World.frozen?_setCell _ _ _ _
  refine ⟨⟨?_, ?_, ?_⟩, ⟨?_, ?_, ?_, ?_⟩, ⟨⟨?_, ?_, ?_, ?_⟩, ?_, ?_, ?_, ?_⟩, ⟨?_, ?_, ?_, World.cell?_setCell_same _ _ _ h6, ?_⟩, h8.setCell (p := ⟨g + 3, 3, none⟩) (by simp) _, by simpa using h9⟩
  all_goals first | (rw [k _ _ (by omega)]; assumption) | (rw [fz]; assumption)
theorem BoxAt.newq (H W C : Int) (A : Option Addr) (n c : Nat) (T : TypeId) (w : World) : BoxAt w.heap.size H W C A n c (w.alloc (.cells #[.int .i64 H, .int .i64 W, .int .i64 C, .slice A n c] T)) := BoxAt.new H W C A n c T w
theorem MoveAt.new (w : World) (U V H W C : Int) (A : Option Addr) (n c : Nat) : MoveAt w w.heap.size U V H W C A n c (.slice none 0 0) ((((w.alloc (.cells #[.int .i64 U, .int .i64 V, .int .i64 C] 23)).alloc (.cells #[.int .i64 H, .int .i64 W, .int .i64 C, .slice A n c] 26)).alloc (.cells #[.int .i64 0, .int .i64 0, .int .i64 0, .slice none 0 0] 26)).alloc (.cells #[.int .i64 U, .int .i64 V, .int .i64 C, .slice none 0 0] 26)) := by
  have s1 : (w.alloc (.cells #[.int .i64 U, .int .i64 V, .int .i64 C] 23)).heap.size = w.heap.size + 1 := by simp
  have s2 : ((w.alloc (.cells #[.int .i64 U, .int .i64 V, .int .i64 C] 23)).alloc (.cells #[.int .i64 H, .int .i64 W, .int .i64 C, .slice A n c] 26)).heap.size = w.heap.size + 2 := by simp
  have s3 : (((w.alloc (.cells #[.int .i64 U, .int .i64 V, .int .i64 C] 23)).alloc (.cells #[.int .i64 H, .int .i64 W, .int .i64 C, .slice A n c] 26)).alloc (.cells #[.int .i64 0, .int .i64 0, .int .i64 0, .slice none 0 0] 26)).heap.size = w.heap.size + 3 := by simp
  have b4 : Below (w.heap.size + 3) (((w.alloc (.cells #[.int .i64 U, .int .i64 V, .int .i64 C] 23)).alloc (.cells #[.int .i64 H, .int .i64 W, .int .i64 C, .slice A n c] 26)).alloc (.cells #[.int .i64 0, .int .i64 0, .int .i64 0, .slice none 0 0] 26)) ((((w.alloc (.cells #[.int .i64 U, .int .i64 V, .int .i64 C] 23)).alloc (.cells #[.int .i64 H, .int .i64 W, .int .i64 C, .slice A n c] 26)).alloc (.cells #[.int .i64 0, .int .i64 0, .int .i64 0, .slice none 0 0] 26)).alloc (.cells #[.int .i64 U, .int .i64 V, .int .i64 C, .slice none 0 0] 26)) := (Below.refl _ _).alloc (by omega) _
  have b3 : Below (w.heap.size + 2) ((w.alloc (.cells #[.int .i64 U, .int .i64 V, .int .i64 C] 23)).alloc (.cells #[.int .i64 H, .int .i64 W, .int .i64 C, .slice A n c] 26)) ((((w.alloc (.cells #[.int .i64 U, .int .i64 V, .int .i64 C] 23)).alloc (.cells #[.int .i64 H, .int .i64 W, .int .i64 C, .slice A n c] 26)).alloc (.cells #[.int .i64 0, .int .i64 0, .int .i64 0, .slice none 0 0] 26)).alloc (.cells #[.int .i64 U, .int .i64 V, .int .i64 C, .slice none 0 0] 26)) := Below.trans ((Below.refl _ _).alloc (by omega) _) (b4.mono (by omega))
  have b2 : Below (w.heap.size + 1) (w.alloc (.cells #[.int .i64 U, .int .i64 V, .int .i64 C] 23)) ((((w.alloc (.cells #[.int .i64 U, .int .i64 V, .int .i64 C] 23)).alloc (.cells #[.int .i64 H, .int .i64 W, .int .i64 C, .slice A n c] 26)).alloc (.cells #[.int .i64 0, .int .i64 0, .int .i64 0, .slice none 0 0] 26)).alloc (.cells #[.int .i64 U, .int .i64 V, .int .i64 C, .slice none 0 0] 26)) := Below.trans ((Below.refl _ _).alloc (by omega) _) (b3.mono (by omega))
  have h1 := (ShapeAt.new U V C 23 w).below (Nat.lt_succ_self _) b2
  have h0 : BoxAt (w.heap.size + 1) H W C A n c ((((w.alloc (.cells #[.int .i64 U, .int .i64 V, .int .i64 C] 23)).alloc (.cells #[.int .i64 H, .int .i64 W, .int .i64 C, .slice A n c] 26)).alloc (.cells #[.int .i64 0, .int .i64 0, .int .i64 0, .slice none 0 0] 26)).alloc (.cells #[.int .i64 U, .int .i64 V, .int .i64 C, .slice none 0 0] 26)) := by
    have := BoxAt.newq H W C A n c 26 (w.alloc (.cells #[.int .i64 U, .int .i64 V, .int .i64 C] 23))
    rw [s1] at this
    exact this.below (by omega) b3
  have h2 := (FreshT.new 26 ((w.alloc (.cells #[.int .i64 U, .int .i64 V, .int .i64 C] 23)).alloc (.cells #[.int .i64 H, .int .i64 W, .int .i64 C, .slice A n c] 26)) (w.heap.size + 2) s2.symm).below (by omega) b4
  have cc : ∀ j, ((((w.alloc (.cells #[.int .i64 U, .int .i64 V, .int .i64 C] 23)).alloc (.cells #[.int .i64 H, .int .i64 W, .int .i64 C, .slice A n c] 26)).alloc (.cells #[.int .i64 0, .int .i64 0, .int .i64 0, .slice none 0 0] 26)).alloc (.cells #[.int .i64 U, .int .i64 V, .int .i64 C, .slice none 0 0] 26)).cell? ⟨w.heap.size + 3, j, none⟩ = #[.int .i64 U, .int .i64 V, .int .i64 C, .slice none 0 0][j]? := fun j => by
    rw [← s3]; exact Kit.new_cell _ _ _ _
  refine ⟨h1, h0, h2, ⟨cc 0, cc 1, cc 2, cc 3, ?_⟩, ((((Below.refl _ _).alloc (Nat.le_refl _) _).alloc (by omega) _).alloc (by omega) _).alloc (by omega) _, by simp⟩
  rw [← s3]; exact World.frozen?_alloc_at _ _ _ _ rfl
/-- the numbers of a list, one behind the other. -/
def rowL (F : Nat → Int) (k : Nat) : List Int := (List.range k).map F
theorem rowL_succ (F : Nat → Int) (k : Nat) (x : Int) (h : F k = x) : I8s (rowL F k) ++ [.int .i8 x] = I8s (rowL F (k + 1)) := by
  simp [I8s, rowL, List.range_succ, h]
theorem rowL_len (F : Nat → Int) (k : Nat) : (rowL F k).length = k := by simp [rowL]
theorem at_lt {a b d i j k : Nat} (hi : i < a) (hj : j < b) (hk : k < d) : (i * b + j) * d + k < a * b * d := by
  have e1 : (i + 1) * b ≤ a * b := Nat.mul_le_mul_right _ hi
  have e2 : (i * b + j + 1) * d ≤ a * b * d := Nat.mul_le_mul_right _ (by rw [Nat.add_mul, Nat.one_mul] at e1; omega)
  rw [Nat.add_mul _ 1 d, Nat.one_mul] at e2
  omega
set_option maxRecDepth 100000 in
set_option maxHeartbeats 4000000 in
theorem refMove_to (U V H W C : Int) (A : Option Addr) (zs : List Int) (n c : Nat) (hn : zs.length = n) (ht : tensB H W C n = true) (a b d : Nat) (hU : U = (a : Int)) (hV : V = (b : Int)) (hC : C = (d : Int)) (ha : a ≤ 16) (hb : b ≤ 16) (hd : d ≤ 1024) (m : Nat) (hm : a * b * d = m) (hm2 : m ≤ 1024)
    (p q z : Int) (p1 : -20 ≤ p) (p2 : p ≤ 20) (q1 : -20 ≤ q) (q2 : q ≤ 20) (F : Nat → Int) (hF : ∀ i j k : Nat, i < a → j < b → k < d → pixZ zs H W C ((i : Int) - p) ((j : Int) - q) (k : Int) z = F ((i * b + j) * d + k))
    {B : Nat} (w : World) (hB : B ≤ w.heap.size) (hr : Kit.Rd w B A (I8s zs)) :
    Calls Try.prog 14 #[.agg #[.int .i64 U, .int .i64 V, .int .i64 C], .agg #[.int .i64 H, .int .i64 W, .int .i64 C, .slice A n c], .int .i64 p, .int .i64 q, .int .i8 z] w (Cloned w U V C m (rowL F m)) := by
  have HN := Lib.hid hn
  have HT := Lib.hid ht
  have HF := Lib.hid hF
  have HM := Lib.hid hm
  have HR := Lib.hid hr
  have HU := Lib.hid hU
  have HV := Lib.hid hV
  have HCd := Lib.hid hC
  have hUI : U ≤ 16 := by omega
  have hVI : V ≤ 16 := by omega
  have hCI : C ≤ 1024 := by omega
  clear hn ht hF hm hr hU hV hC
  obtain ⟨i0, hi0, hi1, hi2, hi3⟩ := info_parts info_i8
  go_enter Try.func14, Try.ntmps14
  go_wp2_with fail
  have HW := Lib.hid (MoveAt.new w U V H W C A n c)
  have HO : Hid (((((w.alloc (.cells #[.int .i64 U, .int .i64 V, .int .i64 C] 23)).alloc (.cells #[.int .i64 H, .int .i64 W, .int .i64 C, .slice A n c] 26)).alloc (.cells #[.int .i64 0, .int .i64 0, .int .i64 0, .slice none 0 0] 26)).alloc (.cells #[.int .i64 U, .int .i64 V, .int .i64 C, .slice none 0 0] 26)).ownsRow (w.heap.size + 4) 27 1 (.slice none 0 0) 0 (I8s (rowL F 0))) := Lib.hid ⟨by simp [I8s, rowL], .inl ⟨rfl, rfl⟩⟩
  try rw [show w.heap.size + 1 + 1 + 1 = w.heap.size + 3 from rfl]
  try rw [show w.heap.size + 1 + 1 = w.heap.size + 2 from rfl]
  generalize ((((w.alloc (.cells #[.int .i64 U, .int .i64 V, .int .i64 C] 23)).alloc (.cells #[.int .i64 H, .int .i64 W, .int .i64 C, .slice A n c] 26)).alloc (.cells #[.int .i64 0, .int .i64 0, .int .i64 0, .slice none 0 0] 26)).alloc (.cells #[.int .i64 U, .int .i64 V, .int .i64 C, .slice none 0 0] 26)) = Wm at HW HO ⊢
  go_loopw [12, 13, 14] (fun x _ _ wr => ∃ (i : Nat) (v : Value), i ≤ a ∧ x = .int .i64 i ∧ Hid (MoveAt w w.heap.size U V H W C A n c v wr) ∧ Hid (wr.ownsRow (w.heap.size + 4) 27 1 v (i * b * d) (I8s (rowL F (i * b * d))))) (fun x _ _ _ => a - (intOf x).toNat)
  case atStart => exact ⟨0, _, Nat.zero_le _, rfl, HW, by simpa using HO⟩
  case round =>
    obtain ⟨i, v0, hi, rfl, hW0, hO0⟩ := hrel
    clear HW HO
    obtain ⟨⟨a1, a2, a3⟩, -, -, -, -, hz⟩ := hW0.out
    by_cases hlt : i < a
    · have hiI : (i : Int) < U := by have := HU.out; omega
      go_wp2_with fail
      go_loopw [13, 14] (fun x _ wr => ∃ (j : Nat) (v : Value), j ≤ b ∧ x = .int .i64 j ∧ Hid (MoveAt w w.heap.size U V H W C A n c v wr) ∧ Hid (wr.ownsRow (w.heap.size + 4) 27 1 v ((i * b + j) * d) (I8s (rowL F ((i * b + j) * d))))) (fun x _ _ => b - (intOf x).toNat)
      case atStart => exact ⟨0, _, Nat.zero_le _, rfl, hW0, by simpa using hO0⟩
      case round =>
        obtain ⟨j, v1, hj, rfl, hW1, hO1⟩ := hrel
        clear hW0 hO0 a1 a2 a3 hz
        obtain ⟨⟨a1, a2, a3⟩, -, -, -, -, hz⟩ := hW1.out
        by_cases hltj : j < b
        · have hjI : (j : Int) < V := by have := HV.out; omega
          obtain ⟨o, ho⟩ : ∃ o, (i * b + j) * d = o := ⟨_, rfl⟩
          rw [ho] at hO1
          have HOO := Lib.hid ho
          clear ho
          go_wp2_with fail
          go_loopw [14] (fun x wr => ∃ (k : Nat) (v : Value), k ≤ d ∧ x = .int .i64 k ∧ Hid (MoveAt w w.heap.size U V H W C A n c v wr) ∧ Hid (wr.ownsRow (w.heap.size + 4) 27 1 v (o + k) (I8s (rowL F (o + k))))) (fun x _ => d - (intOf x).toNat)
          case atStart => exact ⟨0, _, Nat.zero_le _, rfl, hW1, hO1⟩
          case round =>
            obtain ⟨k, v, hk, rfl, hW2, hO2⟩ := hrel
            clear hW1 hO1 a1 a2 a3 hz
            obtain ⟨Av, cv, rfl, -, -, -⟩ := Kit.own_rd hO2.out
            obtain ⟨⟨a1, a2, a3⟩, hbx, -, ⟨-, -, -, h6, h7⟩, hbw, hz⟩ := hW2.out
            by_cases hltk : k < d
            · have hkI : (k : Int) < C := by have := HCd.out; omega
              have hk0 : (0 : Int) ≤ (k : Int) := by omega
              have hom : o + k < m := by rw [← HOO.out, ← HM.out]; exact at_lt hlt hltj hltk
              obtain ⟨x, hx⟩ : ∃ x, F (o + k) = x := ⟨_, rfl⟩
              have HX := Lib.hid (show pixZ zs H W C ((i : Int) - p) ((j : Int) - q) (k : Int) z = x by rw [← hx, ← HOO.out]; exact HF.out i j k hlt hltj hltk)
              have HXX := Lib.hid hx
              have HBW := Lib.hid hbw
              have hiI2 : (i : Int) ≤ 16 := by omega
              have hjI2 : (j : Int) ≤ 16 := by omega
              clear hx hbw
              go_wp2_with fail
              refine wp_region_held_drew (S := BoxAt (w.heap.size + 1) H W C A n c) (by kernel_rfl) hbx (fun hHeld => ?_)
              clear hbx
              replace HBW := Lib.hid HBW.out.drew
              have h6 : wr.drew.cell? ⟨w.heap.size + 3, 3, none⟩ = some (.slice Av (o + k) cv) := h6
              have h7 : wr.drew.frozen? ⟨w.heap.size + 3, 3, none⟩ = false := h7
              have HW2 : Hid (MoveAt w w.heap.size U V H W C A n c (.slice Av (o + k) cv) wr.drew) := Lib.hid (hW2.out.below (Below.refl _ _).drew)
              have HO2 : Hid (wr.drew.ownsRow (w.heap.size + 4) 27 1 (.slice Av (o + k) cv) (o + k) (I8s (rowL F (o + k)))) := Lib.hid (Kit.own_below hO2.out (Below.refl _ _).drew)
              have hz : w.heap.size + 4 ≤ wr.drew.heap.size := hz
              clear hW2 hO2 a1 a2 a3
              generalize wr.drew = Wa at HBW h6 h7 HW2 HO2 hz hHeld ⊢
              have hwi : IntKind.i64.wrap ((i : Int) - p) = (i : Int) - p := IntWalk.i64_in _ (by omega)
              have hwj : IntKind.i64.wrap ((j : Int) - q) = (j : Int) - q := IntWalk.i64_in _ (by omega)
              refine wpAnyH_take (i := 0) (oi := ({ dst := some 35, op := Op.fieldAddr 26 (Operand.tmp 11) 1, type := 0, pos := "ref.go:24", after := #[], guard := none } : Oper)) (v := ?_) rfl (by kernel_rfl) (by kernel_rfl) (by kernel_rfl) (fun _ _ _ h => h) (Or.inl ⟨by rfl, ?_⟩) (by assumption) ?_
              rotate_left
              · intro wS hSw
                first
                  | (go_simp; done)
                  | (go_simp; with_reducible rfl)
              try simp only [Act.put, List.setIfInBounds_toArray, List.set_cons_zero, List.set_cons_succ]
              refine wpAnyH_take (i := 2) (oi := ({ dst := some 37, op := Op.load 26 (Operand.tmp 6), type := 26, pos := "ref.go:24", after := #[], guard := none } : Oper)) (v := ?_) rfl (by kernel_rfl) (by kernel_rfl) (by kernel_rfl) (fun _ _ _ h => h) (Or.inl ⟨by rfl, ?_⟩) (by assumption) ?_
              rotate_left
              · intro wS hSw
                obtain ⟨s1, s2, s3, s4⟩ := hSw
                first
                  | (go_simp; done)
                  | (go_simp; with_reducible rfl)
              try simp only [Act.put, List.setIfInBounds_toArray, List.set_cons_zero, List.set_cons_succ]
              refine wpAnyH_take (i := 3) (oi := ({ dst := some 38, op := Op.move (Operand.tmp 12), type := 3, pos := "ref.go:24", after := #[], guard := none } : Oper)) (v := ?_) rfl (by kernel_rfl) (by kernel_rfl) (by kernel_rfl) (fun _ _ _ h => h) (Or.inl ⟨by rfl, ?_⟩) (by assumption) ?_
              rotate_left
              · intro wS hSw
                first
                  | (go_simp; done)
                  | (go_simp; with_reducible rfl)
              try simp only [Act.put, List.setIfInBounds_toArray, List.set_cons_zero, List.set_cons_succ]
              refine wpAnyH_take (i := 4) (oi := ({ dst := some 39, op := Op.move (Operand.tmp 2), type := 3, pos := "ref.go:24", after := #[], guard := none } : Oper)) (v := ?_) rfl (by kernel_rfl) (by kernel_rfl) (by kernel_rfl) (fun _ _ _ h => h) (Or.inl ⟨by rfl, ?_⟩) (by assumption) ?_
              rotate_left
              · intro wS hSw
                first
                  | (go_simp; done)
                  | (go_simp; with_reducible rfl)
              try simp only [Act.put, List.setIfInBounds_toArray, List.set_cons_zero, List.set_cons_succ]
              refine wpAnyH_take (i := 5) (oi := ({ dst := some 40, op := Op.binOp BinOp.sub 3 (Operand.tmp 38) (Operand.tmp 39) 3, type := 3, pos := "ref.go:24", after := #[{ on := 3, ground := Ground.data }, { on := 4, ground := Ground.data }], guard := none } : Oper)) (v := ?_) rfl (by kernel_rfl) (by kernel_rfl) (by kernel_rfl) (fun _ _ _ h => h) (Or.inl ⟨by rfl, ?_⟩) (by assumption) ?_
              rotate_left
              · intro wS hSw
                first
                  | (go_simp; done)
                  | (go_simp; with_reducible rfl)
              try simp only [Act.put, List.setIfInBounds_toArray, List.set_cons_zero, List.set_cons_succ]
              refine wpAnyH_take (i := 6) (oi := ({ dst := some 41, op := Op.move (Operand.tmp 13), type := 3, pos := "ref.go:24", after := #[], guard := none } : Oper)) (v := ?_) rfl (by kernel_rfl) (by kernel_rfl) (by kernel_rfl) (fun _ _ _ h => h) (Or.inl ⟨by rfl, ?_⟩) (by assumption) ?_
              rotate_left
              · intro wS hSw
                first
                  | (go_simp; done)
                  | (go_simp; with_reducible rfl)
              try simp only [Act.put, List.setIfInBounds_toArray, List.set_cons_zero, List.set_cons_succ]
              refine wpAnyH_take (i := 7) (oi := ({ dst := some 42, op := Op.move (Operand.tmp 3), type := 3, pos := "ref.go:24", after := #[], guard := none } : Oper)) (v := ?_) rfl (by kernel_rfl) (by kernel_rfl) (by kernel_rfl) (fun _ _ _ h => h) (Or.inl ⟨by rfl, ?_⟩) (by assumption) ?_
              rotate_left
              · intro wS hSw
                first
                  | (go_simp; done)
                  | (go_simp; with_reducible rfl)
              try simp only [Act.put, List.setIfInBounds_toArray, List.set_cons_zero, List.set_cons_succ]
              refine wpAnyH_take (i := 8) (oi := ({ dst := some 43, op := Op.binOp BinOp.sub 3 (Operand.tmp 41) (Operand.tmp 42) 3, type := 3, pos := "ref.go:24", after := #[{ on := 6, ground := Ground.data }, { on := 7, ground := Ground.data }], guard := none } : Oper)) (v := ?_) rfl (by kernel_rfl) (by kernel_rfl) (by kernel_rfl) (fun _ _ _ h => h) (Or.inl ⟨by rfl, ?_⟩) (by assumption) ?_
              rotate_left
              · intro wS hSw
                first
                  | (go_simp; done)
                  | (go_simp; with_reducible rfl)
              try simp only [Act.put, List.setIfInBounds_toArray, List.set_cons_zero, List.set_cons_succ]
              refine wpAnyH_take (i := 9) (oi := ({ dst := some 44, op := Op.move (Operand.tmp 14), type := 3, pos := "ref.go:24", after := #[], guard := none } : Oper)) (v := ?_) rfl (by kernel_rfl) (by kernel_rfl) (by kernel_rfl) (fun _ _ _ h => h) (Or.inl ⟨by rfl, ?_⟩) (by assumption) ?_
              rotate_left
              · intro wS hSw
                first
                  | (go_simp; done)
                  | (go_simp; with_reducible rfl)
              try simp only [Act.put, List.setIfInBounds_toArray, List.set_cons_zero, List.set_cons_succ]
              refine wpAnyH_take (i := 10) (oi := ({ dst := some 45, op := Op.move (Operand.tmp 4), type := 27, pos := "ref.go:24", after := #[], guard := none } : Oper)) (v := ?_) rfl (by kernel_rfl) (by kernel_rfl) (by kernel_rfl) (fun _ _ _ h => h) (Or.inl ⟨by rfl, ?_⟩) (by assumption) ?_
              rotate_left
              · intro wS hSw
                first
                  | (go_simp; done)
                  | (go_simp; with_reducible rfl)
              try simp only [Act.put, List.setIfInBounds_toArray, List.set_cons_zero, List.set_cons_succ]
              refine wpAnyH_ready (rs := [1, 11]) (by kernel_rfl) (by simp) ?_
              refine AllReadyH.cons (o := ({ dst := some 36, op := Op.load 24 (Operand.tmp 35), type := 24, pos := "ref.go:24", after := #[{ on := 0, ground := Ground.data }], guard := none } : Oper)) rfl (fun K hK => ?_) ?_
              · go_simp
                refine hK.out _ _ ?_ (fun hHeld => ?_)
                · exact hHeld
                clear hK K
                try simp only [Act.put, List.setIfInBounds_toArray, List.set_cons_zero, List.set_cons_succ]
                refine wpAnyH_ready (rs := [11]) (by kernel_rfl) (by simp) ?_
                refine AllReadyH.cons (o := ({ dst := some 46, op := Op.call { callee := Callee.value (Operand.func 21), args := #[Operand.tmp 37, Operand.tmp 40, Operand.tmp 43, Operand.tmp 44, Operand.tmp 45], argTypes := #[26, 3, 3, 3, 27] }, type := 27, pos := "ref.go:24", after := #[{ on := 2, ground := Ground.data }, { on := 5, ground := Ground.data }, { on := 8, ground := Ground.data }, { on := 9, ground := Ground.data }, { on := 10, ground := Ground.data }], guard := none } : Oper)) rfl (fun K hK => ?_) (AllReadyH.nil)
                go_simp
                go_at_call 21
                refine (pix_to H W C A zs n c HN.out HT.out ((i : Int) - p) ((j : Int) - q) (k : Int) z hk0 hkI x HX.out (B := B) _ (by omega) ((HR.out.below (HBW.out.mono hB)))).mono ?_
                rintro e Wb1 ⟨rfl, hb1⟩
                have hS1 := hHeld.below (B' := _) (by omega) hb1
                replace HBW := Lib.hid (HBW.out.trans (hb1.mono (by omega)))
                replace HW2 := Lib.hid (HW2.out.below (hb1.mono hz))
                replace HO2 := Lib.hid (Kit.own_below HO2.out hb1)
                replace hz := Nat.le_trans hz hb1.size
                clear hb1 hHeld h6 h7
                obtain ⟨-, -, -, ⟨-, -, -, h6, h7⟩, -, -⟩ := HW2.out
                dsimp only
                refine hK.out _ _ ?_ (fun hHeld => ?_)
                · exact hS1
                clear hK K
                try simp only [Act.put, List.setIfInBounds_toArray, List.set_cons_zero, List.set_cons_succ]
                refine wpAnyH_ready (rs := [12]) (by kernel_rfl) (by simp) ?_
                refine AllReadyH.cons (o := ({ dst := some 47, op := Op.buildSlice 24 1 #[(0, Operand.tmp 46)], type := 24, pos := "ref.go:24", after := #[{ on := 11, ground := Ground.data }], guard := none } : Oper)) rfl (fun K hK => ?_) (AllReadyH.nil)
                go_simp
                refine hK.out _ _ ?_ (fun hHeld => ?_)
                · exact hHeld.below (B' := Wb1.heap.size) (by omega) ((Below.refl _ _).alloc (Nat.le_refl _) _)
                clear hK K
                try simp only [Act.put, List.setIfInBounds_toArray, List.set_cons_zero, List.set_cons_succ]
                replace HBW := Lib.hid (HBW.out.alloc (by omega) (.cells #[.int .i8 x] 27))
                replace HW2 := Lib.hid (HW2.out.below ((Below.refl _ _).alloc hz (.cells #[.int .i8 x] 27)))
                replace HO2 := Lib.hid (HO2.out.alloc (.cells #[.int .i8 x] 27))
                have HXR := Lib.hid (Kit.Rd.new Wb1 [.int .i8 x] 27 (Nat.lt_succ_self _))
                clear h6 h7
                have hgx : w.heap.size + 4 ≤ Wb1.heap.size := hz
                replace hz : w.heap.size + 4 ≤ (Wb1.alloc (.cells #[.int .i8 x] 27)).heap.size := by simp; omega
                obtain ⟨-, -, -, ⟨-, -, -, h6, h7⟩, -, -⟩ := HW2.out
                generalize Wb1.alloc (.cells #[.int .i8 x] 27) = Wc2 at HBW HW2 HO2 HXR hz h6 h7 hHeld ⊢
                refine wpAnyH_ready (rs := [13]) (by kernel_rfl) (by simp) ?_
                refine AllReadyH.cons (o := ({ dst := some 48, op := Op.call { callee := Callee.builtin Builtin.append, args := #[Operand.tmp 36, Operand.tmp 47], argTypes := #[24, 24] }, type := 24, pos := "ref.go:24", after := #[{ on := 1, ground := Ground.data }, { on := 12, ground := Ground.data }, { on := 11, ground := Ground.chain }], guard := none } : Oper)) rfl (fun K hK => ?_) (AllReadyH.nil)
                refine Kit.step_append_rd _ rfl (.tmp 36) (.tmp 47) _ rfl (w.heap.size + 4) 27 i0 (.int .i8 0) 1 1 Try.underlying24 hi0 hi1 hi2 hi3 rfl (by decide) _ (o + k) (I8s (rowL F (o + k))) rfl HO2.out _ _ 1 1 [.int .i8 x] rfl rfl HXR.out (Kit.ints_one .i8 [x]) (by unfold maxLen; omega) (by omega) (by omega) ?_
                intro v5 w5 hown5 hg5 _
                obtain ⟨A5, c5, rfl, -, -, -⟩ := Kit.own_rd hown5
                have hb5 : Below (w.heap.size + 4) Wc2 w5 := (Below.refl _ _).grown hg5 hz (Kit.own_block_ge HO2.out)
                have hS1 := hHeld.below (B' := _) (by omega) hb5
                rw [rowL_succ F (o + k) x HXX.out] at hown5
                replace HBW := Lib.hid (HBW.out.trans (hb5.mono (by omega)))
                replace HW2 := Lib.hid (HW2.out.below hb5)
                replace HO2 := Lib.hid hown5
                replace hz := Nat.le_trans hz hb5.size
                clear hown5 hg5 hb5 hHeld h6 h7 HXR
                obtain ⟨-, -, -, ⟨-, -, -, h6, h7⟩, -, -⟩ := HW2.out
                dsimp only
                refine hK.out _ _ ?_ (fun hHeld => ?_)
                · exact hS1
                clear hK K
                try simp only [Act.put, List.setIfInBounds_toArray, List.set_cons_zero, List.set_cons_succ]
                refine wpAnyH_take (i := 14) (oi := ({ dst := some 49, op := Op.fieldAddr 26 (Operand.tmp 11) 1, type := 0, pos := "ref.go:24", after := #[{ on := 0, ground := Ground.phase }, { on := 1, ground := Ground.phase }, { on := 2, ground := Ground.phase }, { on := 3, ground := Ground.phase }, { on := 4, ground := Ground.phase }, { on := 5, ground := Ground.phase }, { on := 6, ground := Ground.phase }, { on := 7, ground := Ground.phase }, { on := 8, ground := Ground.phase }, { on := 9, ground := Ground.phase }, { on := 10, ground := Ground.phase }, { on := 11, ground := Ground.phase }, { on := 12, ground := Ground.phase }, { on := 13, ground := Ground.phase }], guard := none } : Oper)) (v := ?_) rfl (by kernel_rfl) (by kernel_rfl) (by kernel_rfl) (fun _ _ _ h => h) (Or.inl ⟨by rfl, ?_⟩) (by assumption) ?_
                rotate_left
                · intro wS hSw
                  first
                    | (go_simp; done)
                    | (go_simp; with_reducible rfl)
                try simp only [Act.put, List.setIfInBounds_toArray, List.set_cons_zero, List.set_cons_succ]
                have HW3 := Lib.hid (HW2.out.store (.slice A5 (o + k + 1) c5))
                have HO3 := Lib.hid (own_set HO2.out ⟨w.heap.size + 3, 3, none⟩ (.slice A5 (o + k + 1) c5) (by simp))
                refine wpAnyH_ready (rs := [15]) (by kernel_rfl) (by simp) ?_
                refine AllReadyH.cons (o := ({ dst := none, op := Op.store 24 (Operand.tmp 49) (Operand.tmp 48), type := 0, pos := "ref.go:24", after := #[{ on := 14, ground := Ground.data }, { on := 13, ground := Ground.data }, { on := 13, ground := Ground.chain }, { on := 0, ground := Ground.phase }, { on := 1, ground := Ground.phase }, { on := 2, ground := Ground.phase }, { on := 3, ground := Ground.phase }, { on := 4, ground := Ground.phase }, { on := 5, ground := Ground.phase }, { on := 6, ground := Ground.phase }, { on := 7, ground := Ground.phase }, { on := 8, ground := Ground.phase }, { on := 9, ground := Ground.phase }, { on := 10, ground := Ground.phase }, { on := 11, ground := Ground.phase }, { on := 12, ground := Ground.phase }, { on := 13, ground := Ground.phase }], guard := none } : Oper)) rfl (fun K hK => ?_) (AllReadyH.nil)
                go_simp
                refine hK.out _ _ ?_ (fun hHeld => ?_)
                · exact HW3.out.2.1
                clear hK K
                try simp only [Act.put, List.setIfInBounds_toArray, List.set_cons_zero, List.set_cons_succ]
                refine wpAnyH_done (by kernel_rfl) ?_ _
                clear h6 h7 HW2 HO2 hwi hwj
                go_wp2_with fail
                go_roundw
                case rel => exact ⟨k + 1, _, by omega, by go_num, HW3, HO3⟩
                case measure => simp [intOf]; omega
              refine AllReadyH.cons (o := ({ dst := some 46, op := Op.call { callee := Callee.value (Operand.func 21), args := #[Operand.tmp 37, Operand.tmp 40, Operand.tmp 43, Operand.tmp 44, Operand.tmp 45], argTypes := #[26, 3, 3, 3, 27] }, type := 27, pos := "ref.go:24", after := #[{ on := 2, ground := Ground.data }, { on := 5, ground := Ground.data }, { on := 8, ground := Ground.data }, { on := 9, ground := Ground.data }, { on := 10, ground := Ground.data }], guard := none } : Oper)) rfl (fun K hK => ?_) ?_
              · go_simp
                go_at_call 21
                refine (pix_to H W C A zs n c HN.out HT.out ((i : Int) - p) ((j : Int) - q) (k : Int) z hk0 hkI x HX.out (B := B) _ (by omega) ((HR.out.below (HBW.out.mono hB)))).mono ?_
                rintro e Wb0 ⟨rfl, hb1⟩
                have hS1 := hHeld.below (B' := _) (by omega) hb1
                replace HBW := Lib.hid (HBW.out.trans (hb1.mono (by omega)))
                replace HW2 := Lib.hid (HW2.out.below (hb1.mono hz))
                replace HO2 := Lib.hid (Kit.own_below HO2.out hb1)
                replace hz := Nat.le_trans hz hb1.size
                clear hb1 hHeld h6 h7
                obtain ⟨-, -, -, ⟨-, -, -, h6, h7⟩, -, -⟩ := HW2.out
                dsimp only
                refine hK.out _ _ ?_ (fun hHeld => ?_)
                · exact hS1
                clear hK K
                try simp only [Act.put, List.setIfInBounds_toArray, List.set_cons_zero, List.set_cons_succ]
                refine wpAnyH_ready (rs := [1, 12]) (by kernel_rfl) (by simp) ?_
                refine AllReadyH.cons (o := ({ dst := some 36, op := Op.load 24 (Operand.tmp 35), type := 24, pos := "ref.go:24", after := #[{ on := 0, ground := Ground.data }], guard := none } : Oper)) rfl (fun K hK => ?_) ?_
                · go_simp
                  refine hK.out _ _ ?_ (fun hHeld => ?_)
                  · exact hHeld
                  clear hK K
                  try simp only [Act.put, List.setIfInBounds_toArray, List.set_cons_zero, List.set_cons_succ]
                  refine wpAnyH_ready (rs := [12]) (by kernel_rfl) (by simp) ?_
                  refine AllReadyH.cons (o := ({ dst := some 47, op := Op.buildSlice 24 1 #[(0, Operand.tmp 46)], type := 24, pos := "ref.go:24", after := #[{ on := 11, ground := Ground.data }], guard := none } : Oper)) rfl (fun K hK => ?_) (AllReadyH.nil)
                  go_simp
                  refine hK.out _ _ ?_ (fun hHeld => ?_)
                  · exact hHeld.below (B' := Wb0.heap.size) (by omega) ((Below.refl _ _).alloc (Nat.le_refl _) _)
                  clear hK K
                  try simp only [Act.put, List.setIfInBounds_toArray, List.set_cons_zero, List.set_cons_succ]
                  replace HBW := Lib.hid (HBW.out.alloc (by omega) (.cells #[.int .i8 x] 27))
                  replace HW2 := Lib.hid (HW2.out.below ((Below.refl _ _).alloc hz (.cells #[.int .i8 x] 27)))
                  replace HO2 := Lib.hid (HO2.out.alloc (.cells #[.int .i8 x] 27))
                  have HXR := Lib.hid (Kit.Rd.new Wb0 [.int .i8 x] 27 (Nat.lt_succ_self _))
                  clear h6 h7
                  have hgx : w.heap.size + 4 ≤ Wb0.heap.size := hz
                  replace hz : w.heap.size + 4 ≤ (Wb0.alloc (.cells #[.int .i8 x] 27)).heap.size := by simp; omega
                  obtain ⟨-, -, -, ⟨-, -, -, h6, h7⟩, -, -⟩ := HW2.out
                  generalize Wb0.alloc (.cells #[.int .i8 x] 27) = Wc2 at HBW HW2 HO2 HXR hz h6 h7 hHeld ⊢
                  refine wpAnyH_ready (rs := [13]) (by kernel_rfl) (by simp) ?_
                  refine AllReadyH.cons (o := ({ dst := some 48, op := Op.call { callee := Callee.builtin Builtin.append, args := #[Operand.tmp 36, Operand.tmp 47], argTypes := #[24, 24] }, type := 24, pos := "ref.go:24", after := #[{ on := 1, ground := Ground.data }, { on := 12, ground := Ground.data }, { on := 11, ground := Ground.chain }], guard := none } : Oper)) rfl (fun K hK => ?_) (AllReadyH.nil)
                  refine Kit.step_append_rd _ rfl (.tmp 36) (.tmp 47) _ rfl (w.heap.size + 4) 27 i0 (.int .i8 0) 1 1 Try.underlying24 hi0 hi1 hi2 hi3 rfl (by decide) _ (o + k) (I8s (rowL F (o + k))) rfl HO2.out _ _ 1 1 [.int .i8 x] rfl rfl HXR.out (Kit.ints_one .i8 [x]) (by unfold maxLen; omega) (by omega) (by omega) ?_
                  intro v5 w5 hown5 hg5 _
                  obtain ⟨A5, c5, rfl, -, -, -⟩ := Kit.own_rd hown5
                  have hb5 : Below (w.heap.size + 4) Wc2 w5 := (Below.refl _ _).grown hg5 hz (Kit.own_block_ge HO2.out)
                  have hS1 := hHeld.below (B' := _) (by omega) hb5
                  rw [rowL_succ F (o + k) x HXX.out] at hown5
                  replace HBW := Lib.hid (HBW.out.trans (hb5.mono (by omega)))
                  replace HW2 := Lib.hid (HW2.out.below hb5)
                  replace HO2 := Lib.hid hown5
                  replace hz := Nat.le_trans hz hb5.size
                  clear hown5 hg5 hb5 hHeld h6 h7 HXR
                  obtain ⟨-, -, -, ⟨-, -, -, h6, h7⟩, -, -⟩ := HW2.out
                  dsimp only
                  refine hK.out _ _ ?_ (fun hHeld => ?_)
                  · exact hS1
                  clear hK K
                  try simp only [Act.put, List.setIfInBounds_toArray, List.set_cons_zero, List.set_cons_succ]
                  refine wpAnyH_take (i := 14) (oi := ({ dst := some 49, op := Op.fieldAddr 26 (Operand.tmp 11) 1, type := 0, pos := "ref.go:24", after := #[{ on := 0, ground := Ground.phase }, { on := 1, ground := Ground.phase }, { on := 2, ground := Ground.phase }, { on := 3, ground := Ground.phase }, { on := 4, ground := Ground.phase }, { on := 5, ground := Ground.phase }, { on := 6, ground := Ground.phase }, { on := 7, ground := Ground.phase }, { on := 8, ground := Ground.phase }, { on := 9, ground := Ground.phase }, { on := 10, ground := Ground.phase }, { on := 11, ground := Ground.phase }, { on := 12, ground := Ground.phase }, { on := 13, ground := Ground.phase }], guard := none } : Oper)) (v := ?_) rfl (by kernel_rfl) (by kernel_rfl) (by kernel_rfl) (fun _ _ _ h => h) (Or.inl ⟨by rfl, ?_⟩) (by assumption) ?_
                  rotate_left
                  · intro wS hSw
                    first
                      | (go_simp; done)
                      | (go_simp; with_reducible rfl)
                  try simp only [Act.put, List.setIfInBounds_toArray, List.set_cons_zero, List.set_cons_succ]
                  have HW3 := Lib.hid (HW2.out.store (.slice A5 (o + k + 1) c5))
                  have HO3 := Lib.hid (own_set HO2.out ⟨w.heap.size + 3, 3, none⟩ (.slice A5 (o + k + 1) c5) (by simp))
                  refine wpAnyH_ready (rs := [15]) (by kernel_rfl) (by simp) ?_
                  refine AllReadyH.cons (o := ({ dst := none, op := Op.store 24 (Operand.tmp 49) (Operand.tmp 48), type := 0, pos := "ref.go:24", after := #[{ on := 14, ground := Ground.data }, { on := 13, ground := Ground.data }, { on := 13, ground := Ground.chain }, { on := 0, ground := Ground.phase }, { on := 1, ground := Ground.phase }, { on := 2, ground := Ground.phase }, { on := 3, ground := Ground.phase }, { on := 4, ground := Ground.phase }, { on := 5, ground := Ground.phase }, { on := 6, ground := Ground.phase }, { on := 7, ground := Ground.phase }, { on := 8, ground := Ground.phase }, { on := 9, ground := Ground.phase }, { on := 10, ground := Ground.phase }, { on := 11, ground := Ground.phase }, { on := 12, ground := Ground.phase }, { on := 13, ground := Ground.phase }], guard := none } : Oper)) rfl (fun K hK => ?_) (AllReadyH.nil)
                  go_simp
                  refine hK.out _ _ ?_ (fun hHeld => ?_)
                  · exact HW3.out.2.1
                  clear hK K
                  try simp only [Act.put, List.setIfInBounds_toArray, List.set_cons_zero, List.set_cons_succ]
                  refine wpAnyH_done (by kernel_rfl) ?_ _
                  clear h6 h7 HW2 HO2 hwi hwj
                  go_wp2_with fail
                  go_roundw
                  case rel => exact ⟨k + 1, _, by omega, by go_num, HW3, HO3⟩
                  case measure => simp [intOf]; omega
                refine AllReadyH.cons (o := ({ dst := some 47, op := Op.buildSlice 24 1 #[(0, Operand.tmp 46)], type := 24, pos := "ref.go:24", after := #[{ on := 11, ground := Ground.data }], guard := none } : Oper)) rfl (fun K hK => ?_) ?_
                · go_simp
                  refine hK.out _ _ ?_ (fun hHeld => ?_)
                  · exact hHeld.below (B' := Wb0.heap.size) (by omega) ((Below.refl _ _).alloc (Nat.le_refl _) _)
                  clear hK K
                  try simp only [Act.put, List.setIfInBounds_toArray, List.set_cons_zero, List.set_cons_succ]
                  replace HBW := Lib.hid (HBW.out.alloc (by omega) (.cells #[.int .i8 x] 27))
                  replace HW2 := Lib.hid (HW2.out.below ((Below.refl _ _).alloc hz (.cells #[.int .i8 x] 27)))
                  replace HO2 := Lib.hid (HO2.out.alloc (.cells #[.int .i8 x] 27))
                  have HXR := Lib.hid (Kit.Rd.new Wb0 [.int .i8 x] 27 (Nat.lt_succ_self _))
                  clear h6 h7
                  have hgx : w.heap.size + 4 ≤ Wb0.heap.size := hz
                  replace hz : w.heap.size + 4 ≤ (Wb0.alloc (.cells #[.int .i8 x] 27)).heap.size := by simp; omega
                  obtain ⟨-, -, -, ⟨-, -, -, h6, h7⟩, -, -⟩ := HW2.out
                  generalize Wb0.alloc (.cells #[.int .i8 x] 27) = Wc1 at HBW HW2 HO2 HXR hz h6 h7 hHeld ⊢
                  refine wpAnyH_ready (rs := [1]) (by kernel_rfl) (by simp) ?_
                  refine AllReadyH.cons (o := ({ dst := some 36, op := Op.load 24 (Operand.tmp 35), type := 24, pos := "ref.go:24", after := #[{ on := 0, ground := Ground.data }], guard := none } : Oper)) rfl (fun K hK => ?_) (AllReadyH.nil)
                  go_simp
                  refine hK.out _ _ ?_ (fun hHeld => ?_)
                  · exact hHeld
                  clear hK K
                  try simp only [Act.put, List.setIfInBounds_toArray, List.set_cons_zero, List.set_cons_succ]
                  refine wpAnyH_ready (rs := [13]) (by kernel_rfl) (by simp) ?_
                  refine AllReadyH.cons (o := ({ dst := some 48, op := Op.call { callee := Callee.builtin Builtin.append, args := #[Operand.tmp 36, Operand.tmp 47], argTypes := #[24, 24] }, type := 24, pos := "ref.go:24", after := #[{ on := 1, ground := Ground.data }, { on := 12, ground := Ground.data }, { on := 11, ground := Ground.chain }], guard := none } : Oper)) rfl (fun K hK => ?_) (AllReadyH.nil)
                  refine Kit.step_append_rd _ rfl (.tmp 36) (.tmp 47) _ rfl (w.heap.size + 4) 27 i0 (.int .i8 0) 1 1 Try.underlying24 hi0 hi1 hi2 hi3 rfl (by decide) _ (o + k) (I8s (rowL F (o + k))) rfl HO2.out _ _ 1 1 [.int .i8 x] rfl rfl HXR.out (Kit.ints_one .i8 [x]) (by unfold maxLen; omega) (by omega) (by omega) ?_
                  intro v5 w5 hown5 hg5 _
                  obtain ⟨A5, c5, rfl, -, -, -⟩ := Kit.own_rd hown5
                  have hb5 : Below (w.heap.size + 4) Wc1 w5 := (Below.refl _ _).grown hg5 hz (Kit.own_block_ge HO2.out)
                  have hS1 := hHeld.below (B' := _) (by omega) hb5
                  rw [rowL_succ F (o + k) x HXX.out] at hown5
                  replace HBW := Lib.hid (HBW.out.trans (hb5.mono (by omega)))
                  replace HW2 := Lib.hid (HW2.out.below hb5)
                  replace HO2 := Lib.hid hown5
                  replace hz := Nat.le_trans hz hb5.size
                  clear hown5 hg5 hb5 hHeld h6 h7 HXR
                  obtain ⟨-, -, -, ⟨-, -, -, h6, h7⟩, -, -⟩ := HW2.out
                  dsimp only
                  refine hK.out _ _ ?_ (fun hHeld => ?_)
                  · exact hS1
                  clear hK K
                  try simp only [Act.put, List.setIfInBounds_toArray, List.set_cons_zero, List.set_cons_succ]
                  refine wpAnyH_take (i := 14) (oi := ({ dst := some 49, op := Op.fieldAddr 26 (Operand.tmp 11) 1, type := 0, pos := "ref.go:24", after := #[{ on := 0, ground := Ground.phase }, { on := 1, ground := Ground.phase }, { on := 2, ground := Ground.phase }, { on := 3, ground := Ground.phase }, { on := 4, ground := Ground.phase }, { on := 5, ground := Ground.phase }, { on := 6, ground := Ground.phase }, { on := 7, ground := Ground.phase }, { on := 8, ground := Ground.phase }, { on := 9, ground := Ground.phase }, { on := 10, ground := Ground.phase }, { on := 11, ground := Ground.phase }, { on := 12, ground := Ground.phase }, { on := 13, ground := Ground.phase }], guard := none } : Oper)) (v := ?_) rfl (by kernel_rfl) (by kernel_rfl) (by kernel_rfl) (fun _ _ _ h => h) (Or.inl ⟨by rfl, ?_⟩) (by assumption) ?_
                  rotate_left
                  · intro wS hSw
                    first
                      | (go_simp; done)
                      | (go_simp; with_reducible rfl)
                  try simp only [Act.put, List.setIfInBounds_toArray, List.set_cons_zero, List.set_cons_succ]
                  have HW3 := Lib.hid (HW2.out.store (.slice A5 (o + k + 1) c5))
                  have HO3 := Lib.hid (own_set HO2.out ⟨w.heap.size + 3, 3, none⟩ (.slice A5 (o + k + 1) c5) (by simp))
                  refine wpAnyH_ready (rs := [15]) (by kernel_rfl) (by simp) ?_
                  refine AllReadyH.cons (o := ({ dst := none, op := Op.store 24 (Operand.tmp 49) (Operand.tmp 48), type := 0, pos := "ref.go:24", after := #[{ on := 14, ground := Ground.data }, { on := 13, ground := Ground.data }, { on := 13, ground := Ground.chain }, { on := 0, ground := Ground.phase }, { on := 1, ground := Ground.phase }, { on := 2, ground := Ground.phase }, { on := 3, ground := Ground.phase }, { on := 4, ground := Ground.phase }, { on := 5, ground := Ground.phase }, { on := 6, ground := Ground.phase }, { on := 7, ground := Ground.phase }, { on := 8, ground := Ground.phase }, { on := 9, ground := Ground.phase }, { on := 10, ground := Ground.phase }, { on := 11, ground := Ground.phase }, { on := 12, ground := Ground.phase }, { on := 13, ground := Ground.phase }], guard := none } : Oper)) rfl (fun K hK => ?_) (AllReadyH.nil)
                  go_simp
                  refine hK.out _ _ ?_ (fun hHeld => ?_)
                  · exact HW3.out.2.1
                  clear hK K
                  try simp only [Act.put, List.setIfInBounds_toArray, List.set_cons_zero, List.set_cons_succ]
                  refine wpAnyH_done (by kernel_rfl) ?_ _
                  clear h6 h7 HW2 HO2 hwi hwj
                  go_wp2_with fail
                  go_roundw
                  case rel => exact ⟨k + 1, _, by omega, by go_num, HW3, HO3⟩
                  case measure => simp [intOf]; omega
                exact AllReadyH.nil
              exact AllReadyH.nil
            · obtain rfl : k = d := by omega
              have hkI : ¬ (k : Int) < C := by have := HCd.out; omega
              have e : (i * b + (j + 1)) * k = o + k := by rw [← HOO.out, ← Nat.add_assoc, Nat.add_mul _ 1, Nat.one_mul]
              have hO3 : Hid (wr.ownsRow (w.heap.size + 4) 27 1 (.slice Av (o + k) cv) ((i * b + (j + 1)) * k) (I8s (rowL F ((i * b + (j + 1)) * k)))) := by rw [e]; exact hO2
              go_wp2_with fail
              go_roundw
              case rel => exact ⟨j + 1, _, by omega, by go_num, hW2, hO3⟩
              case measure => simp [intOf]; omega
        · obtain rfl : j = b := by omega
          have hjI : ¬ (j : Int) < V := by have := HV.out; omega
          have e : (i + 1) * j * d = (i * j + j) * d := by rw [Nat.add_mul i 1, Nat.one_mul]
          rw [← e] at hO1
          go_wp2_with fail
          go_roundw
          case rel => exact ⟨i + 1, _, by omega, by go_num, hW1, hO1⟩
          case measure => simp [intOf]; omega
    · obtain rfl : i = a := by omega
      have hiI : ¬ (i : Int) < U := by have := HU.out; omega
      rw [HM.out] at hO0
      obtain ⟨Av, cv, rfl, -, -, -⟩ := Kit.own_rd hO0.out
      clear a1 a2 a3
      obtain ⟨⟨a1, a2, a3⟩, -, ⟨⟨z0, z1, z2, z3⟩, z4, z5, z6, z7⟩, ⟨h3, h4, h5, h6, h7⟩, hbw, -⟩ := hW0.out
      have HBW := Lib.hid hbw
      clear hbw
      go_wp2_with fail
      refine bodyPost_ret (Kit.results_c rfl _ _ (w.heap.size + 2) 0 [.int .i64 U, .int .i64 V, .int .i64 C, .slice Av m cv] _ rfl (range_4 (by go_cell) (by go_cell) (by go_cell) (by go_cell)) Try.underlying26 rfl (by kernel_rfl)) rfl ?_
      refine ⟨_, rfl, Kit.own_base (own_set (own_set (own_set (own_set hO0.out _ _ ?_) _ _ ?_) _ _ ?_) _ _ ?_) ?_, ?_⟩
      any_goals (first | omega | (simp; done) | (simp; omega))
      exact (((HBW.out.setCell (p := ⟨w.heap.size + 2, 0, none⟩) (by simp) _).setCell (p := ⟨w.heap.size + 2, 1, none⟩) (by simp) _).setCell (p := ⟨w.heap.size + 2, 2, none⟩) (by simp) _).setCell (p := ⟨w.heap.size + 2, 3, none⟩) (by simp) _
end Go.Proofs.Ytgoonenkcikkaaa.CPad
