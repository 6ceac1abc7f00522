/- Layer 23 (turn), the document: one quarter. -/
import Derived.Test.YtmjcjdgdpecpjaaPadRef
namespace Go.Proofs.Ytmjcjdgdpecpjaa.CTurn
open Go Go.ChangeShapes Go.WideShapes Go.ChangeAt Go.RowKit
open Plain CSat CShape CTensor CPad
set_option linter.unusedVariables false

/-- how a round stands: the tensor's box, the result's block as it was made, the new tensor's block with its list. -/
def TurnAt (w0 : World) (g : Nat) (U V H W C : Int) (A : Option Addr) (n c : Nat) (v : Value) (wd : World) : Prop :=
  BoxAt g H W C A n c wd ∧ FreshT (g + 1) wd ∧ (wd.cell? ⟨g + 2, 0, none⟩ = some (.int .i64 U) ∧ wd.cell? ⟨g + 2, 1, none⟩ = some (.int .i64 V) ∧ wd.cell? ⟨g + 2, 2, none⟩ = some (.int .i64 C) ∧ wd.cell? ⟨g + 2, 3, none⟩ = some v ∧ wd.frozen? ⟨g + 2, 3, none⟩ = false) ∧
  Below g w0 wd ∧ g + 3 ≤ wd.heap.size
theorem TurnAt.below {w0 : World} {g : Nat} {U V H W C : Int} {A : Option Addr} {n c : Nat} {v : Value} {wd w' : World} (h : TurnAt w0 g U V H W C A n c v wd) (hb : Below (g + 3) wd w') : TurnAt w0 g U V H W C A n c v w' := by
  obtain ⟨h0, h2, ⟨h3, h4, h5, h6, h7⟩, h8, h9⟩ := h
  exact ⟨h0.below (by omega) hb, h2.below (by omega) hb, ⟨(hb.cell (p := ⟨g + 2, 0, none⟩) (by simp)).trans h3, (hb.cell (p := ⟨g + 2, 1, none⟩) (by simp)).trans h4, (hb.cell (p := ⟨g + 2, 2, none⟩) (by simp)).trans h5, (hb.cell (p := ⟨g + 2, 3, none⟩) (by simp)).trans h6, (hb.frozen (p := ⟨g + 2, 3, none⟩) (by simp)).trans h7⟩,
    h8.trans (hb.mono (by omega)), Nat.le_trans h9 hb.size⟩
theorem TurnAt.store {w0 : World} {g : Nat} {U V H W C : Int} {A : Option Addr} {n c : Nat} {v : Value} {wd : World} (h : TurnAt w0 g U V H W C A n c v wd) (u : Value) : TurnAt w0 g U V H W C A n c u (wd.setCell ⟨g + 2, 3, none⟩ u) := by
  obtain ⟨⟨b1, b2, b3, b4⟩, ⟨⟨f1, f2, f3, f4⟩, f5, f6, f7, f8⟩, ⟨h3, h4, h5, h6, h7⟩, h8, h9⟩ := h
  have k : ∀ (b i : Nat), b ≠ g + 2 ∨ i ≠ 3 → (wd.setCell ⟨g + 2, 3, none⟩ u).cell? ⟨b, i, none⟩ = wd.cell? ⟨b, i, none⟩ := fun b i hne => World.cell?_setCell_other _ _ _ _ (fun e => by injection e; omega)
  have fz : ∀ (b i : Nat), (wd.setCell ⟨g + 2, 3, none⟩ u).frozen? ⟨b, i, none⟩ = wd.frozen? ⟨b, i, none⟩ := fun b i => World.frozen?_setCell _ _ _ _
  refine ⟨⟨?_, ?_, ?_, ?_⟩, ⟨⟨?_, ?_, ?_, ?_⟩, ?_, ?_, ?_, ?_⟩, ⟨?_, ?_, ?_, World.cell?_setCell_same _ _ _ h6, ?_⟩, h8.setCell (p := ⟨g + 2, 3, none⟩) (by simp) _, by simpa using h9⟩
  all_goals first | (rw [k _ _ (by omega)]; assumption) | (rw [fz]; assumption)
theorem TurnAt.new (w : World) (U V H W C : Int) (A : Option Addr) (n c : Nat) : TurnAt w w.heap.size U V H W C A n c (.slice none 0 0) (((w.alloc (.cells #[.int .i64 H, .int .i64 W, .int .i64 C, .slice A n c] 26)).alloc (.cells #[.int .i64 0, .int .i64 0, .int .i64 0, .slice none 0 0] 26)).alloc (.cells #[.int .i64 U, .int .i64 V, .int .i64 C, .slice none 0 0] 26)) := by
  have s1 : (w.alloc (.cells #[.int .i64 H, .int .i64 W, .int .i64 C, .slice A n c] 26)).heap.size = w.heap.size + 1 := by simp
  have s2 : ((w.alloc (.cells #[.int .i64 H, .int .i64 W, .int .i64 C, .slice A n c] 26)).alloc (.cells #[.int .i64 0, .int .i64 0, .int .i64 0, .slice none 0 0] 26)).heap.size = w.heap.size + 2 := by simp
  have b3 : Below (w.heap.size + 2) ((w.alloc (.cells #[.int .i64 H, .int .i64 W, .int .i64 C, .slice A n c] 26)).alloc (.cells #[.int .i64 0, .int .i64 0, .int .i64 0, .slice none 0 0] 26)) (((w.alloc (.cells #[.int .i64 H, .int .i64 W, .int .i64 C, .slice A n c] 26)).alloc (.cells #[.int .i64 0, .int .i64 0, .int .i64 0, .slice none 0 0] 26)).alloc (.cells #[.int .i64 U, .int .i64 V, .int .i64 C, .slice none 0 0] 26)) := (Below.refl _ _).alloc (by omega) _
  have b2 : Below (w.heap.size + 1) (w.alloc (.cells #[.int .i64 H, .int .i64 W, .int .i64 C, .slice A n c] 26)) (((w.alloc (.cells #[.int .i64 H, .int .i64 W, .int .i64 C, .slice A n c] 26)).alloc (.cells #[.int .i64 0, .int .i64 0, .int .i64 0, .slice none 0 0] 26)).alloc (.cells #[.int .i64 U, .int .i64 V, .int .i64 C, .slice none 0 0] 26)) := Below.trans ((Below.refl _ _).alloc (by omega) _) (b3.mono (by omega))
  have h00 : BoxAt w.heap.size H W C A n c (w.alloc (.cells #[.int .i64 H, .int .i64 W, .int .i64 C, .slice A n c] 26)) := BoxAt.new H W C A n c 26 w
  have h0 := h00.below (Nat.lt_succ_self _) b2
  have h2 := (FreshT.new 26 (w.alloc (.cells #[.int .i64 H, .int .i64 W, .int .i64 C, .slice A n c] 26)) (w.heap.size + 1) s1.symm).below (by omega) b3
  have cc : ∀ j, (((w.alloc (.cells #[.int .i64 H, .int .i64 W, .int .i64 C, .slice A n c] 26)).alloc (.cells #[.int .i64 0, .int .i64 0, .int .i64 0, .slice none 0 0] 26)).alloc (.cells #[.int .i64 U, .int .i64 V, .int .i64 C, .slice none 0 0] 26)).cell? ⟨w.heap.size + 2, j, none⟩ = (#[.int .i64 U, .int .i64 V, .int .i64 C, .slice none 0 0] : Array Value)[j]? := fun j => by
    rw [← s2]; exact Kit.new_cell _ _ _ _
  refine ⟨h0, h2, ⟨cc 0, cc 1, cc 2, cc 3, ?_⟩, (((Below.refl _ _).alloc (Nat.le_refl _) _).alloc (by omega) _).alloc (by omega) _, by simp⟩
  rw [← s2]; exact World.frozen?_alloc_at _ _ _ _ rfl
/-- the numbers of a list, one behind the other. -/
def rowL (F : Nat → Int) (k : Nat) : List Int := (List.range k).map F
theorem rowL_succ (F : Nat → Int) (k : Nat) (x : Int) (h : F k = x) : I8s (rowL F k) ++ [.int .i8 x] = I8s (rowL F (k + 1)) := by
  simp [I8s, rowL, List.range_succ, h]
theorem rowL_len (F : Nat → Int) (k : Nat) : (rowL F k).length = k := by simp [rowL]
theorem at_lt {a b d i j k : Nat} (hi : i < a) (hj : j < b) (hk : k < d) : (i * b + j) * d + k < a * b * d := by
  have e1 : (i + 1) * b ≤ a * b := Nat.mul_le_mul_right _ hi
  have e2 : (i * b + j + 1) * d ≤ a * b * d := Nat.mul_le_mul_right _ (by rw [Nat.add_mul, Nat.one_mul] at e1; omega)
  rw [Nat.add_mul _ 1 d, Nat.one_mul] at e2
  omega
theorem info_i8t : (Try.prog.info? 37).map (fun i => (i.zero, i.size, i.bytes)) = some (some (.int .i8 0), 1, 1) := by kernel_rfl
theorem info_partst {P : Program} {t : TypeId} {z : Option Value} {s b : Nat} (h : (P.info? t).map (fun i => (i.zero, i.size, i.bytes)) = some (z, s, b)) : ∃ i, P.info? t = some i ∧ i.zero = z ∧ i.size = s ∧ i.bytes = b := by
  cases hi : P.info? t with
  | none => rw [hi] at h; cases h
  | some i => rw [hi] at h; simp at h; exact ⟨i, rfl, h.1, h.2.1, h.2.2⟩
theorem range_4t {w : World} {b : Nat} {x y z u : Value} (h0 : w.cell? ⟨b, 0, none⟩ = some x) (h1 : w.cell? ⟨b, 1, none⟩ = some y) (h2 : w.cell? ⟨b, 2, none⟩ = some z) (h3 : w.cell? ⟨b, 3, none⟩ = some u) : w.rangeAt b 0 [x, y, z, u] := by
  intro j v hj
  match j, hj with
  | 0, hj => simpa [← hj] using h0
  | 1, hj => simpa [← hj] using h1
  | 2, hj => simpa [← hj] using h2
  | 3, hj => simpa [← hj] using h3
theorem own_set4t {w : World} {base g : Nat} {e : TypeId} {size n : Nat} {v : Value} {xs : List Value} {x y z u : Value} (h : w.ownsRow base e size v n xs) (hg : g < base) : ((((w.setCell ⟨g, 0, none⟩ x).setCell ⟨g, 1, none⟩ y).setCell ⟨g, 2, none⟩ z).setCell ⟨g, 3, none⟩ u).ownsRow base e size v n xs :=
  own_set (own_set (own_set (own_set h _ _ hg) _ _ hg) _ _ hg) _ _ hg
/-- a tensor of the call's own. -/
def MadeU (w : World) (H W C : Int) (n : Nat) (zs : List Int) (e : Ending) (w' : World) : Prop :=
  ∃ v, e = .returned (.agg #[.int .i64 H, .int .i64 W, .int .i64 C, v]) ∧ w'.ownsRow w.heap.size 37 1 v n (I8s zs) ∧ Below w.heap.size w w'
set_option maxRecDepth 100000 in
set_option maxHeartbeats 4000000 in
theorem ronce_to (H W C : Int) (A : Option Addr) (zs : List Int) (n c : Nat) (hn : zs.length = n) (ht : tensB H W C n = true) (a b d : Nat) (hU : W = (a : Int)) (hV : H = (b : Int)) (hC : C = (d : Int)) (ha : a ≤ 16) (hb : b ≤ 16) (hd : d ≤ 1024) (m : Nat) (hm : a * b * d = m) (hm2 : m ≤ 1024)
    (F : Nat → Int) (hF : ∀ i j k : Nat, i < a → j < b → k < d → zs.getD ((((j : Int)) * W + (W - 1 - (i : Int))) * C + (k : Int)).toNat 0 = F ((i * b + j) * d + k))
    {B : Nat} (w : World) (hB : B ≤ w.heap.size) (hr : Kit.Rd w B A (I8s zs)) :
    Calls Try.prog 20 #[.agg #[.int .i64 H, .int .i64 W, .int .i64 C, .slice A n c]] w (MadeU w W H C m (rowL F m)) := by
  have HN := Lib.hid hn
  have HT := Lib.hid ht
  have HF := Lib.hid hF
  have HM := Lib.hid hm
  have HR := Lib.hid hr
  have HU := Lib.hid hU
  have HV := Lib.hid hV
  have HCd := Lib.hid hC
  have hUI : W ≤ 16 := by omega
  have hVI : H ≤ 16 := by omega
  have hCI : C ≤ 1024 := by omega
  clear hn ht hF hm hr hU hV hC
  obtain ⟨i0, hi0, hi1, hi2, hi3⟩ := info_partst info_i8t
  go_enter Try.func20, Try.ntmps20
  go_wp2_with fail
  have HW := Lib.hid (TurnAt.new w W H H W C A n c)
  have HO : Hid ((((w.alloc (.cells #[.int .i64 H, .int .i64 W, .int .i64 C, .slice A n c] 26)).alloc (.cells #[.int .i64 0, .int .i64 0, .int .i64 0, .slice none 0 0] 26)).alloc (.cells #[.int .i64 W, .int .i64 H, .int .i64 C, .slice none 0 0] 26)).ownsRow (w.heap.size + 3) 37 1 (.slice none 0 0) 0 (I8s (rowL F 0))) := Lib.hid ⟨by simp [I8s, rowL], .inl ⟨rfl, rfl⟩⟩
  try rw [show w.heap.size + 1 + 1 = w.heap.size + 2 from rfl]
  generalize (((w.alloc (.cells #[.int .i64 H, .int .i64 W, .int .i64 C, .slice A n c] 26)).alloc (.cells #[.int .i64 0, .int .i64 0, .int .i64 0, .slice none 0 0] 26)).alloc (.cells #[.int .i64 W, .int .i64 H, .int .i64 C, .slice none 0 0] 26)) = Wm at HW HO ⊢
  go_loopw [4, 5, 6] (fun x _ _ wr => ∃ (i : Nat) (v : Value), i ≤ a ∧ x = .int .i64 i ∧ Hid (TurnAt w w.heap.size W H H W C A n c v wr) ∧ Hid (wr.ownsRow (w.heap.size + 3) 37 1 v (i * b * d) (I8s (rowL F (i * b * d))))) (fun x _ _ _ => a - (intOf x).toNat)
  case atStart => exact ⟨0, _, Nat.zero_le _, rfl, HW, by simpa using HO⟩
  case round =>
    obtain ⟨i, v0, hi, rfl, hW0, hO0⟩ := hrel
    clear HW HO
    obtain ⟨-, -, ⟨a1, a2, a3, -, -⟩, -, hz⟩ := hW0.out
    by_cases hlt : i < a
    · have hiI : (i : Int) < W := by have := HU.out; omega
      go_wp2_with fail
      go_loopw [5, 6] (fun x _ wr => ∃ (j : Nat) (v : Value), j ≤ b ∧ x = .int .i64 j ∧ Hid (TurnAt w w.heap.size W H H W C A n c v wr) ∧ Hid (wr.ownsRow (w.heap.size + 3) 37 1 v ((i * b + j) * d) (I8s (rowL F ((i * b + j) * d))))) (fun x _ _ => b - (intOf x).toNat)
      case atStart => exact ⟨0, _, Nat.zero_le _, rfl, hW0, by simpa using hO0⟩
      case round =>
        obtain ⟨j, v1, hj, rfl, hW1, hO1⟩ := hrel
        clear hW0 hO0 a1 a2 a3 hz
        obtain ⟨-, -, ⟨a1, a2, a3, -, -⟩, -, hz⟩ := hW1.out
        by_cases hltj : j < b
        · have hjI : (j : Int) < H := by have := HV.out; omega
          obtain ⟨o, ho⟩ : ∃ o, (i * b + j) * d = o := ⟨_, rfl⟩
          rw [ho] at hO1
          have HOO := Lib.hid ho
          clear ho
          go_wp2_with fail
          go_loopw [6] (fun x wr => ∃ (k : Nat) (v : Value), k ≤ d ∧ x = .int .i64 k ∧ Hid (TurnAt w w.heap.size W H H W C A n c v wr) ∧ Hid (wr.ownsRow (w.heap.size + 3) 37 1 v (o + k) (I8s (rowL F (o + k))))) (fun x _ => d - (intOf x).toNat)
          case atStart => exact ⟨0, _, Nat.zero_le _, rfl, hW1, hO1⟩
          case round =>
            obtain ⟨k, v, hk, rfl, hW2, hO2⟩ := hrel
            clear hW1 hO1 a1 a2 a3 hz
            obtain ⟨Av, cv, rfl, -, -, -⟩ := Kit.own_rd hO2.out
            obtain ⟨hbx, -, ⟨a1, a2, a3, h6, h7⟩, hbw, hz⟩ := hW2.out
            by_cases hltk : k < d
            · have hkI : (k : Int) < C := by have := HCd.out; omega
              have hk0 : (0 : Int) ≤ (k : Int) := by omega
              have hom : o + k < m := by rw [← HOO.out, ← HM.out]; exact at_lt hlt hltj hltk
              obtain ⟨x, hx⟩ : ∃ x, F (o + k) = x := ⟨_, rfl⟩
              obtain ⟨q, hq⟩ : ∃ q, W - 1 - (i : Int) = q := ⟨_, rfl⟩
              have HX := Lib.hid (show zs.getD ((((j : Int)) * W + q) * C + (k : Int)).toNat 0 = x by rw [← hx, ← HOO.out, ← hq]; exact HF.out i j k hlt hltj hltk)
              have HXX := Lib.hid hx
              have HBW := Lib.hid hbw
              have hq0 : 0 ≤ q := by omega
              have hq1 : q < W := by omega
              have hp0 : (0 : Int) ≤ (j : Int) := by omega
              have hp1 : (j : Int) < H := by omega
              have hw1 : IntKind.i64.wrap (W - 1) = W - 1 := IntWalk.i64_in _ (by omega)
              have hw2 : IntKind.i64.wrap (W - 1 - (i : Int)) = q := by rw [← hq]; exact IntWalk.i64_in _ (by omega)
              clear hx hbw hq
              go_wp2_with fail
              refine wp_region_held_drew (S := BoxAt w.heap.size H W C A n c) (by kernel_rfl) hbx (fun hHeld => ?_)
              clear hbx
              replace HBW := Lib.hid HBW.out.drew
              have h6 : wr.drew.cell? ⟨w.heap.size + 2, 3, none⟩ = some (.slice Av (o + k) cv) := h6
              have h7 : wr.drew.frozen? ⟨w.heap.size + 2, 3, none⟩ = false := h7
              have HW2 : Hid (TurnAt w w.heap.size W H H W C A n c (.slice Av (o + k) cv) wr.drew) := Lib.hid (hW2.out.below (Below.refl _ _).drew)
              have HO2 : Hid (wr.drew.ownsRow (w.heap.size + 3) 37 1 (.slice Av (o + k) cv) (o + k) (I8s (rowL F (o + k)))) := Lib.hid (Kit.own_below hO2.out (Below.refl _ _).drew)
              have hz : w.heap.size + 3 ≤ wr.drew.heap.size := hz
              clear hW2 hO2 a1 a2 a3
              generalize wr.drew = Wa at HBW h6 h7 HW2 HO2 hz hHeld ⊢
              refine wpAnyH_take (i := 0) (oi := ({ dst := some 39, op := Op.fieldAddr 26 (Operand.tmp 3) 1, type := 0, pos := "ref.go:15", after := #[], guard := none } : Oper)) (v := ?_) rfl (by kernel_rfl) (by kernel_rfl) (by kernel_rfl) (fun _ _ _ h => h) (Or.inl ⟨by rfl, ?_⟩) (by assumption) ?_
              rotate_left
              · intro wS hSw
                first
                  | (go_simp; done)
                  | (go_simp; with_reducible rfl)
              try simp only [Act.put, List.setIfInBounds_toArray, List.set_cons_zero, List.set_cons_succ]
              refine wpAnyH_take (i := 2) (oi := ({ dst := some 41, op := Op.load 26 (Operand.tmp 1), type := 26, pos := "ref.go:15", after := #[], guard := none } : Oper)) (v := ?_) rfl (by kernel_rfl) (by kernel_rfl) (by kernel_rfl) (fun _ _ _ h => h) (Or.inl ⟨by rfl, ?_⟩) (by assumption) ?_
              rotate_left
              · intro wS hSw
                obtain ⟨s1, s2, s3, s4⟩ := hSw
                first
                  | (go_simp; done)
                  | (go_simp; with_reducible rfl)
              try simp only [Act.put, List.setIfInBounds_toArray, List.set_cons_zero, List.set_cons_succ]
              refine wpAnyH_take (i := 3) (oi := ({ dst := some 42, op := Op.move (Operand.tmp 5), type := 3, pos := "ref.go:15", after := #[], guard := none } : Oper)) (v := ?_) rfl (by kernel_rfl) (by kernel_rfl) (by kernel_rfl) (fun _ _ _ h => h) (Or.inl ⟨by rfl, ?_⟩) (by assumption) ?_
              rotate_left
              · intro wS hSw
                first
                  | (go_simp; done)
                  | (go_simp; with_reducible rfl)
              try simp only [Act.put, List.setIfInBounds_toArray, List.set_cons_zero, List.set_cons_succ]
              refine wpAnyH_take (i := 4) (oi := ({ dst := some 43, op := Op.fieldAddr 26 (Operand.tmp 1) 0, type := 0, pos := "ref.go:15", after := #[], guard := none } : Oper)) (v := ?_) rfl (by kernel_rfl) (by kernel_rfl) (by kernel_rfl) (fun _ _ _ h => h) (Or.inl ⟨by rfl, ?_⟩) (by assumption) ?_
              rotate_left
              · intro wS hSw
                first
                  | (go_simp; done)
                  | (go_simp; with_reducible rfl)
              try simp only [Act.put, List.setIfInBounds_toArray, List.set_cons_zero, List.set_cons_succ]
              refine wpAnyH_take (i := 5) (oi := ({ dst := some 44, op := Op.fieldAddr 23 (Operand.tmp 43) 1, type := 0, pos := "ref.go:15", after := #[{ on := 4, ground := Ground.data }], guard := none } : Oper)) (v := ?_) rfl (by kernel_rfl) (by kernel_rfl) (by kernel_rfl) (fun _ _ _ h => h) (Or.inl ⟨by rfl, ?_⟩) (by assumption) ?_
              rotate_left
              · intro wS hSw
                first
                  | (go_simp; done)
                  | (go_simp; with_reducible rfl)
              try simp only [Act.put, List.setIfInBounds_toArray, List.set_cons_zero, List.set_cons_succ]
              refine wpAnyH_take (i := 6) (oi := ({ dst := some 45, op := Op.load 3 (Operand.tmp 44), type := 3, pos := "ref.go:15", after := #[{ on := 5, ground := Ground.data }], guard := none } : Oper)) (v := ?_) rfl (by kernel_rfl) (by kernel_rfl) (by kernel_rfl) (fun _ _ _ h => h) (Or.inl ⟨by rfl, ?_⟩) (by assumption) ?_
              rotate_left
              · intro wS hSw
                obtain ⟨s1, s2, s3, s4⟩ := hSw
                first
                  | (go_simp; done)
                  | (go_simp; with_reducible rfl)
              try simp only [Act.put, List.setIfInBounds_toArray, List.set_cons_zero, List.set_cons_succ]
              refine wpAnyH_take (i := 7) (oi := ({ dst := some 46, op := Op.binOp BinOp.sub 3 (Operand.tmp 45) (Operand.const (Value.int IntKind.i64 1)) 3, type := 3, pos := "ref.go:15", after := #[{ on := 6, ground := Ground.data }], guard := none } : Oper)) (v := ?_) rfl (by kernel_rfl) (by kernel_rfl) (by kernel_rfl) (fun _ _ _ h => h) (Or.inl ⟨by rfl, ?_⟩) (by assumption) ?_
              rotate_left
              · intro wS hSw
                first
                  | (go_simp; done)
                  | (go_simp; with_reducible rfl)
              try simp only [Act.put, List.setIfInBounds_toArray, List.set_cons_zero, List.set_cons_succ]
              refine wpAnyH_take (i := 8) (oi := ({ dst := some 47, op := Op.move (Operand.tmp 4), type := 3, pos := "ref.go:15", after := #[], guard := none } : Oper)) (v := ?_) rfl (by kernel_rfl) (by kernel_rfl) (by kernel_rfl) (fun _ _ _ h => h) (Or.inl ⟨by rfl, ?_⟩) (by assumption) ?_
              rotate_left
              · intro wS hSw
                first
                  | (go_simp; done)
                  | (go_simp; with_reducible rfl)
              try simp only [Act.put, List.setIfInBounds_toArray, List.set_cons_zero, List.set_cons_succ]
              refine wpAnyH_take (i := 9) (oi := ({ dst := some 48, op := Op.binOp BinOp.sub 3 (Operand.tmp 46) (Operand.tmp 47) 3, type := 3, pos := "ref.go:15", after := #[{ on := 7, ground := Ground.data }, { on := 8, ground := Ground.data }], guard := none } : Oper)) (v := ?_) rfl (by kernel_rfl) (by kernel_rfl) (by kernel_rfl) (fun _ _ _ h => h) (Or.inl ⟨by rfl, ?_⟩) (by assumption) ?_
              rotate_left
              · intro wS hSw
                first
                  | (go_simp; done)
                  | (go_simp; with_reducible rfl)
              try simp only [Act.put, List.setIfInBounds_toArray, List.set_cons_zero, List.set_cons_succ]
              refine wpAnyH_take (i := 10) (oi := ({ dst := some 49, op := Op.move (Operand.tmp 6), type := 3, pos := "ref.go:15", after := #[], guard := none } : Oper)) (v := ?_) rfl (by kernel_rfl) (by kernel_rfl) (by kernel_rfl) (fun _ _ _ h => h) (Or.inl ⟨by rfl, ?_⟩) (by assumption) ?_
              rotate_left
              · intro wS hSw
                first
                  | (go_simp; done)
                  | (go_simp; with_reducible rfl)
              try simp only [Act.put, List.setIfInBounds_toArray, List.set_cons_zero, List.set_cons_succ]
              refine wpAnyH_ready (rs := [1, 11]) (by kernel_rfl) (by simp) ?_
              refine AllReadyH.cons (o := ({ dst := some 40, op := Op.load 24 (Operand.tmp 39), type := 24, pos := "ref.go:15", after := #[{ on := 0, ground := Ground.data }], guard := none } : Oper)) rfl (fun K hK => ?_) ?_
              · go_simp
                refine hK.out _ _ ?_ (fun hHeld => ?_)
                · exact hHeld
                clear hK K
                try simp only [Act.put, List.setIfInBounds_toArray, List.set_cons_zero, List.set_cons_succ]
                refine wpAnyH_ready (rs := [11]) (by kernel_rfl) (by simp) ?_
                refine AllReadyH.cons (o := ({ dst := some 50, op := Op.call { callee := Callee.value (Operand.func 21), args := #[Operand.tmp 41, Operand.tmp 42, Operand.tmp 48, Operand.tmp 49], argTypes := #[26, 3, 3, 3] }, type := 37, pos := "ref.go:15", after := #[{ on := 2, ground := Ground.data }, { on := 3, ground := Ground.data }, { on := 9, ground := Ground.data }, { on := 10, ground := Ground.data }], guard := none } : Oper)) rfl (fun K hK => ?_) (AllReadyH.nil)
                go_simp
                go_at_call 21
                refine (get_to H W C A zs n c HN.out HT.out ((j : Int)) q (k : Int) hp0 hp1 hq0 hq1 hk0 hkI x HX.out (B := B) _ (by omega) (HR.out.below (HBW.out.mono hB))).mono ?_
                rintro e Wb1 ⟨rfl, hb1⟩
                have hS1 := hHeld.below (B' := _) (by omega) hb1
                replace HBW := Lib.hid (HBW.out.trans (hb1.mono (by omega)))
                replace HW2 := Lib.hid (HW2.out.below (hb1.mono hz))
                replace HO2 := Lib.hid (Kit.own_below HO2.out hb1)
                replace hz := Nat.le_trans hz hb1.size
                clear hb1 hHeld h6 h7
                obtain ⟨-, -, ⟨-, -, -, h6, h7⟩, -, -⟩ := HW2.out
                dsimp only
                refine hK.out _ _ ?_ (fun hHeld => ?_)
                · exact hS1
                clear hK K
                try simp only [Act.put, List.setIfInBounds_toArray, List.set_cons_zero, List.set_cons_succ]
                refine wpAnyH_ready (rs := [12]) (by kernel_rfl) (by simp) ?_
                refine AllReadyH.cons (o := ({ dst := some 51, op := Op.buildSlice 24 1 #[(0, Operand.tmp 50)], type := 24, pos := "ref.go:15", after := #[{ on := 11, ground := Ground.data }], guard := none } : Oper)) rfl (fun K hK => ?_) (AllReadyH.nil)
                go_simp
                refine hK.out _ _ ?_ (fun hHeld => ?_)
                · exact hHeld.below (B' := Wb1.heap.size) (by omega) ((Below.refl _ _).alloc (Nat.le_refl _) _)
                clear hK K
                try simp only [Act.put, List.setIfInBounds_toArray, List.set_cons_zero, List.set_cons_succ]
                replace HBW := Lib.hid (HBW.out.alloc (by omega) (.cells #[.int .i8 x] 37))
                replace HW2 := Lib.hid (HW2.out.below ((Below.refl _ _).alloc hz (.cells #[.int .i8 x] 37)))
                replace HO2 := Lib.hid (HO2.out.alloc (.cells #[.int .i8 x] 37))
                have HXR := Lib.hid (Kit.Rd.new Wb1 [.int .i8 x] 37 (Nat.lt_succ_self _))
                clear h6 h7
                have hgx : w.heap.size + 3 ≤ Wb1.heap.size := hz
                replace hz : w.heap.size + 3 ≤ (Wb1.alloc (.cells #[.int .i8 x] 37)).heap.size := by simp; omega
                obtain ⟨-, -, ⟨-, -, -, h6, h7⟩, -, -⟩ := HW2.out
                generalize Wb1.alloc (.cells #[.int .i8 x] 37) = Wc2 at HBW HW2 HO2 HXR hz h6 h7 hHeld ⊢
                refine wpAnyH_ready (rs := [13]) (by kernel_rfl) (by simp) ?_
                refine AllReadyH.cons (o := ({ dst := some 52, op := Op.call { callee := Callee.builtin Builtin.append, args := #[Operand.tmp 40, Operand.tmp 51], argTypes := #[24, 24] }, type := 24, pos := "ref.go:15", after := #[{ on := 1, ground := Ground.data }, { on := 12, ground := Ground.data }, { on := 11, ground := Ground.chain }], guard := none } : Oper)) rfl (fun K hK => ?_) (AllReadyH.nil)
                refine Kit.step_append_rd _ rfl (.tmp 40) (.tmp 51) _ rfl (w.heap.size + 3) 37 i0 (.int .i8 0) 1 1 Try.underlying24 hi0 hi1 hi2 hi3 rfl (by decide) _ (o + k) (I8s (rowL F (o + k))) rfl HO2.out _ _ 1 1 [.int .i8 x] rfl rfl HXR.out (Kit.ints_one .i8 [x]) (by unfold maxLen; omega) (by omega) (by omega) ?_
                intro v5 w5 hown5 hg5 _
                obtain ⟨A5, c5, rfl, -, -, -⟩ := Kit.own_rd hown5
                have hb5 : Below (w.heap.size + 3) Wc2 w5 := (Below.refl _ _).grown hg5 hz (Kit.own_block_ge HO2.out)
                have hS1 := hHeld.below (B' := _) (by omega) hb5
                rw [rowL_succ F (o + k) x HXX.out] at hown5
                replace HBW := Lib.hid (HBW.out.trans (hb5.mono (by omega)))
                replace HW2 := Lib.hid (HW2.out.below hb5)
                replace HO2 := Lib.hid hown5
                replace hz := Nat.le_trans hz hb5.size
                clear hown5 hg5 hb5 hHeld h6 h7 HXR
                obtain ⟨-, -, ⟨-, -, -, h6, h7⟩, -, -⟩ := HW2.out
                dsimp only
                refine hK.out _ _ ?_ (fun hHeld => ?_)
                · exact hS1
                clear hK K
                try simp only [Act.put, List.setIfInBounds_toArray, List.set_cons_zero, List.set_cons_succ]
                refine wpAnyH_take (i := 14) (oi := ({ dst := some 53, op := Op.fieldAddr 26 (Operand.tmp 3) 1, type := 0, pos := "ref.go:15", after := #[{ on := 0, ground := Ground.phase }, { on := 1, ground := Ground.phase }, { on := 2, ground := Ground.phase }, { on := 3, ground := Ground.phase }, { on := 4, ground := Ground.phase }, { on := 5, ground := Ground.phase }, { on := 6, ground := Ground.phase }, { on := 7, ground := Ground.phase }, { on := 8, ground := Ground.phase }, { on := 9, ground := Ground.phase }, { on := 10, ground := Ground.phase }, { on := 11, ground := Ground.phase }, { on := 12, ground := Ground.phase }, { on := 13, ground := Ground.phase }], guard := none } : Oper)) (v := ?_) rfl (by kernel_rfl) (by kernel_rfl) (by kernel_rfl) (fun _ _ _ h => h) (Or.inl ⟨by rfl, ?_⟩) (by assumption) ?_
                rotate_left
                · intro wS hSw
                  first
                    | (go_simp; done)
                    | (go_simp; with_reducible rfl)
                try simp only [Act.put, List.setIfInBounds_toArray, List.set_cons_zero, List.set_cons_succ]
                have HW3 := Lib.hid (HW2.out.store (.slice A5 (o + k + 1) c5))
                have HO3 := Lib.hid (own_set HO2.out ⟨w.heap.size + 2, 3, none⟩ (.slice A5 (o + k + 1) c5) (by simp))
                refine wpAnyH_ready (rs := [15]) (by kernel_rfl) (by simp) ?_
                refine AllReadyH.cons (o := ({ dst := none, op := Op.store 24 (Operand.tmp 53) (Operand.tmp 52), type := 0, pos := "ref.go:15", after := #[{ on := 14, ground := Ground.data }, { on := 13, ground := Ground.data }, { on := 13, ground := Ground.chain }, { on := 0, ground := Ground.phase }, { on := 1, ground := Ground.phase }, { on := 2, ground := Ground.phase }, { on := 3, ground := Ground.phase }, { on := 4, ground := Ground.phase }, { on := 5, ground := Ground.phase }, { on := 6, ground := Ground.phase }, { on := 7, ground := Ground.phase }, { on := 8, ground := Ground.phase }, { on := 9, ground := Ground.phase }, { on := 10, ground := Ground.phase }, { on := 11, ground := Ground.phase }, { on := 12, ground := Ground.phase }, { on := 13, ground := Ground.phase }], guard := none } : Oper)) rfl (fun K hK => ?_) (AllReadyH.nil)
                go_simp
                refine hK.out _ _ ?_ (fun hHeld => ?_)
                · exact HW3.out.1
                clear hK K
                try simp only [Act.put, List.setIfInBounds_toArray, List.set_cons_zero, List.set_cons_succ]
                refine wpAnyH_done (by kernel_rfl) ?_ _
                clear h6 h7 HW2 HO2 hw1 hw2
                go_wp2_with fail
                go_roundw
                case rel => exact ⟨k + 1, _, by omega, by go_num, HW3, HO3⟩
                case measure => simp [intOf]; omega
              refine AllReadyH.cons (o := ({ dst := some 50, op := Op.call { callee := Callee.value (Operand.func 21), args := #[Operand.tmp 41, Operand.tmp 42, Operand.tmp 48, Operand.tmp 49], argTypes := #[26, 3, 3, 3] }, type := 37, pos := "ref.go:15", after := #[{ on := 2, ground := Ground.data }, { on := 3, ground := Ground.data }, { on := 9, ground := Ground.data }, { on := 10, ground := Ground.data }], guard := none } : Oper)) rfl (fun K hK => ?_) ?_
              · go_simp
                go_at_call 21
                refine (get_to H W C A zs n c HN.out HT.out ((j : Int)) q (k : Int) hp0 hp1 hq0 hq1 hk0 hkI x HX.out (B := B) _ (by omega) (HR.out.below (HBW.out.mono hB))).mono ?_
                rintro e Wb0 ⟨rfl, hb1⟩
                have hS1 := hHeld.below (B' := _) (by omega) hb1
                replace HBW := Lib.hid (HBW.out.trans (hb1.mono (by omega)))
                replace HW2 := Lib.hid (HW2.out.below (hb1.mono hz))
                replace HO2 := Lib.hid (Kit.own_below HO2.out hb1)
                replace hz := Nat.le_trans hz hb1.size
                clear hb1 hHeld h6 h7
                obtain ⟨-, -, ⟨-, -, -, h6, h7⟩, -, -⟩ := HW2.out
                dsimp only
                refine hK.out _ _ ?_ (fun hHeld => ?_)
                · exact hS1
                clear hK K
                try simp only [Act.put, List.setIfInBounds_toArray, List.set_cons_zero, List.set_cons_succ]
                refine wpAnyH_ready (rs := [1, 12]) (by kernel_rfl) (by simp) ?_
                refine AllReadyH.cons (o := ({ dst := some 40, op := Op.load 24 (Operand.tmp 39), type := 24, pos := "ref.go:15", after := #[{ on := 0, ground := Ground.data }], guard := none } : Oper)) rfl (fun K hK => ?_) ?_
                · go_simp
                  refine hK.out _ _ ?_ (fun hHeld => ?_)
                  · exact hHeld
                  clear hK K
                  try simp only [Act.put, List.setIfInBounds_toArray, List.set_cons_zero, List.set_cons_succ]
                  refine wpAnyH_ready (rs := [12]) (by kernel_rfl) (by simp) ?_
                  refine AllReadyH.cons (o := ({ dst := some 51, op := Op.buildSlice 24 1 #[(0, Operand.tmp 50)], type := 24, pos := "ref.go:15", after := #[{ on := 11, ground := Ground.data }], guard := none } : Oper)) rfl (fun K hK => ?_) (AllReadyH.nil)
                  go_simp
                  refine hK.out _ _ ?_ (fun hHeld => ?_)
                  · exact hHeld.below (B' := Wb0.heap.size) (by omega) ((Below.refl _ _).alloc (Nat.le_refl _) _)
                  clear hK K
                  try simp only [Act.put, List.setIfInBounds_toArray, List.set_cons_zero, List.set_cons_succ]
                  replace HBW := Lib.hid (HBW.out.alloc (by omega) (.cells #[.int .i8 x] 37))
                  replace HW2 := Lib.hid (HW2.out.below ((Below.refl _ _).alloc hz (.cells #[.int .i8 x] 37)))
                  replace HO2 := Lib.hid (HO2.out.alloc (.cells #[.int .i8 x] 37))
                  have HXR := Lib.hid (Kit.Rd.new Wb0 [.int .i8 x] 37 (Nat.lt_succ_self _))
                  clear h6 h7
                  have hgx : w.heap.size + 3 ≤ Wb0.heap.size := hz
                  replace hz : w.heap.size + 3 ≤ (Wb0.alloc (.cells #[.int .i8 x] 37)).heap.size := by simp; omega
                  obtain ⟨-, -, ⟨-, -, -, h6, h7⟩, -, -⟩ := HW2.out
                  generalize Wb0.alloc (.cells #[.int .i8 x] 37) = Wc2 at HBW HW2 HO2 HXR hz h6 h7 hHeld ⊢
                  refine wpAnyH_ready (rs := [13]) (by kernel_rfl) (by simp) ?_
                  refine AllReadyH.cons (o := ({ dst := some 52, op := Op.call { callee := Callee.builtin Builtin.append, args := #[Operand.tmp 40, Operand.tmp 51], argTypes := #[24, 24] }, type := 24, pos := "ref.go:15", after := #[{ on := 1, ground := Ground.data }, { on := 12, ground := Ground.data }, { on := 11, ground := Ground.chain }], guard := none } : Oper)) rfl (fun K hK => ?_) (AllReadyH.nil)
                  refine Kit.step_append_rd _ rfl (.tmp 40) (.tmp 51) _ rfl (w.heap.size + 3) 37 i0 (.int .i8 0) 1 1 Try.underlying24 hi0 hi1 hi2 hi3 rfl (by decide) _ (o + k) (I8s (rowL F (o + k))) rfl HO2.out _ _ 1 1 [.int .i8 x] rfl rfl HXR.out (Kit.ints_one .i8 [x]) (by unfold maxLen; omega) (by omega) (by omega) ?_
                  intro v5 w5 hown5 hg5 _
                  obtain ⟨A5, c5, rfl, -, -, -⟩ := Kit.own_rd hown5
                  have hb5 : Below (w.heap.size + 3) Wc2 w5 := (Below.refl _ _).grown hg5 hz (Kit.own_block_ge HO2.out)
                  have hS1 := hHeld.below (B' := _) (by omega) hb5
                  rw [rowL_succ F (o + k) x HXX.out] at hown5
                  replace HBW := Lib.hid (HBW.out.trans (hb5.mono (by omega)))
                  replace HW2 := Lib.hid (HW2.out.below hb5)
                  replace HO2 := Lib.hid hown5
                  replace hz := Nat.le_trans hz hb5.size
                  clear hown5 hg5 hb5 hHeld h6 h7 HXR
                  obtain ⟨-, -, ⟨-, -, -, h6, h7⟩, -, -⟩ := HW2.out
                  dsimp only
                  refine hK.out _ _ ?_ (fun hHeld => ?_)
                  · exact hS1
                  clear hK K
                  try simp only [Act.put, List.setIfInBounds_toArray, List.set_cons_zero, List.set_cons_succ]
                  refine wpAnyH_take (i := 14) (oi := ({ dst := some 53, op := Op.fieldAddr 26 (Operand.tmp 3) 1, type := 0, pos := "ref.go:15", after := #[{ on := 0, ground := Ground.phase }, { on := 1, ground := Ground.phase }, { on := 2, ground := Ground.phase }, { on := 3, ground := Ground.phase }, { on := 4, ground := Ground.phase }, { on := 5, ground := Ground.phase }, { on := 6, ground := Ground.phase }, { on := 7, ground := Ground.phase }, { on := 8, ground := Ground.phase }, { on := 9, ground := Ground.phase }, { on := 10, ground := Ground.phase }, { on := 11, ground := Ground.phase }, { on := 12, ground := Ground.phase }, { on := 13, ground := Ground.phase }], guard := none } : Oper)) (v := ?_) rfl (by kernel_rfl) (by kernel_rfl) (by kernel_rfl) (fun _ _ _ h => h) (Or.inl ⟨by rfl, ?_⟩) (by assumption) ?_
                  rotate_left
                  · intro wS hSw
                    first
                      | (go_simp; done)
                      | (go_simp; with_reducible rfl)
                  try simp only [Act.put, List.setIfInBounds_toArray, List.set_cons_zero, List.set_cons_succ]
                  have HW3 := Lib.hid (HW2.out.store (.slice A5 (o + k + 1) c5))
                  have HO3 := Lib.hid (own_set HO2.out ⟨w.heap.size + 2, 3, none⟩ (.slice A5 (o + k + 1) c5) (by simp))
                  refine wpAnyH_ready (rs := [15]) (by kernel_rfl) (by simp) ?_
                  refine AllReadyH.cons (o := ({ dst := none, op := Op.store 24 (Operand.tmp 53) (Operand.tmp 52), type := 0, pos := "ref.go:15", after := #[{ on := 14, ground := Ground.data }, { on := 13, ground := Ground.data }, { on := 13, ground := Ground.chain }, { on := 0, ground := Ground.phase }, { on := 1, ground := Ground.phase }, { on := 2, ground := Ground.phase }, { on := 3, ground := Ground.phase }, { on := 4, ground := Ground.phase }, { on := 5, ground := Ground.phase }, { on := 6, ground := Ground.phase }, { on := 7, ground := Ground.phase }, { on := 8, ground := Ground.phase }, { on := 9, ground := Ground.phase }, { on := 10, ground := Ground.phase }, { on := 11, ground := Ground.phase }, { on := 12, ground := Ground.phase }, { on := 13, ground := Ground.phase }], guard := none } : Oper)) rfl (fun K hK => ?_) (AllReadyH.nil)
                  go_simp
                  refine hK.out _ _ ?_ (fun hHeld => ?_)
                  · exact HW3.out.1
                  clear hK K
                  try simp only [Act.put, List.setIfInBounds_toArray, List.set_cons_zero, List.set_cons_succ]
                  refine wpAnyH_done (by kernel_rfl) ?_ _
                  clear h6 h7 HW2 HO2 hw1 hw2
                  go_wp2_with fail
                  go_roundw
                  case rel => exact ⟨k + 1, _, by omega, by go_num, HW3, HO3⟩
                  case measure => simp [intOf]; omega
                refine AllReadyH.cons (o := ({ dst := some 51, op := Op.buildSlice 24 1 #[(0, Operand.tmp 50)], type := 24, pos := "ref.go:15", after := #[{ on := 11, ground := Ground.data }], guard := none } : Oper)) rfl (fun K hK => ?_) ?_
                · go_simp
                  refine hK.out _ _ ?_ (fun hHeld => ?_)
                  · exact hHeld.below (B' := Wb0.heap.size) (by omega) ((Below.refl _ _).alloc (Nat.le_refl _) _)
                  clear hK K
                  try simp only [Act.put, List.setIfInBounds_toArray, List.set_cons_zero, List.set_cons_succ]
                  replace HBW := Lib.hid (HBW.out.alloc (by omega) (.cells #[.int .i8 x] 37))
                  replace HW2 := Lib.hid (HW2.out.below ((Below.refl _ _).alloc hz (.cells #[.int .i8 x] 37)))
                  replace HO2 := Lib.hid (HO2.out.alloc (.cells #[.int .i8 x] 37))
                  have HXR := Lib.hid (Kit.Rd.new Wb0 [.int .i8 x] 37 (Nat.lt_succ_self _))
                  clear h6 h7
                  have hgx : w.heap.size + 3 ≤ Wb0.heap.size := hz
                  replace hz : w.heap.size + 3 ≤ (Wb0.alloc (.cells #[.int .i8 x] 37)).heap.size := by simp; omega
                  obtain ⟨-, -, ⟨-, -, -, h6, h7⟩, -, -⟩ := HW2.out
                  generalize Wb0.alloc (.cells #[.int .i8 x] 37) = Wc1 at HBW HW2 HO2 HXR hz h6 h7 hHeld ⊢
                  refine wpAnyH_ready (rs := [1]) (by kernel_rfl) (by simp) ?_
                  refine AllReadyH.cons (o := ({ dst := some 40, op := Op.load 24 (Operand.tmp 39), type := 24, pos := "ref.go:15", after := #[{ on := 0, ground := Ground.data }], guard := none } : Oper)) rfl (fun K hK => ?_) (AllReadyH.nil)
                  go_simp
                  refine hK.out _ _ ?_ (fun hHeld => ?_)
                  · exact hHeld
                  clear hK K
                  try simp only [Act.put, List.setIfInBounds_toArray, List.set_cons_zero, List.set_cons_succ]
                  refine wpAnyH_ready (rs := [13]) (by kernel_rfl) (by simp) ?_
                  refine AllReadyH.cons (o := ({ dst := some 52, op := Op.call { callee := Callee.builtin Builtin.append, args := #[Operand.tmp 40, Operand.tmp 51], argTypes := #[24, 24] }, type := 24, pos := "ref.go:15", after := #[{ on := 1, ground := Ground.data }, { on := 12, ground := Ground.data }, { on := 11, ground := Ground.chain }], guard := none } : Oper)) rfl (fun K hK => ?_) (AllReadyH.nil)
                  refine Kit.step_append_rd _ rfl (.tmp 40) (.tmp 51) _ rfl (w.heap.size + 3) 37 i0 (.int .i8 0) 1 1 Try.underlying24 hi0 hi1 hi2 hi3 rfl (by decide) _ (o + k) (I8s (rowL F (o + k))) rfl HO2.out _ _ 1 1 [.int .i8 x] rfl rfl HXR.out (Kit.ints_one .i8 [x]) (by unfold maxLen; omega) (by omega) (by omega) ?_
                  intro v5 w5 hown5 hg5 _
                  obtain ⟨A5, c5, rfl, -, -, -⟩ := Kit.own_rd hown5
                  have hb5 : Below (w.heap.size + 3) Wc1 w5 := (Below.refl _ _).grown hg5 hz (Kit.own_block_ge HO2.out)
                  have hS1 := hHeld.below (B' := _) (by omega) hb5
                  rw [rowL_succ F (o + k) x HXX.out] at hown5
                  replace HBW := Lib.hid (HBW.out.trans (hb5.mono (by omega)))
                  replace HW2 := Lib.hid (HW2.out.below hb5)
                  replace HO2 := Lib.hid hown5
                  replace hz := Nat.le_trans hz hb5.size
                  clear hown5 hg5 hb5 hHeld h6 h7 HXR
                  obtain ⟨-, -, ⟨-, -, -, h6, h7⟩, -, -⟩ := HW2.out
                  dsimp only
                  refine hK.out _ _ ?_ (fun hHeld => ?_)
                  · exact hS1
                  clear hK K
                  try simp only [Act.put, List.setIfInBounds_toArray, List.set_cons_zero, List.set_cons_succ]
                  refine wpAnyH_take (i := 14) (oi := ({ dst := some 53, op := Op.fieldAddr 26 (Operand.tmp 3) 1, type := 0, pos := "ref.go:15", after := #[{ on := 0, ground := Ground.phase }, { on := 1, ground := Ground.phase }, { on := 2, ground := Ground.phase }, { on := 3, ground := Ground.phase }, { on := 4, ground := Ground.phase }, { on := 5, ground := Ground.phase }, { on := 6, ground := Ground.phase }, { on := 7, ground := Ground.phase }, { on := 8, ground := Ground.phase }, { on := 9, ground := Ground.phase }, { on := 10, ground := Ground.phase }, { on := 11, ground := Ground.phase }, { on := 12, ground := Ground.phase }, { on := 13, ground := Ground.phase }], guard := none } : Oper)) (v := ?_) rfl (by kernel_rfl) (by kernel_rfl) (by kernel_rfl) (fun _ _ _ h => h) (Or.inl ⟨by rfl, ?_⟩) (by assumption) ?_
                  rotate_left
                  · intro wS hSw
                    first
                      | (go_simp; done)
                      | (go_simp; with_reducible rfl)
                  try simp only [Act.put, List.setIfInBounds_toArray, List.set_cons_zero, List.set_cons_succ]
                  have HW3 := Lib.hid (HW2.out.store (.slice A5 (o + k + 1) c5))
                  have HO3 := Lib.hid (own_set HO2.out ⟨w.heap.size + 2, 3, none⟩ (.slice A5 (o + k + 1) c5) (by simp))
                  refine wpAnyH_ready (rs := [15]) (by kernel_rfl) (by simp) ?_
                  refine AllReadyH.cons (o := ({ dst := none, op := Op.store 24 (Operand.tmp 53) (Operand.tmp 52), type := 0, pos := "ref.go:15", after := #[{ on := 14, ground := Ground.data }, { on := 13, ground := Ground.data }, { on := 13, ground := Ground.chain }, { on := 0, ground := Ground.phase }, { on := 1, ground := Ground.phase }, { on := 2, ground := Ground.phase }, { on := 3, ground := Ground.phase }, { on := 4, ground := Ground.phase }, { on := 5, ground := Ground.phase }, { on := 6, ground := Ground.phase }, { on := 7, ground := Ground.phase }, { on := 8, ground := Ground.phase }, { on := 9, ground := Ground.phase }, { on := 10, ground := Ground.phase }, { on := 11, ground := Ground.phase }, { on := 12, ground := Ground.phase }, { on := 13, ground := Ground.phase }], guard := none } : Oper)) rfl (fun K hK => ?_) (AllReadyH.nil)
                  go_simp
                  refine hK.out _ _ ?_ (fun hHeld => ?_)
                  · exact HW3.out.1
                  clear hK K
                  try simp only [Act.put, List.setIfInBounds_toArray, List.set_cons_zero, List.set_cons_succ]
                  refine wpAnyH_done (by kernel_rfl) ?_ _
                  clear h6 h7 HW2 HO2 hw1 hw2
                  go_wp2_with fail
                  go_roundw
                  case rel => exact ⟨k + 1, _, by omega, by go_num, HW3, HO3⟩
                  case measure => simp [intOf]; omega
                exact AllReadyH.nil
              exact AllReadyH.nil
            · obtain rfl : k = d := by omega
              have hkI : ¬ (k : Int) < C := by have := HCd.out; omega
              have e : (i * b + (j + 1)) * k = o + k := by rw [← HOO.out, ← Nat.add_assoc, Nat.add_mul _ 1, Nat.one_mul]
              have hO3 : Hid (wr.ownsRow (w.heap.size + 3) 37 1 (.slice Av (o + k) cv) ((i * b + (j + 1)) * k) (I8s (rowL F ((i * b + (j + 1)) * k)))) := by rw [e]; exact hO2
              go_wp2_with fail
              go_roundw
              case rel => exact ⟨j + 1, _, by omega, by go_num, hW2, hO3⟩
              case measure => simp [intOf]; omega
        · obtain rfl : j = b := by omega
          have hjI : ¬ (j : Int) < H := by have := HV.out; omega
          have e : (i + 1) * j * d = (i * j + j) * d := by rw [Nat.add_mul i 1, Nat.one_mul]
          rw [← e] at hO1
          go_wp2_with fail
          go_roundw
          case rel => exact ⟨i + 1, _, by omega, by go_num, hW1, hO1⟩
          case measure => simp [intOf]; omega
    · obtain rfl : i = a := by omega
      have hiI : ¬ (i : Int) < W := by have := HU.out; omega
      rw [HM.out] at hO0
      obtain ⟨Av, cv, rfl, -, -, -⟩ := Kit.own_rd hO0.out
      clear a1 a2 a3
      obtain ⟨-, ⟨⟨z0, z1, z2, z3⟩, z4, z5, z6, z7⟩, ⟨h3, h4, h5, h6, h7⟩, hbw, -⟩ := hW0.out
      have HBW := Lib.hid hbw
      clear hbw
      go_wp2_with fail
      refine bodyPost_ret (Kit.results_c rfl _ _ (w.heap.size + 1) 0 [.int .i64 W, .int .i64 H, .int .i64 C, .slice Av m cv] _ rfl (range_4t (by go_cell) (by go_cell) (by go_cell) (by go_cell)) Try.underlying26 rfl (by kernel_rfl)) rfl ?_
      refine ⟨_, rfl, Kit.own_base (own_set4t hO0.out ?_) ?_, ?_⟩
      any_goals (first | omega | (simp; done) | (simp; omega))
      exact (((HBW.out.setCell (p := ⟨w.heap.size + 1, 0, none⟩) (by simp) _).setCell (p := ⟨w.heap.size + 1, 1, none⟩) (by simp) _).setCell (p := ⟨w.heap.size + 1, 2, none⟩) (by simp) _).setCell (p := ⟨w.heap.size + 1, 3, none⟩) (by simp) _
end Go.Proofs.Ytmjcjdgdpecpjaa.CTurn
