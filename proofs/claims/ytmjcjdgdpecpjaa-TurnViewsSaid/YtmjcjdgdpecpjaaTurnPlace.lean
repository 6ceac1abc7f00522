/- Layer 23 (turn), the code: a place as a complex number, a place of one, turned and turned over. -/
import Derived.Test.YtmjcjdgdpecpjaaTurnBy
import Derived.Test.YtmjcjdgdpecpjaaFourNum
import Derived.Test.YtmjcjdgdpecpjaaShapeRefTwo
import Derived.Deep.CutRange
import Derived.BigRegion
import Derived.RegionTactic
import Derived.Laws.ComplexArith
namespace Go.Proofs.Ytmjcjdgdpecpjaa.CTurn
open Go Go.ChangeShapes Go.WideShapes Go.ChangeAt Go.RowKit Go.Deep
open Plain CSat CShape CTensor CPad FloatNum
set_option linter.unusedVariables false

/-- a whole number that is small. -/
def Sm (n : Int) : Prop := -16 ≤ n ∧ n ≤ 16
theorem Sm.abs {n : Int} (h : Sm n) : n.natAbs < 2 ^ 53 := by unfold Sm at h; omega
theorem Sm.neg {n : Int} (h : Sm n) : Sm (-n) := by unfold Sm at *; omega
theorem word_neg : ∀ k : Fin 33, wordOf ((k.val : Int) - 16) ^^^ 2 ^ 63 = wordOf (-((k.val : Int) - 16)) ∨ (k.val : Int) - 16 = 0 := by decide
theorem IsF.neg {b : Nat} {n : Int} (h : IsF b n) (hn : Sm n) : IsF (b ^^^ 2 ^ 63) (-n) := by
  unfold Sm at hn
  unfold IsF at *
  by_cases h0 : n = 0
  · subst h0
    rw [if_pos rfl] at h
    rw [if_pos (by decide)]
    rcases h with rfl | rfl
    · right; decide
    · left; decide
  · rw [if_neg h0] at h
    rw [if_neg (by omega), h]
    obtain ⟨k, hk⟩ : ∃ k : Fin 33, (k.val : Int) - 16 = n := ⟨⟨(n + 16).toNat, by omega⟩, by show ((n + 16).toNat : Int) - 16 = n; omega⟩
    rcases word_neg k with h1 | h1
    · rw [hk] at h1; exact h1
    · omega
/-- a place off the middle, in halves: to the right, and upwards. -/
def plC (H W h w : Int) : G := (2 * w - (W - 1), (H - 1) - 2 * h)
theorem unary_negf (b : Nat) : Op.unary .neg (.float .f64 b) = pure (.float .f64 (b ^^^ 2 ^ 63)) := rfl
theorem resT_2 {fn : Func} {a b : Tmp} (h : fn.results = #[.tmp a, .tmp b]) (tmps : Array Value) (P : Program) (w : World) : (results fn tmps).run P w = .ok (.tuple #[tmps.getD a undef, tmps.getD b undef]) w := by
  simp [results, h]
set_option maxRecDepth 100000 in
theorem cplace_to (H W C h w : Int) (hH1 : 1 ≤ H) (hH2 : H ≤ 16) (hW1 : 1 ≤ W) (hW2 : W ≤ 16) (h1 : 0 ≤ h) (h2 : h < H) (w1 : 0 ≤ w) (w2 : w < W) (wd : World) :
    Calls Try.prog 31 #[.agg #[.int .i64 H, .int .i64 W, .int .i64 C], .int .i64 h, .int .i64 w] wd fun e w' => (∃ x y, e = .returned (.complex .f64 x y) ∧ IsF x (plC H W h w).1 ∧ IsF y (plC H W h w).2) ∧ Below wd.heap.size wd w' := by
  have hx : IsF (FloatKind.f64.nearest (2 * w - (W - 1))) (plC H W h w).1 := IsF.ofInt _ (by omega)
  have hy : IsF (FloatKind.f64.nearest (H - 1 - 2 * h)) (plC H W h w).2 := IsF.ofInt _ (by omega)
  have HX := Lib.hid hx
  have HY := Lib.hid hy
  have e1 : IntKind.i64.wrap (2 * w) = 2 * w := IntWalk.i64_in _ (by omega)
  have e2 : IntKind.i64.wrap (W - 1) = W - 1 := IntWalk.i64_in _ (by omega)
  have e3 : IntKind.i64.wrap (2 * w - (W - 1)) = 2 * w - (W - 1) := IntWalk.i64_in _ (by omega)
  have e4 : IntKind.i64.wrap (2 * h) = 2 * h := IntWalk.i64_in _ (by omega)
  have e5 : IntKind.i64.wrap (H - 1) = H - 1 := IntWalk.i64_in _ (by omega)
  have e6 : IntKind.i64.wrap (H - 1 - 2 * h) = H - 1 - 2 * h := IntWalk.i64_in _ (by omega)
  clear hx hy
  go_enter Try.func31, Try.ntmps31
  go_wp2_with fail
  go_ret
  exact ⟨⟨_, _, rfl, HX.out, HY.out⟩, (Below.refl _ _).alloc (Nat.le_refl _) _⟩
set_option maxRecDepth 100000 in
theorem cturned1_to (x y u v q : Nat) (p r : G) (hx : IsF x p.1) (hy : IsF y p.2) (hu : IsF u r.1) (hv : IsF v r.2) (hp : Bd 16 p) (hr : Bd 1 r) (wd : World) (hc : wd.cell? ⟨q, 0, none⟩ = some (.complex .f64 u v)) :
    Calls Try.prog 25 #[.complex .f64 x y, .pointer (some ⟨q, 0, none⟩)] wd fun e w' => (∃ x y, e = .returned (.complex .f64 x y) ∧ IsF x (gmul r p).1 ∧ IsF y (gmul r p).2) ∧ wd = w' := by
  obtain ⟨o, ho, x1, y1, rfl, h1, h2⟩ := IsC.mul (P := Try.prog) (u := .complex .f64 u v) (v := .complex .f64 x y) (p := r) (q := p) ⟨_, _, rfl, hu, hv⟩ ⟨_, _, rfl, hx, hy⟩ hr hp (by decide) (by decide) (by decide)
  have H1 := Lib.hid h1
  have H2 := Lib.hid h2
  clear h1 h2 hx hy hu hv hp hr
  go_enter Try.func25, Try.ntmps25
  go_wp2_with fail
  go_ret
  exact ⟨⟨_, _, rfl, H1.out, H2.out⟩, rfl⟩
set_option maxRecDepth 100000 in
theorem cover1_to (x y : Nat) (p : G) (hx : IsF x p.1) (hy : IsF y p.2) (hp : Sm p.1) (wd : World) :
    Calls Try.prog 26 #[.complex .f64 x y] wd fun e w' => (∃ x y, e = .returned (.complex .f64 x y) ∧ IsF x (-p.1, p.2).1 ∧ IsF y (-p.1, p.2).2) ∧ wd = w' := by
  have H1 := Lib.hid (IsF.neg hx hp)
  have H2 := Lib.hid hy
  have hng := unary_negf x
  clear hx hy hp
  go_enter Try.func26, Try.ntmps26
  go_wp2_with fail
  go_ret
  exact ⟨⟨_, _, rfl, H1.out, H2.out⟩, rfl⟩
set_option maxRecDepth 100000 in
set_option maxHeartbeats 4000000 in
theorem cposition_to (H W C h w : Int) (x y : Nat) (hH1 : 1 ≤ H) (hH2 : H ≤ 16) (hW1 : 1 ≤ W) (hW2 : W ≤ 16) (h1 : 0 ≤ h) (h2 : h < H) (w1 : 0 ≤ w) (w2 : w < W) (hx : IsF x (plC H W h w).1) (hy : IsF y (plC H W h w).2) (wd : World) :
    Calls Try.prog 30 #[.agg #[.int .i64 H, .int .i64 W, .int .i64 C], .complex .f64 x y] wd fun e w' => e = .returned (.tuple #[.int .i64 h, .int .i64 w]) ∧ Below wd.heap.size wd w' := by
  have hX := hx.toInt (by unfold plC; show (2 * w - (W - 1)).natAbs < _; omega) .i64 (by show (-9223372036854775808 : Int) ≤ 2 * w - (W - 1); omega) (by show 2 * w - (W - 1) ≤ (9223372036854775807 : Int); omega)
  have hY := hy.toInt (by unfold plC; show (H - 1 - 2 * h).natAbs < _; omega) .i64 (by show (-9223372036854775808 : Int) ≤ H - 1 - 2 * h; omega) (by show H - 1 - 2 * h ≤ (9223372036854775807 : Int); omega)
  have cX : ∀ (w : World), (convert 49 3 (.float .f64 x)).run Try.prog w = .ok (.int .i64 (2 * _ - (W - 1))) w := fun w => run_convert_float_int w _ _ .f64 .i64 x _ (by kernel_rfl) (by kernel_rfl) hX
  have cY : ∀ (w : World), (convert 49 3 (.float .f64 y)).run Try.prog w = .ok (.int .i64 (H - 1 - 2 * h)) w := fun w => run_convert_float_int w _ _ .f64 .i64 y _ (by kernel_rfl) (by kernel_rfl) hY
  obtain ⟨a, ha⟩ : ∃ a, 2 * w - (W - 1) = a := ⟨_, rfl⟩
  obtain ⟨b, hb⟩ : ∃ b, H - 1 - 2 * h = b := ⟨_, rfl⟩
  rw [ha] at cX
  rw [hb] at cY
  have e2 : IntKind.i64.wrap (W - 1) = W - 1 := IntWalk.i64_in _ (by omega)
  have e5 : IntKind.i64.wrap (H - 1) = H - 1 := IntWalk.i64_in _ (by omega)
  have e6 : IntKind.i64.wrap (H - 1 - b) = 2 * h := by rw [show H - 1 - b = 2 * h by omega]; exact IntWalk.i64_in _ (by omega)
  have e7 : IntKind.i64.wrap (a + (W - 1)) = 2 * w := by rw [show a + (W - 1) = 2 * w by omega]; exact IntWalk.i64_in _ (by omega)
  have e8 : (2 * h).tdiv 2 = h := by rw [Int.tdiv_eq_ediv_of_nonneg (by omega)]; omega
  have e9 : (2 * w).tdiv 2 = w := by rw [Int.tdiv_eq_ediv_of_nonneg (by omega)]; omega
  have e8' : (2 * h) / 2 = h := by omega
  have e9' : (2 * w) / 2 = w := by omega
  have e10 : IntKind.i64.wrap h = h := IntWalk.i64_in _ (by omega)
  have e11 : IntKind.i64.wrap w = w := IntWalk.i64_in _ (by omega)
  have hs0 : ∀ j, (wd.alloc (.cells #[.int .i64 H, .int .i64 W, .int .i64 C] 23)).cell? ⟨wd.heap.size, j, none⟩ = (#[.int .i64 H, .int .i64 W, .int .i64 C] : Array Value)[j]? := fun j => Kit.new_cell _ _ _ _
  have c0 : (wd.alloc (.cells #[.int .i64 H, .int .i64 W, .int .i64 C] 23)).cell? ⟨wd.heap.size, 0, none⟩ = some (.int .i64 H) := hs0 0
  have c1 : (wd.alloc (.cells #[.int .i64 H, .int .i64 W, .int .i64 C] 23)).cell? ⟨wd.heap.size, 1, none⟩ = some (.int .i64 W) := hs0 1
  have HB := Lib.hid ((Below.refl wd.heap.size wd).alloc (Nat.le_refl _) (.cells #[.int .i64 H, .int .i64 W, .int .i64 C] 23))
  clear hx hy hX hY ha hb hs0
  go_enter Try.func30, Try.ntmps30
  go_upto_region 1 with fail
  generalize wd.alloc (.cells #[.int .i64 H, .int .i64 W, .int .i64 C] 23) = W0 at c0 c1 HB ⊢
  refine wp_region_held_drew (S := fun w' => w'.cell? ⟨wd.heap.size, 0, none⟩ = some (.int .i64 H) ∧ w'.cell? ⟨wd.heap.size, 1, none⟩ = some (.int .i64 W)) (by kernel_rfl) ⟨c0, c1⟩ (fun hHeld => ?_)
  replace HB := Lib.hid HB.out.drew
  clear c0 c1
  generalize W0.drew = W1 at HB hHeld ⊢
  refine wpAnyH_take (i := 0) (oi := ({ dst := some 6, op := Op.fieldAddr 23 (Operand.tmp 2) 0, type := 0, pos := "turn.go:69", after := #[], guard := none } : Oper)) (v := ?_) rfl (by kernel_rfl) (by kernel_rfl) (by kernel_rfl) (fun _ _ _ h => h) (Or.inl ⟨by rfl, ?_⟩) (by assumption) ?_
  rotate_left
  · intro wS hSw
    first
      | (go_simp; done)
      | (go_simp; with_reducible rfl)
  try simp only [Act.put, List.setIfInBounds_toArray, List.set_cons_zero, List.set_cons_succ]
  refine wpAnyH_take (i := 1) (oi := ({ dst := some 7, op := Op.load 3 (Operand.tmp 6), type := 3, pos := "turn.go:69", after := #[{ on := 0, ground := Ground.data }], guard := none } : Oper)) (v := ?_) rfl (by kernel_rfl) (by kernel_rfl) (by kernel_rfl) (fun _ _ _ h => h) (Or.inl ⟨by rfl, ?_⟩) (by assumption) ?_
  rotate_left
  · intro wS hSw
    obtain ⟨q1, q2⟩ := hSw
    first
      | (go_simp; done)
      | (go_simp; with_reducible rfl)
  try simp only [Act.put, List.setIfInBounds_toArray, List.set_cons_zero, List.set_cons_succ]
  refine wpAnyH_take (i := 2) (oi := ({ dst := some 8, op := Op.binOp BinOp.sub 3 (Operand.tmp 7) (Operand.const (Value.int IntKind.i64 1)) 3, type := 3, pos := "turn.go:69", after := #[{ on := 1, ground := Ground.data }], guard := none } : Oper)) (v := ?_) rfl (by kernel_rfl) (by kernel_rfl) (by kernel_rfl) (fun _ _ _ h => h) (Or.inl ⟨by rfl, ?_⟩) (by assumption) ?_
  rotate_left
  · intro wS hSw
    first
      | (go_simp; done)
      | (go_simp; with_reducible rfl)
  try simp only [Act.put, List.setIfInBounds_toArray, List.set_cons_zero, List.set_cons_succ]
  refine wpAnyH_take (i := 3) (oi := ({ dst := some 9, op := Op.move (Operand.tmp 1), type := 46, pos := "turn.go:69", after := #[], guard := none } : Oper)) (v := ?_) rfl (by kernel_rfl) (by kernel_rfl) (by kernel_rfl) (fun _ _ _ h => h) (Or.inl ⟨by rfl, ?_⟩) (by assumption) ?_
  rotate_left
  · intro wS hSw
    first
      | (go_simp; done)
      | (go_simp; with_reducible rfl)
  try simp only [Act.put, List.setIfInBounds_toArray, List.set_cons_zero, List.set_cons_succ]
  refine wpAnyH_take (i := 4) (oi := ({ dst := some 10, op := Op.call { callee := Callee.builtin Builtin.imag, args := #[Operand.tmp 9], argTypes := #[46] }, type := 49, pos := "turn.go:69", after := #[{ on := 3, ground := Ground.data }], guard := none } : Oper)) (v := ?_) rfl (by kernel_rfl) (by kernel_rfl) (by kernel_rfl) (fun _ _ _ h => h) (Or.inl ⟨by rfl, ?_⟩) (by assumption) ?_
  rotate_left
  · intro wS hSw
    first
      | (go_simp; done)
      | (go_simp; with_reducible rfl)
  try simp only [Act.put, List.setIfInBounds_toArray, List.set_cons_zero, List.set_cons_succ]
  refine wpAnyH_take (i := 5) (oi := ({ dst := some 11, op := Op.convert 49 3 (Operand.tmp 10), type := 3, pos := "turn.go:69", after := #[{ on := 4, ground := Ground.data }], guard := none } : Oper)) (v := ?_) rfl (by kernel_rfl) (by kernel_rfl) (by kernel_rfl) (fun _ _ _ h => h) (Or.inl ⟨by rfl, ?_⟩) (by assumption) ?_
  rotate_left
  · intro wS hSw
    first
      | (go_simp; done)
      | (go_simp; with_reducible rfl)
  try simp only [Act.put, List.setIfInBounds_toArray, List.set_cons_zero, List.set_cons_succ]
  refine wpAnyH_take (i := 6) (oi := ({ dst := some 12, op := Op.binOp BinOp.sub 3 (Operand.tmp 8) (Operand.tmp 11) 3, type := 3, pos := "turn.go:69", after := #[{ on := 2, ground := Ground.data }, { on := 5, ground := Ground.data }], guard := none } : Oper)) (v := ?_) rfl (by kernel_rfl) (by kernel_rfl) (by kernel_rfl) (fun _ _ _ h => h) (Or.inl ⟨by rfl, ?_⟩) (by assumption) ?_
  rotate_left
  · intro wS hSw
    first
      | (go_simp; done)
      | (go_simp; with_reducible rfl)
  try simp only [Act.put, List.setIfInBounds_toArray, List.set_cons_zero, List.set_cons_succ]
  refine wpAnyH_take (i := 7) (oi := ({ dst := some 13, op := Op.binOp BinOp.quo 3 (Operand.tmp 12) (Operand.const (Value.int IntKind.i64 2)) 3, type := 3, pos := "turn.go:69", after := #[{ on := 6, ground := Ground.data }], guard := none } : Oper)) (v := ?_) rfl (by kernel_rfl) (by kernel_rfl) (by kernel_rfl) (fun _ _ _ h => h) (Or.inl ⟨by rfl, ?_⟩) (by assumption) ?_
  rotate_left
  · intro wS hSw
    first
      | (go_simp; done)
      | (go_simp; with_reducible rfl)
  try simp only [Act.put, List.setIfInBounds_toArray, List.set_cons_zero, List.set_cons_succ]
  refine wpAnyH_take (i := 8) (oi := ({ dst := some 14, op := Op.move (Operand.tmp 1), type := 46, pos := "turn.go:69", after := #[], guard := none } : Oper)) (v := ?_) rfl (by kernel_rfl) (by kernel_rfl) (by kernel_rfl) (fun _ _ _ h => h) (Or.inl ⟨by rfl, ?_⟩) (by assumption) ?_
  rotate_left
  · intro wS hSw
    first
      | (go_simp; done)
      | (go_simp; with_reducible rfl)
  try simp only [Act.put, List.setIfInBounds_toArray, List.set_cons_zero, List.set_cons_succ]
  refine wpAnyH_take (i := 9) (oi := ({ dst := some 15, op := Op.call { callee := Callee.builtin Builtin.real, args := #[Operand.tmp 14], argTypes := #[46] }, type := 49, pos := "turn.go:69", after := #[{ on := 8, ground := Ground.data }], guard := none } : Oper)) (v := ?_) rfl (by kernel_rfl) (by kernel_rfl) (by kernel_rfl) (fun _ _ _ h => h) (Or.inl ⟨by rfl, ?_⟩) (by assumption) ?_
  rotate_left
  · intro wS hSw
    first
      | (go_simp; done)
      | (go_simp; with_reducible rfl)
  try simp only [Act.put, List.setIfInBounds_toArray, List.set_cons_zero, List.set_cons_succ]
  refine wpAnyH_take (i := 10) (oi := ({ dst := some 16, op := Op.convert 49 3 (Operand.tmp 15), type := 3, pos := "turn.go:69", after := #[{ on := 9, ground := Ground.data }, { on := 16, ground := Ground.gcOnly Departure.lateStores }], guard := none } : Oper)) (v := ?_) rfl (by kernel_rfl) (by kernel_rfl) (by kernel_rfl) (fun _ _ _ h => h) (Or.inl ⟨by rfl, ?_⟩) (by assumption) ?_
  rotate_left
  · intro wS hSw
    first
      | (go_simp; done)
      | (go_simp; with_reducible rfl)
  try simp only [Act.put, List.setIfInBounds_toArray, List.set_cons_zero, List.set_cons_succ]
  refine wpAnyH_take (i := 11) (oi := ({ dst := some 17, op := Op.fieldAddr 23 (Operand.tmp 2) 1, type := 0, pos := "turn.go:69", after := #[{ on := 16, ground := Ground.gcOnly Departure.lateStores }], guard := none } : Oper)) (v := ?_) rfl (by kernel_rfl) (by kernel_rfl) (by kernel_rfl) (fun _ _ _ h => h) (Or.inl ⟨by rfl, ?_⟩) (by assumption) ?_
  rotate_left
  · intro wS hSw
    first
      | (go_simp; done)
      | (go_simp; with_reducible rfl)
  try simp only [Act.put, List.setIfInBounds_toArray, List.set_cons_zero, List.set_cons_succ]
  refine wpAnyH_take (i := 12) (oi := ({ dst := some 18, op := Op.load 3 (Operand.tmp 17), type := 3, pos := "turn.go:69", after := #[{ on := 11, ground := Ground.data }, { on := 16, ground := Ground.gcOnly Departure.lateStores }], guard := none } : Oper)) (v := ?_) rfl (by kernel_rfl) (by kernel_rfl) (by kernel_rfl) (fun _ _ _ h => h) (Or.inl ⟨by rfl, ?_⟩) (by assumption) ?_
  rotate_left
  · intro wS hSw
    obtain ⟨q1, q2⟩ := hSw
    first
      | (go_simp; done)
      | (go_simp; with_reducible rfl)
  try simp only [Act.put, List.setIfInBounds_toArray, List.set_cons_zero, List.set_cons_succ]
  refine wpAnyH_take (i := 13) (oi := ({ dst := some 19, op := Op.binOp BinOp.sub 3 (Operand.tmp 18) (Operand.const (Value.int IntKind.i64 1)) 3, type := 3, pos := "turn.go:69", after := #[{ on := 12, ground := Ground.data }, { on := 16, ground := Ground.gcOnly Departure.lateStores }], guard := none } : Oper)) (v := ?_) rfl (by kernel_rfl) (by kernel_rfl) (by kernel_rfl) (fun _ _ _ h => h) (Or.inl ⟨by rfl, ?_⟩) (by assumption) ?_
  rotate_left
  · intro wS hSw
    first
      | (go_simp; done)
      | (go_simp; with_reducible rfl)
  try simp only [Act.put, List.setIfInBounds_toArray, List.set_cons_zero, List.set_cons_succ]
  refine wpAnyH_take (i := 14) (oi := ({ dst := some 20, op := Op.binOp BinOp.add 3 (Operand.tmp 16) (Operand.tmp 19) 3, type := 3, pos := "turn.go:69", after := #[{ on := 10, ground := Ground.data }, { on := 13, ground := Ground.data }, { on := 16, ground := Ground.gcOnly Departure.lateStores }], guard := none } : Oper)) (v := ?_) rfl (by kernel_rfl) (by kernel_rfl) (by kernel_rfl) (fun _ _ _ h => h) (Or.inl ⟨by rfl, ?_⟩) (by assumption) ?_
  rotate_left
  · intro wS hSw
    first
      | (go_simp; done)
      | (go_simp; with_reducible rfl)
  try simp only [Act.put, List.setIfInBounds_toArray, List.set_cons_zero, List.set_cons_succ]
  refine wpAnyH_take (i := 15) (oi := ({ dst := some 21, op := Op.binOp BinOp.quo 3 (Operand.tmp 20) (Operand.const (Value.int IntKind.i64 2)) 3, type := 3, pos := "turn.go:69", after := #[{ on := 14, ground := Ground.data }, { on := 16, ground := Ground.gcOnly Departure.lateStores }], guard := none } : Oper)) (v := ?_) rfl (by kernel_rfl) (by kernel_rfl) (by kernel_rfl) (fun _ _ _ h => h) (Or.inl ⟨by rfl, ?_⟩) (by assumption) ?_
  rotate_left
  · intro wS hSw
    first
      | (go_simp; done)
      | (go_simp; with_reducible rfl)
  try simp only [Act.put, List.setIfInBounds_toArray, List.set_cons_zero, List.set_cons_succ]
  refine wpAnyH_take (i := 16) (oi := ({ dst := some 4, op := Op.assign (Operand.tmp 13), type := 3, pos := "turn.go:69", after := #[{ on := 7, ground := Ground.data }, { on := 0, ground := Ground.phase }, { on := 1, ground := Ground.phase }, { on := 2, ground := Ground.phase }, { on := 3, ground := Ground.phase }, { on := 4, ground := Ground.phase }, { on := 5, ground := Ground.phase }, { on := 6, ground := Ground.phase }, { on := 7, ground := Ground.phase }, { on := 8, ground := Ground.textOnly Departure.lateStores }, { on := 9, ground := Ground.textOnly Departure.lateStoresUnsure }, { on := 10, ground := Ground.textOnly Departure.lateStores }, { on := 11, ground := Ground.textOnly Departure.lateStores }, { on := 12, ground := Ground.textOnly Departure.lateStores }, { on := 13, ground := Ground.textOnly Departure.lateStores }, { on := 14, ground := Ground.textOnly Departure.lateStores }, { on := 15, ground := Ground.textOnly Departure.lateStores }], guard := none } : Oper)) (v := ?_) rfl (by kernel_rfl) (by kernel_rfl) (by kernel_rfl) (fun _ _ _ h => h) (Or.inl ⟨by rfl, ?_⟩) (by assumption) ?_
  rotate_left
  · intro wS hSw
    first
      | (go_simp; done)
      | (go_simp; with_reducible rfl)
  try simp only [Act.put, List.setIfInBounds_toArray, List.set_cons_zero, List.set_cons_succ]
  refine wpAnyH_take (i := 17) (oi := ({ dst := some 5, op := Op.assign (Operand.tmp 21), type := 3, pos := "turn.go:69", after := #[{ on := 15, ground := Ground.data }, { on := 16, ground := Ground.chain }, { on := 0, ground := Ground.phase }, { on := 1, ground := Ground.phase }, { on := 2, ground := Ground.phase }, { on := 3, ground := Ground.phase }, { on := 4, ground := Ground.phase }, { on := 5, ground := Ground.phase }, { on := 6, ground := Ground.phase }, { on := 7, ground := Ground.phase }, { on := 8, ground := Ground.phase }, { on := 9, ground := Ground.phase }, { on := 10, ground := Ground.phase }, { on := 11, ground := Ground.phase }, { on := 12, ground := Ground.phase }, { on := 13, ground := Ground.phase }, { on := 14, ground := Ground.phase }, { on := 15, ground := Ground.phase }, { on := 16, ground := Ground.phase }], guard := none } : Oper)) (v := ?_) rfl (by kernel_rfl) (by kernel_rfl) (by kernel_rfl) (fun _ _ _ h => h) (Or.inl ⟨by rfl, ?_⟩) (by assumption) ?_
  rotate_left
  · intro wS hSw
    first
      | (go_simp; done)
      | (go_simp; with_reducible rfl)
  try simp only [Act.put, List.setIfInBounds_toArray, List.set_cons_zero, List.set_cons_succ]
  refine wpAnyH_done (by kernel_rfl) ?_ _
  go_wp2_with fail
  refine bodyPost_ret (resT_2 rfl _ _ _) rfl ?_
  exact ⟨rfl, HB.out⟩
end Go.Proofs.Ytmjcjdgdpecpjaa.CTurn
