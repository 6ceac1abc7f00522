/- Layer 10: sums of products; what all channels at a place add. -/
import Derived.Test.YtaoadgolplnedaaConvShape
import Derived.Test.YtaoadgolplnedaaPadRef
import Derived.IntWalk
import Derived.BigQuiet
namespace Go.Proofs.Ytaoadgolplnedaa.CConv
open Go Go.ChangeShapes Go.WideShapes Go.ChangeAt Go.RowKit
open Plain CSat CShape CTensor
set_option linter.unusedVariables false

theorem jump_ret {l : Nat} {J : Act → World → Prop} {Q : Exit → Act → World → Prop} {a : Act} {w : World} : Exit.jump l J Q Exit.ret a w = Q Exit.ret a w := rfl
theorem boxNew (H W C : Int) (A : Option Addr) (n c : Nat) (T : TypeId) (w : World) : BoxAt w.heap.size H W C A n c (w.alloc (.cells #[.int .i64 H, .int .i64 W, .int .i64 C, .slice A n c] T)) := BoxAt.new H W C A n c T w
/-- the sum of the first n. -/
def psum (G : Nat → Int) : Nat → Int
  | 0 => 0
  | n + 1 => psum G n + G n
theorem psum_bd {G : Nat → Int} {b : Int} {n : Nat} (h : ∀ k, k < n → -b ≤ G k ∧ G k ≤ b) : -(b * n) ≤ psum G n ∧ psum G n ≤ b * n := by
  induction n with
  | zero => simp [psum]
  | succ n ih =>
    have h1 := ih (fun k hk => h k (by omega))
    have h2 := h n (by omega)
    have e : b * ((n + 1 : Nat) : Int) = b * (n : Int) + b := by rw [show ((n + 1 : Nat) : Int) = (n : Int) + 1 by omega, Int.mul_add, Int.mul_one]
    rw [e]
    simp only [psum]
    omega
theorem psum_congr {G G' : Nat → Int} {n : Nat} (h : ∀ k, k < n → G k = G' k) : psum G n = psum G' n := by
  induction n with
  | zero => rfl
  | succ n ih => simp only [psum]; rw [ih (fun k hk => h k (by omega)), h n (by omega)]
theorem psum_zero {G : Nat → Int} {n : Nat} (h : ∀ k, k < n → G k = 0) : psum G n = 0 := by
  induction n with
  | zero => rfl
  | succ n ih => simp only [psum]; rw [ih (fun k hk => h k (by omega)), h n (by omega)]; rfl
theorem wrap32_add (a b : Int) : IntKind.i32.wrap (IntKind.i32.wrap a + b) = IntKind.i32.wrap (a + b) := by rw [IntKind.wrap_i32, IntKind.wrap_i32, IntKind.wrap_i32]; omega
theorem wrap32_add' (a b : Int) : IntKind.i32.wrap (a + IntKind.i32.wrap b) = IntKind.i32.wrap (a + b) := by rw [IntKind.wrap_i32, IntKind.wrap_i32, IntKind.wrap_i32]; omega
/-- a weight times a number above what stands for 0. -/
theorem term_bd {x y z : Int} (x1 : -128 ≤ x) (x2 : x ≤ 127) (y1 : -128 ≤ y) (y2 : y ≤ 127) (z1 : -128 ≤ z) (z2 : z ≤ 127) : -32640 ≤ y * (x - z) ∧ y * (x - z) ≤ 32640 := by
  have h1 : -255 ≤ x - z := by omega
  have h2 : x - z ≤ 255 := by omega
  generalize x - z = u at h1 h2
  have a1 : 0 ≤ (128 + y) * (255 - u) := Int.mul_nonneg (by omega) (by omega)
  have a2 : 0 ≤ (128 + y) * (255 + u) := Int.mul_nonneg (by omega) (by omega)
  have a3 : 0 ≤ (127 - y) * (255 - u) := Int.mul_nonneg (by omega) (by omega)
  have a4 : 0 ≤ (127 - y) * (255 + u) := Int.mul_nonneg (by omega) (by omega)
  simp only [Int.add_mul, Int.sub_mul, Int.mul_sub, Int.mul_add] at a1 a2 a3 a4
  omega
def I8b (zs : List Int) : Prop := ∀ q, -128 ≤ zs.getD q 0 ∧ zs.getD q 0 ≤ 127
/-- what one place adds for one channel. -/
def termF (zs ws : List Int) (st o : Nat) (Z : Int) (c : Nat) : Int := ws.getD (o + c) 0 * (zs.getD (st + c) 0 - Z)
theorem termF_bd {zs ws : List Int} {st o : Nat} {Z : Int} {c : Nat} (hz : I8b zs) (hw : I8b ws) (z1 : -128 ≤ Z) (z2 : Z ≤ 127) : -32640 ≤ termF zs ws st o Z c ∧ termF zs ws st o Z c ≤ 32640 :=
  term_bd (hz _).1 (hz _).2 (hw _).1 (hw _).2 z1 z2
theorem ints_getD {w : World} {B : Nat} {A : Option Addr} {k : IntKind} {zs : List Int} (h : Kit.Rd w B A (zs.map (.int k))) {j : Nat} (hj : j < zs.length) :
    ∃ b off, A = some ⟨b, off, none⟩ ∧ b < B ∧ ∀ i, i < zs.length → w.cell? ⟨b, off + i, none⟩ = some (.int k (zs.getD i 0)) := by
  obtain ⟨b, off, e, hb, hc⟩ := h.plain (by simp; omega)
  exact ⟨b, off, e, hb, fun i hi => hc i _ (by simp [List.getD_eq_getElem?_getD, List.getElem?_eq_getElem hi])⟩
set_option maxHeartbeats 1000000 in
theorem products_out (H W C : Int) (A : Option Addr) (n c : Nat) (ht : tensB H W C n = true) (h v : Int) (ho : ¬ (0 ≤ h ∧ h < H ∧ 0 ≤ v ∧ v < W)) (x : Value) (Z : Int) (w : World) :
    Calls Try.prog 37 #[.agg #[.int .i64 H, .int .i64 W, .int .i64 C, .slice A n c], .int .i64 h, .int .i64 v, x, .int .i8 Z] w fun e w' => e = .returned (.int .i32 0) ∧ Below w.heap.size w w' := by
  have hi : inB H W C h v 0 = false := by
    cases hb : inB H W C h v 0
    · rfl
    · simp only [inB, Bool.and_eq_true, decide_eq_true_eq] at hb
      exact absurd ⟨hb.2.1, hb.2.2.1, hb.2.2.2.1, hb.2.2.2.2.1⟩ ho
  have HI := Lib.hid hi
  clear hi ho ht
  go_enter Try.func37, Try.ntmps37
  go_wp2
  refine Kit.wp_scope_once 0 rfl ?_
  go_wp2_with (go_at_call 43; (refine (index_no H W C h v 0 HI.out _).mono ?_); rintro e w1 ⟨rfl, hb⟩; (have HB := Lib.hid (((Below.refl w.heap.size w).alloc (Nat.le_refl _) _).trans (hb.mono (by simp)))); clear hb)
  go_step3
  refine ⟨rfl, ?_⟩
  go_wp2
  rw [Exit.noGoto_ret]
  go_ret
  exact ⟨rfl, HB.out⟩
set_option maxRecDepth 100000 in
set_option maxHeartbeats 2000000 in
theorem products_in (H W C : Int) (A : Option Addr) (zs : List Int) (n c : Nat) (hn : zs.length = n) (ht : tensB H W C n = true) (hz : I8b zs) (h v : Int) (h0 : 0 ≤ h) (h1 : h < H) (v0 : 0 ≤ v) (v1 : v < W) (st : Nat) (hst : (h * W + v) * C = (st : Int))
    (WA : Option Addr) (ws : List Int) (nW cW : Nat) (hws : ws.length = nW) (hwb : I8b ws) (d : Nat) (hd : C = (d : Int)) (hdn : d ≤ nW) (Z : Int) (z1 : -128 ≤ Z) (z2 : Z ≤ 127)
    (w : World) (hr : Kit.Rd w w.heap.size A (I8s zs)) (hrw : Kit.Rd w w.heap.size WA (I8s ws)) (R : Int) (hR : IntKind.i32.wrap (psum (termF zs ws st 0 Z) d) = R) :
    Calls Try.prog 37 #[.agg #[.int .i64 H, .int .i64 W, .int .i64 C, .slice A n c], .int .i64 h, .int .i64 v, .slice WA nW cW, .int .i8 Z] w fun e w' => e = .returned (.int .i32 R) ∧ Below w.heap.size w w' := by
  have hs : shapeB H W C = true := by simp only [tensB, Bool.and_eq_true] at ht; exact ht.1
  have hm : (n : Int) = H * W * C := by simp only [tensB, Bool.and_eq_true, decide_eq_true_eq] at ht; exact ht.2
  obtain ⟨g1, g2, g3, g4, g5, g6, g7⟩ := shapeB_yes hs
  have hst0 : (h * W + v) * C + 0 = (st : Int) := by rw [Int.add_zero]; exact hst
  have hlast := (CPad.place_bd hs hm h0 h1 v0 v1 (k := C - 1) (by omega) (by omega))
  have hsn : st + d ≤ n := by omega
  have hd1 : 1 ≤ d := by omega
  have hd2 : d ≤ 1024 := by omega
  have hn2 : n ≤ 1024 := by rw [← hm] at g7; omega
  obtain ⟨bz, oz, rfl, hbz, hcz⟩ := ints_getD hr (j := 0) (by omega)
  obtain ⟨bw, ow, rfl, hbw, hcw⟩ := ints_getD hrw (j := 0) (by omega)
  have HS := Lib.hid hs
  have HST := Lib.hid hst0
  have HD := Lib.hid hd
  have HR := Lib.hid hR
  have HCZ := Lib.hid hcz
  have HCW := Lib.hid hcw
  have HZB := Lib.hid hz
  have HWB := Lib.hid hwb
  have hnz := hn
  clear hs hst hst0 hd hR hcz hcw hr hrw hlast hm ht g7 hz hwb
  go_enter Try.func37, Try.ntmps37
  go_wp2
  refine Kit.wp_scope_once 0 rfl ?_
  go_wp2_with (go_at_call 43; (refine (index_yes H W C h v 0 _ HS.out h0 h1 v0 v1 (by omega) (by omega) HST.out _).mono ?_); rintro e w1 ⟨rfl, hb⟩; obtain ⟨q0, q1, q2, q3⟩ := (boxNew H W C (some ⟨bz, oz, none⟩) n c 51 w).below (Nat.lt_succ_self _) (hb.mono (by simp)); (have HB := Lib.hid (((Below.refl w.heap.size w).alloc (Nat.le_refl _) _).trans (hb.mono (by simp)))); clear hb)
  have HCZ1 : Hid (∀ i, i < zs.length → w1.cell? ⟨bz, oz + i, none⟩ = some (.int .i8 (zs.getD i 0))) := Lib.hid (fun i hi => (HB.out.cell (p := ⟨bz, oz + i, none⟩) hbz).trans (HCZ.out i hi))
  have HCW1 : Hid (∀ i, i < ws.length → w1.cell? ⟨bw, ow + i, none⟩ = some (.int .i8 (ws.getD i 0))) := Lib.hid (fun i hi => (HB.out.cell (p := ⟨bw, ow + i, none⟩) hbw).trans (HCW.out i hi))
  clear HCZ HCW
  go_loopw [11, 28] (fun s u wr => ∃ k nq : Nat, k ≤ d ∧ u = .int .i64 k ∧ s = .int .i32 (IntKind.i32.wrap (psum (termF zs ws st 0 Z) k)) ∧ Hid (wr = w1.drewN nq)) (fun _ u _ => d - (intOf u).toNat)
  case atStart => exact ⟨0, 0, Nat.zero_le _, rfl, congrArg (Value.int .i32) (by simp [psum, IntKind.wrap_i32]), Lib.hid rfl⟩
  case round =>
    obtain ⟨k, nq, hk, rfl, rfl, hw⟩ := hrel
    obtain rfl := hw.out
    clear hw
    by_cases hlt : k < d
    · have hkI : (k : Int) < C := by have := HD.out; omega
      have hk0 : (0 : Int) ≤ (k : Int) := by omega
      have hkW : (k : Int) < (nW : Int) := by omega
      obtain ⟨p, hp⟩ : ∃ p, st + k = p := ⟨_, rfl⟩
      have hp0 : (0 : Int) ≤ (p : Int) := by omega
      have hpn : (p : Int) < (n : Int) := by omega
      have hpw : IntKind.i64.wrap ((st : Int) + (k : Int)) = (p : Int) := by rw [IntWalk.i64_in _ (by omega)]; omega
      have hcx := HCZ1.out p (by omega)
      have hcy := HCW1.out k (by omega)
      obtain ⟨x1, x2⟩ := HZB.out p
      obtain ⟨y1, y2⟩ := HWB.out k
      obtain ⟨t1, t2⟩ := term_bd x1 x2 y1 y2 z1 z2
      have hG : termF zs ws st 0 Z k = ws.getD k 0 * (zs.getD p 0 - Z) := by unfold termF; rw [Nat.zero_add, hp]
      have hnext : IntKind.i32.wrap (IntKind.i32.wrap (psum (termF zs ws st 0 Z) k) + ws.getD k 0 * (zs.getD p 0 - Z)) = IntKind.i32.wrap (psum (termF zs ws st 0 Z) (k + 1)) := by
        rw [wrap32_add]; simp only [psum]; rw [hG]
      have HNX := Lib.hid hnext
      generalize zs.getD p 0 = x at hcx x1 x2 t1 t2 HNX
      generalize ws.getD k 0 = y at hcy y1 y2 t1 t2 HNX
      obtain ⟨a, ha⟩ : ∃ a, IntKind.i32.wrap (psum (termF zs ws st 0 Z) k) = a := ⟨_, rfl⟩
      obtain ⟨b, hb⟩ : ∃ b, IntKind.i32.wrap (psum (termF zs ws st 0 Z) (k + 1)) = b := ⟨_, rfl⟩
      have HBB := Lib.hid hb
      have hnext := HNX.out
      rw [ha, hb] at hnext
      rw [ha]
      have e1 : IntKind.i32.wrap x = x := IntWalk.i32_in _ (by omega)
      have e2 : IntKind.i32.wrap y = y := IntWalk.i32_in _ (by omega)
      have e3 : IntKind.i32.wrap Z = Z := IntWalk.i32_in _ (by omega)
      have e4 : IntKind.i32.wrap (x - Z) = x - Z := IntWalk.i32_in _ (by omega)
      have e5 : IntKind.i32.wrap (y * (x - Z)) = y * (x - Z) := IntWalk.i32_in _ (by omega)
      clear ha hb hG HNX hp t1 t2
      go_wp2_with fail
      refine wp_region_held_drew (S := fun w' => w'.cell? ⟨w.heap.size, 3, none⟩ = some (.slice (some ⟨bz, oz, none⟩) n c) ∧ w'.cell? ⟨bz, oz + p, none⟩ = some (.int .i8 x) ∧ w'.cell? ⟨bw, ow + k, none⟩ = some (.int .i8 y)) (by kernel_rfl) ⟨q3, hcx, hcy⟩ (fun hHeld => ?_)
      refine wpAnyH_take (i := 0) (oi := ({ dst := some 31, op := Op.move (Operand.tmp 11), type := 21, pos := "conv.go:62", after := #[], guard := none } : Oper)) (v := ?_) rfl (by kernel_rfl) (by kernel_rfl) (by kernel_rfl) (fun _ _ _ h => h) (Or.inl ⟨by rfl, ?_⟩) (by assumption) ?_
      rotate_left
      · intro wS hSw
        first
          | (go_simp; done)
          | (go_simp; with_reducible rfl)
      try simp only [Act.put, List.setIfInBounds_toArray, List.set_cons_zero, List.set_cons_succ]
      refine wpAnyH_take (i := 1) (oi := ({ dst := some 32, op := Op.move (Operand.tmp 3), type := 23, pos := "conv.go:62", after := #[], guard := none } : Oper)) (v := ?_) rfl (by kernel_rfl) (by kernel_rfl) (by kernel_rfl) (fun _ _ _ h => h) (Or.inl ⟨by rfl, ?_⟩) (by assumption) ?_
      rotate_left
      · intro wS hSw
        first
          | (go_simp; done)
          | (go_simp; with_reducible rfl)
      try simp only [Act.put, List.setIfInBounds_toArray, List.set_cons_zero, List.set_cons_succ]
      refine wpAnyH_take (i := 2) (oi := ({ dst := some 33, op := Op.move (Operand.tmp 14), type := 3, pos := "conv.go:62", after := #[], guard := none } : Oper)) (v := ?_) rfl (by kernel_rfl) (by kernel_rfl) (by kernel_rfl) (fun _ _ _ h => h) (Or.inl ⟨by rfl, ?_⟩) (by assumption) ?_
      rotate_left
      · intro wS hSw
        first
          | (go_simp; done)
          | (go_simp; with_reducible rfl)
      try simp only [Act.put, List.setIfInBounds_toArray, List.set_cons_zero, List.set_cons_succ]
      refine wpAnyH_take (i := 3) (oi := ({ dst := some 34, op := Op.indexAddr 23 (Operand.tmp 32) (Operand.tmp 33), type := 0, pos := "conv.go:62", after := #[{ on := 1, ground := Ground.data }, { on := 2, ground := Ground.data }], guard := none } : Oper)) (v := ?_) rfl (by kernel_rfl) (by kernel_rfl) (by kernel_rfl) (fun _ _ _ h => h) (Or.inl ⟨by rfl, ?_⟩) (by assumption) ?_
      rotate_left
      · intro wS hSw
        first
          | (go_simp; done)
          | (go_simp; with_reducible rfl)
      try simp only [Act.put, List.setIfInBounds_toArray, List.set_cons_zero, List.set_cons_succ]
      refine wpAnyH_take (i := 4) (oi := ({ dst := some 35, op := Op.load 22 (Operand.tmp 34), type := 22, pos := "conv.go:62", after := #[{ on := 3, ground := Ground.data }], guard := none } : Oper)) (v := ?_) rfl (by kernel_rfl) (by kernel_rfl) (by kernel_rfl) (fun _ _ _ h => h) (Or.inl ⟨by rfl, ?_⟩) (by assumption) ?_
      rotate_left
      · intro wS hSw
        obtain ⟨u1, u2, u3⟩ := hSw
        first
          | (go_simp; done)
          | (go_simp; with_reducible rfl)
      try simp only [Act.put, List.setIfInBounds_toArray, List.set_cons_zero, List.set_cons_succ]
      refine wpAnyH_take (i := 5) (oi := ({ dst := some 36, op := Op.convert 22 21 (Operand.tmp 35), type := 21, pos := "conv.go:62", after := #[{ on := 4, ground := Ground.data }], guard := none } : Oper)) (v := ?_) rfl (by kernel_rfl) (by kernel_rfl) (by kernel_rfl) (fun _ _ _ h => h) (Or.inl ⟨by rfl, ?_⟩) (by assumption) ?_
      rotate_left
      · intro wS hSw
        first
          | (go_simp; done)
          | (go_simp; with_reducible rfl)
      try simp only [Act.put, List.setIfInBounds_toArray, List.set_cons_zero, List.set_cons_succ]
      refine wpAnyH_take (i := 6) (oi := ({ dst := some 37, op := Op.fieldAddr 51 (Operand.tmp 5) 1, type := 0, pos := "conv.go:62", after := #[], guard := none } : Oper)) (v := ?_) rfl (by kernel_rfl) (by kernel_rfl) (by kernel_rfl) (fun _ _ _ h => h) (Or.inl ⟨by rfl, ?_⟩) (by assumption) ?_
      rotate_left
      · intro wS hSw
        first
          | (go_simp; done)
          | (go_simp; with_reducible rfl)
      try simp only [Act.put, List.setIfInBounds_toArray, List.set_cons_zero, List.set_cons_succ]
      refine wpAnyH_take (i := 7) (oi := ({ dst := some 38, op := Op.load 23 (Operand.tmp 37), type := 23, pos := "conv.go:62", after := #[{ on := 6, ground := Ground.data }], guard := none } : Oper)) (v := ?_) rfl (by kernel_rfl) (by kernel_rfl) (by kernel_rfl) (fun _ _ _ h => h) (Or.inl ⟨by rfl, ?_⟩) (by assumption) ?_
      rotate_left
      · intro wS hSw
        obtain ⟨u1, u2, u3⟩ := hSw
        first
          | (go_simp; done)
          | (go_simp; with_reducible rfl)
      try simp only [Act.put, List.setIfInBounds_toArray, List.set_cons_zero, List.set_cons_succ]
      refine wpAnyH_take (i := 8) (oi := ({ dst := some 39, op := Op.move (Operand.tmp 12), type := 3, pos := "conv.go:62", after := #[], guard := none } : Oper)) (v := ?_) rfl (by kernel_rfl) (by kernel_rfl) (by kernel_rfl) (fun _ _ _ h => h) (Or.inl ⟨by rfl, ?_⟩) (by assumption) ?_
      rotate_left
      · intro wS hSw
        first
          | (go_simp; done)
          | (go_simp; with_reducible rfl)
      try simp only [Act.put, List.setIfInBounds_toArray, List.set_cons_zero, List.set_cons_succ]
      refine wpAnyH_take (i := 9) (oi := ({ dst := some 40, op := Op.move (Operand.tmp 14), type := 3, pos := "conv.go:62", after := #[], guard := none } : Oper)) (v := ?_) rfl (by kernel_rfl) (by kernel_rfl) (by kernel_rfl) (fun _ _ _ h => h) (Or.inl ⟨by rfl, ?_⟩) (by assumption) ?_
      rotate_left
      · intro wS hSw
        first
          | (go_simp; done)
          | (go_simp; with_reducible rfl)
      try simp only [Act.put, List.setIfInBounds_toArray, List.set_cons_zero, List.set_cons_succ]
      refine wpAnyH_take (i := 10) (oi := ({ dst := some 41, op := Op.binOp BinOp.add 3 (Operand.tmp 39) (Operand.tmp 40) 3, type := 3, pos := "conv.go:62", after := #[{ on := 8, ground := Ground.data }, { on := 9, ground := Ground.data }], guard := none } : Oper)) (v := ?_) rfl (by kernel_rfl) (by kernel_rfl) (by kernel_rfl) (fun _ _ _ h => h) (Or.inl ⟨by rfl, ?_⟩) (by assumption) ?_
      rotate_left
      · intro wS hSw
        first
          | (go_simp; done)
          | (go_simp; with_reducible rfl)
      try simp only [Act.put, List.setIfInBounds_toArray, List.set_cons_zero, List.set_cons_succ]
      refine wpAnyH_take (i := 11) (oi := ({ dst := some 42, op := Op.indexAddr 23 (Operand.tmp 38) (Operand.tmp 41), type := 0, pos := "conv.go:62", after := #[{ on := 7, ground := Ground.data }, { on := 10, ground := Ground.data }], guard := none } : Oper)) (v := ?_) rfl (by kernel_rfl) (by kernel_rfl) (by kernel_rfl) (fun _ _ _ h => h) (Or.inl ⟨by rfl, ?_⟩) (by assumption) ?_
      rotate_left
      · intro wS hSw
        first
          | (go_simp; done)
          | (go_simp; with_reducible rfl)
      try simp only [Act.put, List.setIfInBounds_toArray, List.set_cons_zero, List.set_cons_succ]
      refine wpAnyH_take (i := 12) (oi := ({ dst := some 43, op := Op.load 22 (Operand.tmp 42), type := 22, pos := "conv.go:62", after := #[{ on := 11, ground := Ground.data }], guard := none } : Oper)) (v := ?_) rfl (by kernel_rfl) (by kernel_rfl) (by kernel_rfl) (fun _ _ _ h => h) (Or.inl ⟨by rfl, ?_⟩) (by assumption) ?_
      rotate_left
      · intro wS hSw
        obtain ⟨u1, u2, u3⟩ := hSw
        first
          | (go_simp; done)
          | (go_simp; with_reducible rfl)
      try simp only [Act.put, List.setIfInBounds_toArray, List.set_cons_zero, List.set_cons_succ]
      refine wpAnyH_take (i := 13) (oi := ({ dst := some 44, op := Op.convert 22 21 (Operand.tmp 43), type := 21, pos := "conv.go:62", after := #[{ on := 12, ground := Ground.data }], guard := none } : Oper)) (v := ?_) rfl (by kernel_rfl) (by kernel_rfl) (by kernel_rfl) (fun _ _ _ h => h) (Or.inl ⟨by rfl, ?_⟩) (by assumption) ?_
      rotate_left
      · intro wS hSw
        first
          | (go_simp; done)
          | (go_simp; with_reducible rfl)
      try simp only [Act.put, List.setIfInBounds_toArray, List.set_cons_zero, List.set_cons_succ]
      refine wpAnyH_take (i := 14) (oi := ({ dst := some 45, op := Op.move (Operand.tmp 4), type := 22, pos := "conv.go:62", after := #[], guard := none } : Oper)) (v := ?_) rfl (by kernel_rfl) (by kernel_rfl) (by kernel_rfl) (fun _ _ _ h => h) (Or.inl ⟨by rfl, ?_⟩) (by assumption) ?_
      rotate_left
      · intro wS hSw
        first
          | (go_simp; done)
          | (go_simp; with_reducible rfl)
      try simp only [Act.put, List.setIfInBounds_toArray, List.set_cons_zero, List.set_cons_succ]
      refine wpAnyH_take (i := 15) (oi := ({ dst := some 46, op := Op.convert 22 21 (Operand.tmp 45), type := 21, pos := "conv.go:62", after := #[{ on := 14, ground := Ground.data }], guard := none } : Oper)) (v := ?_) rfl (by kernel_rfl) (by kernel_rfl) (by kernel_rfl) (fun _ _ _ h => h) (Or.inl ⟨by rfl, ?_⟩) (by assumption) ?_
      rotate_left
      · intro wS hSw
        first
          | (go_simp; done)
          | (go_simp; with_reducible rfl)
      try simp only [Act.put, List.setIfInBounds_toArray, List.set_cons_zero, List.set_cons_succ]
      refine wpAnyH_take (i := 16) (oi := ({ dst := some 47, op := Op.binOp BinOp.sub 21 (Operand.tmp 44) (Operand.tmp 46) 21, type := 21, pos := "conv.go:62", after := #[{ on := 13, ground := Ground.data }, { on := 15, ground := Ground.data }], guard := none } : Oper)) (v := ?_) rfl (by kernel_rfl) (by kernel_rfl) (by kernel_rfl) (fun _ _ _ h => h) (Or.inl ⟨by rfl, ?_⟩) (by assumption) ?_
      rotate_left
      · intro wS hSw
        first
          | (go_simp; done)
          | (go_simp; with_reducible rfl)
      try simp only [Act.put, List.setIfInBounds_toArray, List.set_cons_zero, List.set_cons_succ]
      refine wpAnyH_take (i := 17) (oi := ({ dst := some 48, op := Op.binOp BinOp.mul 21 (Operand.tmp 36) (Operand.tmp 47) 21, type := 21, pos := "conv.go:62", after := #[{ on := 5, ground := Ground.data }, { on := 16, ground := Ground.data }], guard := none } : Oper)) (v := ?_) rfl (by kernel_rfl) (by kernel_rfl) (by kernel_rfl) (fun _ _ _ h => h) (Or.inl ⟨by rfl, ?_⟩) (by assumption) ?_
      rotate_left
      · intro wS hSw
        first
          | (go_simp; done)
          | (go_simp; with_reducible rfl)
      try simp only [Act.put, List.setIfInBounds_toArray, List.set_cons_zero, List.set_cons_succ]
      refine wpAnyH_take (i := 18) (oi := ({ dst := some 49, op := Op.binOp BinOp.add 21 (Operand.tmp 31) (Operand.tmp 48) 21, type := 21, pos := "conv.go:62", after := #[{ on := 0, ground := Ground.data }, { on := 17, ground := Ground.data }], guard := none } : Oper)) (v := ?_) rfl (by kernel_rfl) (by kernel_rfl) (by kernel_rfl) (fun _ _ _ h => h) (Or.inl ⟨by rfl, ?_⟩) (by assumption) ?_
      rotate_left
      · intro wS hSw
        first
          | (go_simp; done)
          | (go_simp; with_reducible rfl)
      try simp only [Act.put, List.setIfInBounds_toArray, List.set_cons_zero, List.set_cons_succ]
      refine wpAnyH_take (i := 19) (oi := ({ dst := some 11, op := Op.assign (Operand.tmp 49), type := 21, pos := "conv.go:62", after := #[{ on := 18, ground := Ground.data }, { on := 0, ground := Ground.phase }, { on := 1, ground := Ground.phase }, { on := 2, ground := Ground.phase }, { on := 3, ground := Ground.phase }, { on := 4, ground := Ground.phase }, { on := 5, ground := Ground.phase }, { on := 6, ground := Ground.phase }, { on := 7, ground := Ground.phase }, { on := 8, ground := Ground.phase }, { on := 9, ground := Ground.phase }, { on := 10, ground := Ground.phase }, { on := 11, ground := Ground.phase }, { on := 12, ground := Ground.phase }, { on := 13, ground := Ground.phase }, { on := 14, ground := Ground.phase }, { on := 15, ground := Ground.phase }, { on := 16, ground := Ground.phase }, { on := 17, ground := Ground.phase }, { on := 18, ground := Ground.phase }], guard := none } : Oper)) (v := ?_) rfl (by kernel_rfl) (by kernel_rfl) (by kernel_rfl) (fun _ _ _ h => h) (Or.inl ⟨by rfl, ?_⟩) (by assumption) ?_
      rotate_left
      · intro wS hSw
        first
          | (go_simp; done)
          | (go_simp; with_reducible rfl)
      try simp only [Act.put, List.setIfInBounds_toArray, List.set_cons_zero, List.set_cons_succ]
      refine wpAnyH_done (by kernel_rfl) ?_ _
      clear hHeld e1 e2 e3 e4 e5 hnext
      go_wp2_with fail
      go_roundw
      case rel => exact ⟨k + 1, nq + 1, by omega, by go_num, by rw [HBB.out], Lib.hid rfl⟩
      case measure => simp [intOf]; omega
    · obtain rfl : k = d := by omega
      have hkI : ¬ (k : Int) < C := by have := HD.out; omega
      rw [HR.out]
      go_wp2_with fail
      go_step3
      go_wp2
      rw [jump_ret]
      go_ret
      exact ⟨rfl, Kit.below_drewN HB.out _⟩
end Go.Proofs.Ytaoadgolplnedaa.CConv
