/- OctetPuts: any numbers' bytes, and the number of any four bytes, are those of the document; the call returns true and leaves its arguments as they were. No condition. -/
import Derived.Test.YtkmcmaickopobacOctetKnown
import Derived.Deep.RegionHeld3
import Derived.Deep.CutRange
namespace Go.Proofs.Ytkmcmaickopobac.lawOctetPuts
open Go Go.ChangeShapes Go.WideShapes Go.ChangeAt Go.RowKit
open LebNum CLeb COctet
set_option linter.unusedVariables false

theorem get32_to (b off n c : Nat) (hl : 4 ≤ n) (x0 x1 x2 x3 v : Int) (hv : x0 + 256 * x1 + 65536 * x2 + 16777216 * x3 = v) (w : World) (h0 : w.cell? ⟨b, off, none⟩ = some (.int .u8 x0)) (h1 : w.cell? ⟨b, off + 1, none⟩ = some (.int .u8 x1)) (h2 : w.cell? ⟨b, off + 2, none⟩ = some (.int .u8 x2)) (h3 : w.cell? ⟨b, off + 3, none⟩ = some (.int .u8 x3))
    (a0 : 0 ≤ x0 ∧ x0 ≤ 255) (a1 : 0 ≤ x1 ∧ x1 ≤ 255) (a2 : 0 ≤ x2 ∧ x2 ≤ 255) (a3 : 0 ≤ x3 ∧ x3 ≤ 255) :
    Calls Try.prog 6 #[.slice (some ⟨b, off, none⟩) n c] w fun e w' => e = .returned (.tuple #[.int .u32 v, .bool true]) ∧ ∃ m, w' = w.drewN m :=
  hv ▸ get32_yes b off n c hl x0 x1 x2 x3 w h0 h1 h2 h3 a0 a1 a2 a3
theorem refPut32_to (n : Int) (h0 : 0 ≤ n) (h1 : n ≤ 4294967295) (ds : List Int) (hd : ds = [n % 256, n / 256 % 256, n / 65536 % 256, n / 16777216]) (w : World) :
    Calls Try.prog 8 #[.int .u32 n] w (Listed w 4 ds) := by
  refine (refPut32 n h0 h1 w).mono ?_
  rintro e w' ⟨rfl, rfl⟩
  subst hd
  exact ⟨_, _, rfl, Nat.le_refl _, by decide, Kit.Rd.new w [.int .u8 (n % 256), .int .u8 (n / 256 % 256), .int .u8 (n / 65536 % 256), .int .u8 (n / 16777216)] _ (by simp), (Below.refl _ _).alloc (Nat.le_refl _) _⟩
theorem put32_to (n : Int) (h0 : 0 ≤ n) (h1 : n ≤ 4294967295) (ds : List Int) (hd : ds = [n % 256, n / 256 % 256, n / 65536 % 256, n / 16777216]) (w : World) :
    Calls Try.prog 9 #[.int .u32 n] w (Listed w 4 ds) := by
  refine (put32 n h0 h1 w).mono ?_
  rintro e w' ⟨rfl, rfl⟩
  subst hd
  exact ⟨_, _, rfl, Nat.le_refl _, by decide, Kit.Rd.new w [.int .u8 (n % 256), .int .u8 (n / 256 % 256), .int .u8 (n / 65536 % 256), .int .u8 (n / 16777216)] _ (by simp), (Below.refl _ _).alloc (Nat.le_refl _) _⟩
theorem u8s_of {zs : List Int} (hw : ∀ n ∈ zs, (Lit.int .u8 n).wf = true) : ∀ z ∈ zs, 0 ≤ z ∧ z ≤ 255 := fun z h => bounds_u8 (hw z h)
theorem i8s_of {zs : List Int} (hw : ∀ n ∈ zs, (Lit.int .i8 n).wf = true) : I8r zs := fun z h => bounds_i8 (hw z h)
theorem i32s_of {zs : List Int} (hw : ∀ n ∈ zs, (Lit.int .i32 n).wf = true) : I32s zs := fun z h => bounds_i32 (hw z h)
theorem u32_of {n : Int} (hw : (Lit.int .u32 n).wf = true) : 0 ≤ n ∧ n ≤ 4294967295 := bounds_u32 hw

theorem walk_long {w : World} (n : Int) (A : Option Addr) (N k : Nat) (B : Option Addr) (M l : Nat) (C : Option Addr) (L m : Nat) (hl : 300 < N ∨ 300 < M ∨ 300 < L) :
    Calls Try.prog 3 #[.int .u32 n, .slice A N k, .slice B M l, .slice C L m] w fun e w' => e = .returned (.bool true) ∧ Below w.heap.size w w' := by
  have fin : ∀ (q : Nat), 300 < q ∨ q ≤ 300 := fun q => by omega
  rcases fin N with h1 | h1
  · have h1I : (300 : Int) < (N : Int) := by omega
    clear hl
    go_enter Try.func3, Try.ntmps3
    go_wp2_with (go_at_call 5; (refine (known08 _).mono ?_); rintro e w1 ⟨rfl, hb1⟩; (have HB := Lib.hid hb1); clear hb1)
    go_ret
    exact ⟨rfl, HB.out⟩
  · have h1I : (N : Int) ≤ 300 := by omega
    rcases fin M with h2 | h2
    · have h2I : (300 : Int) < (M : Int) := by omega
      clear hl
      go_enter Try.func3, Try.ntmps3
      go_wp2_with (go_at_call 5; (refine (known08 _).mono ?_); rintro e w1 ⟨rfl, hb1⟩; (have HB := Lib.hid hb1); clear hb1)
      go_ret
      exact ⟨rfl, HB.out⟩
    · have h2I : (M : Int) ≤ 300 := by omega
      have h3 : 300 < L := by omega
      have h3I : (300 : Int) < (L : Int) := by omega
      clear hl
      go_enter Try.func3, Try.ntmps3
      go_wp2_with (go_at_call 5; (refine (known08 _).mono ?_); rintro e w1 ⟨rfl, hb1⟩; (have HB := Lib.hid hb1); clear hb1)
      go_ret
      exact ⟨rfl, HB.out⟩
set_option maxRecDepth 100000 in
set_option maxHeartbeats 4000000 in
theorem walk_few {w : World} (n : Int) (n1 : 0 ≤ n) (n2 : n ≤ 4294967295) (A : Option Addr) (zs : List Int) (N k : Nat) (hN : zs.length = N) (hNl : N ≤ 300) (hz : I8r zs) (hrA : Kit.Rd w w.heap.size A (zs.map (.int .i8)))
    (B : Option Addr) (ws : List Int) (M l : Nat) (hM : ws.length = M) (hMl : M ≤ 300) (hw : I32s ws) (hrB : Kit.Rd w w.heap.size B (ws.map (.int .i32)))
    (C : Option Addr) (bs : List Int) (L m : Nat) (hL : bs.length = L) (hLl : L ≤ 300) (hb : ∀ z ∈ bs, 0 ≤ z ∧ z ≤ 255) (hLm : L ≤ m) (hmm : m ≤ maxLen) (hrC : Kit.Rd w w.heap.size C (bytesV bs)) (h4 : L < 4) :
    Calls Try.prog 3 #[.int .u32 n, .slice A N k, .slice B M l, .slice C L m] w fun e w' => e = .returned (.bool true) ∧ Below w.heap.size w w' := by
  have hNI : (N : Int) ≤ 300 := by omega
  have hMI : (M : Int) ≤ 300 := by omega
  have hLI : (L : Int) ≤ 300 := by omega
  unfold maxLen at hmm
  have h4I : (L : Int) < 4 := by omega
  have hd4 : decide ((4 : Int) ≤ (L : Int)) = false := by simp; omega
  clear hb hL
  obtain ⟨D, hD⟩ : ∃ D, (encZ ws).length = D := ⟨_, rfl⟩
  have hDl : D ≤ 1000000 := by have := (encZ_len ws hw).2; omega
  have hN6 : N ≤ 1000 := by omega
  have hM6 : M ≤ 1000 := by omega
  have hN7 : N ≤ 1000000 := by omega
  have hsz : (smallZ zs).length = N := by simp [smallZ, hN]
  obtain ⟨ds, hds⟩ : ∃ ds, ds = [n % 256, n / 256 % 256, n / 65536 % 256, n / 16777216] := ⟨_, rfl⟩
  have hdl : ds.length = 4 := by rw [hds]; rfl
  have HN := Lib.hid hN
  have HM := Lib.hid hM
  have HZ := Lib.hid hz
  have HW := Lib.hid hw
  have HDD := Lib.hid hD
  have HSZ := Lib.hid hsz
  have HDS := Lib.hid hds
  have HDL := Lib.hid hdl
  have HRA := Lib.hid hrA
  have HRB := Lib.hid hrB
  have HB := Lib.hid (Below.refl w.heap.size w)
  clear hN hM hz hw hD hsz hds hdl hrA hrB hrC
  go_enter Try.func3, Try.ntmps3
  go_wp2_with (go_at_call 6; (refine (get32_no C L m h4 _).mono ?_); rintro e w1 ⟨rfl, rfl⟩)
  refine wp_region_held_drew (S := fun _ => True) (by kernel_rfl) trivial (fun hHeld => ?_)
  replace HB := Lib.hid HB.out.drew
  refine wpAnyH_take (i := 0) (oi := ({ dst := some 30, op := Op.move (Operand.tmp 10), type := 4, pos := "law.go:25", after := #[], guard := none } : Oper)) (v := ?_) rfl (by kernel_rfl) (by kernel_rfl) (by kernel_rfl) (fun _ _ _ h => h) (Or.inl ⟨by rfl, ?_⟩) (by assumption) ?_
  rotate_left
  · intro wS hSw
    first
      | (go_simp; done)
      | (go_simp; with_reducible rfl)
  try simp only [Act.put, List.setIfInBounds_toArray, List.set_cons_zero, List.set_cons_succ]
  refine wpAnyH_take (i := 1) (oi := ({ dst := some 31, op := Op.move (Operand.tmp 3), type := 25, pos := "law.go:25", after := #[], guard := none } : Oper)) (v := ?_) rfl (by kernel_rfl) (by kernel_rfl) (by kernel_rfl) (fun _ _ _ h => h) (Or.inl ⟨by rfl, ?_⟩) (by assumption) ?_
  rotate_left
  · intro wS hSw
    first
      | (go_simp; done)
      | (go_simp; with_reducible rfl)
  try simp only [Act.put, List.setIfInBounds_toArray, List.set_cons_zero, List.set_cons_succ]
  refine wpAnyH_take (i := 2) (oi := ({ dst := some 32, op := Op.call { callee := Callee.builtin Builtin.len, args := #[Operand.tmp 31], argTypes := #[25] }, type := 3, pos := "law.go:25", after := #[{ on := 1, ground := Ground.data }], guard := none } : Oper)) (v := ?_) rfl (by kernel_rfl) (by kernel_rfl) (by kernel_rfl) (fun _ _ _ h => h) (Or.inl ⟨by rfl, ?_⟩) (by assumption) ?_
  rotate_left
  · intro wS hSw
    first
      | (go_simp; done)
      | (go_simp; with_reducible rfl)
  try simp only [Act.put, List.setIfInBounds_toArray, List.set_cons_zero, List.set_cons_succ]
  refine wpAnyH_take (i := 3) (oi := ({ dst := some 33, op := Op.binOp BinOp.geq 3 (Operand.tmp 32) (Operand.const (Value.int IntKind.i64 4)) 3, type := 4, pos := "law.go:25", after := #[{ on := 2, ground := Ground.data }], guard := none } : Oper)) (v := ?_) rfl (by kernel_rfl) (by kernel_rfl) (by kernel_rfl) (fun _ _ _ h => h) (Or.inl ⟨by rfl, ?_⟩) (by assumption) ?_
  rotate_left
  · intro wS hSw
    first
      | (go_simp; simp only [hd4]; done)
      | (go_simp; simp only [hd4]; with_reducible rfl)
      | (go_simp; done)
      | (go_simp; with_reducible rfl)
  try simp only [Act.put, List.setIfInBounds_toArray, List.set_cons_zero, List.set_cons_succ]
  refine wpAnyH_take (i := 4) (oi := ({ dst := some 34, op := Op.binOp BinOp.neq 4 (Operand.tmp 30) (Operand.tmp 33) 4, type := 4, pos := "law.go:25", after := #[{ on := 0, ground := Ground.data }, { on := 3, ground := Ground.data }], guard := none } : Oper)) (v := ?_) rfl (by kernel_rfl) (by kernel_rfl) (by kernel_rfl) (fun _ _ _ h => h) (Or.inl ⟨by rfl, ?_⟩) (by assumption) ?_
  rotate_left
  · intro wS hSw
    first
      | (go_simp; done)
      | (go_simp; with_reducible rfl)
  try simp only [Act.put, List.setIfInBounds_toArray, List.set_cons_zero, List.set_cons_succ]
  refine wpAnyH_take (i := 5) (oi := ({ dst := some 35, op := Op.move (Operand.tmp 34), type := 4, pos := "law.go:25", after := #[{ on := 4, ground := Ground.data }], guard := none } : Oper)) (v := ?_) rfl (by kernel_rfl) (by kernel_rfl) (by kernel_rfl) (fun _ _ _ h => h) (Or.inl ⟨by rfl, ?_⟩) (by assumption) ?_
  rotate_left
  · intro wS hSw
    first
      | (go_simp; done)
      | (go_simp; with_reducible rfl)
  try simp only [Act.put, List.setIfInBounds_toArray, List.set_cons_zero, List.set_cons_succ]
  refine wpAnyH_take (i := 6) (oi := ({ dst := some 36, op := Op.move (Operand.tmp 10), type := 4, pos := "law.go:25", after := #[{ on := 5, ground := Ground.guard }], guard := some (5, false) } : Oper)) (v := ?_) rfl (by kernel_rfl) (by kernel_rfl) (by kernel_rfl) (fun _ _ _ h => h) (Or.inl ⟨by rfl, ?_⟩) (by assumption) ?_
  rotate_left
  · intro wS hSw
    first
      | (go_simp; done)
      | (go_simp; with_reducible rfl)
  try simp only [Act.put, List.setIfInBounds_toArray, List.set_cons_zero, List.set_cons_succ]
  refine wpAnyH_take (i := 7) (oi := ({ dst := some 37, op := Op.unOp UnOp.not 4 (Operand.tmp 36), type := 4, pos := "law.go:25", after := #[{ on := 6, ground := Ground.data }, { on := 5, ground := Ground.guard }], guard := some (5, false) } : Oper)) (v := ?_) rfl (by kernel_rfl) (by kernel_rfl) (by kernel_rfl) (fun _ _ _ h => h) (Or.inl ⟨by rfl, ?_⟩) (by assumption) ?_
  rotate_left
  · intro wS hSw
    first
      | (go_simp; done)
      | (go_simp; with_reducible rfl)
  try simp only [Act.put, List.setIfInBounds_toArray, List.set_cons_zero, List.set_cons_succ]
  refine wpAnyH_take (i := 8) (oi := ({ dst := some 38, op := Op.move (Operand.tmp 37), type := 4, pos := "law.go:25", after := #[{ on := 7, ground := Ground.data }, { on := 5, ground := Ground.chain }, { on := 5, ground := Ground.guard }], guard := some (5, false) } : Oper)) (v := ?_) rfl (by kernel_rfl) (by kernel_rfl) (by kernel_rfl) (fun _ _ _ h => h) (Or.inl ⟨by rfl, ?_⟩) (by assumption) ?_
  rotate_left
  · intro wS hSw
    first
      | (go_simp; done)
      | (go_simp; with_reducible rfl)
  try simp only [Act.put, List.setIfInBounds_toArray, List.set_cons_zero, List.set_cons_succ]
  refine wpAnyH_take (i := 9) (oi := ({ dst := some 39, op := Op.move (Operand.tmp 9), type := 22, pos := "law.go:25", after := #[{ on := 8, ground := Ground.guard }], guard := some (8, true) } : Oper)) (v := ?_) rfl (by kernel_rfl) (by kernel_rfl) (by kernel_rfl) (fun _ _ _ h => h) (Or.inl ⟨by rfl, ?_⟩) (by assumption) ?_
  rotate_left
  · intro wS hSw
    first
      | (go_simp; done)
      | (go_simp; with_reducible rfl)
  try simp only [Act.put, List.setIfInBounds_toArray, List.set_cons_zero, List.set_cons_succ]
  refine wpAnyH_take (i := 10) (oi := ({ dst := some 40, op := Op.binOp BinOp.neq 22 (Operand.tmp 39) (Operand.const (Value.int IntKind.u32 0)) 22, type := 4, pos := "law.go:25", after := #[{ on := 9, ground := Ground.data }, { on := 8, ground := Ground.guard }], guard := some (8, true) } : Oper)) (v := ?_) rfl (by kernel_rfl) (by kernel_rfl) (by kernel_rfl) (fun _ _ _ h => h) (Or.inl ⟨by rfl, ?_⟩) (by assumption) ?_
  rotate_left
  · intro wS hSw
    first
      | (go_simp; done)
      | (go_simp; with_reducible rfl)
  try simp only [Act.put, List.setIfInBounds_toArray, List.set_cons_zero, List.set_cons_succ]
  refine wpAnyH_take (i := 11) (oi := ({ dst := some 41, op := Op.pick (Operand.tmp 38) (Operand.tmp 40) (Operand.const (Value.bool false)), type := 4, pos := "law.go:25", after := #[{ on := 8, ground := Ground.data }, { on := 10, ground := Ground.data }, { on := 5, ground := Ground.guard }], guard := some (5, false) } : Oper)) (v := ?_) rfl (by kernel_rfl) (by kernel_rfl) (by kernel_rfl) (fun _ _ _ h => h) (Or.inl ⟨by rfl, ?_⟩) (by assumption) ?_
  rotate_left
  · intro wS hSw
    first
      | (go_simp; done)
      | (go_simp; with_reducible rfl)
  try simp only [Act.put, List.setIfInBounds_toArray, List.set_cons_zero, List.set_cons_succ]
  refine wpAnyH_take (i := 12) (oi := ({ dst := some 42, op := Op.pick (Operand.tmp 35) (Operand.const (Value.bool true)) (Operand.tmp 41), type := 4, pos := "law.go:25", after := #[{ on := 5, ground := Ground.data }, { on := 11, ground := Ground.data }], guard := none } : Oper)) (v := ?_) rfl (by kernel_rfl) (by kernel_rfl) (by kernel_rfl) (fun _ _ _ h => h) (Or.inl ⟨by rfl, ?_⟩) (by assumption) ?_
  rotate_left
  · intro wS hSw
    first
      | (go_simp; done)
      | (go_simp; with_reducible rfl)
  try simp only [Act.put, List.setIfInBounds_toArray, List.set_cons_zero, List.set_cons_succ]
  refine wpAnyH_take (i := 13) (oi := ({ dst := some 43, op := Op.move (Operand.tmp 42), type := 4, pos := "law.go:25", after := #[{ on := 12, ground := Ground.data }, { on := 8, ground := Ground.chain }], guard := none } : Oper)) (v := ?_) rfl (by kernel_rfl) (by kernel_rfl) (by kernel_rfl) (fun _ _ _ h => h) (Or.inl ⟨by rfl, ?_⟩) (by assumption) ?_
  rotate_left
  · intro wS hSw
    first
      | (go_simp; done)
      | (go_simp; with_reducible rfl)
  try simp only [Act.put, List.setIfInBounds_toArray, List.set_cons_zero, List.set_cons_succ]
  refine wpAnyH_take (i := 14) (oi := ({ dst := some 44, op := Op.move (Operand.tmp 10), type := 4, pos := "law.go:25", after := #[{ on := 13, ground := Ground.guard }], guard := some (13, false) } : Oper)) (v := ?_) rfl (by kernel_rfl) (by kernel_rfl) (by kernel_rfl) (fun _ _ _ h => h) (Or.inl ⟨by rfl, ?_⟩) (by assumption) ?_
  rotate_left
  · intro wS hSw
    first
      | (go_simp; done)
      | (go_simp; with_reducible rfl)
  try simp only [Act.put, List.setIfInBounds_toArray, List.set_cons_zero, List.set_cons_succ]
  refine wpAnyH_take (i := 15) (oi := ({ dst := some 45, op := Op.move (Operand.tmp 44), type := 4, pos := "law.go:25", after := #[{ on := 14, ground := Ground.data }, { on := 13, ground := Ground.chain }, { on := 13, ground := Ground.guard }], guard := some (13, false) } : Oper)) (v := ?_) rfl (by kernel_rfl) (by kernel_rfl) (by kernel_rfl) (fun _ _ _ h => h) (Or.inl ⟨by rfl, ?_⟩) (by assumption) ?_
  rotate_left
  · intro wS hSw
    first
      | (go_simp; done)
      | (go_simp; with_reducible rfl)
  try simp only [Act.put, List.setIfInBounds_toArray, List.set_cons_zero, List.set_cons_succ]
  refine wpAnyH_take (i := 16) (oi := ({ dst := some 46, op := Op.move (Operand.tmp 9), type := 22, pos := "law.go:25", after := #[{ on := 15, ground := Ground.guard }], guard := some (15, true) } : Oper)) (v := undef) rfl (by kernel_rfl) (by kernel_rfl) (by kernel_rfl) (fun _ _ _ h => h) (Or.inr ⟨by rfl, rfl⟩) (by assumption) ?_
  try simp only [Act.put, List.setIfInBounds_toArray, List.set_cons_zero, List.set_cons_succ]
  refine wpAnyH_take (i := 17) (oi := ({ dst := some 47, op := Op.call { callee := Callee.value (Operand.func 8), args := #[Operand.tmp 46], argTypes := #[22] }, type := 25, pos := "law.go:25", after := #[{ on := 16, ground := Ground.data }, { on := 15, ground := Ground.chain }, { on := 15, ground := Ground.guard }], guard := some (15, true) } : Oper)) (v := undef) rfl (by kernel_rfl) (by kernel_rfl) (by kernel_rfl) (fun _ _ _ h => h) (Or.inr ⟨by rfl, rfl⟩) (by assumption) ?_
  try simp only [Act.put, List.setIfInBounds_toArray, List.set_cons_zero, List.set_cons_succ]
  refine wpAnyH_take (i := 18) (oi := ({ dst := some 48, op := Op.move (Operand.tmp 3), type := 25, pos := "law.go:25", after := #[{ on := 15, ground := Ground.guard }], guard := some (15, true) } : Oper)) (v := undef) rfl (by kernel_rfl) (by kernel_rfl) (by kernel_rfl) (fun _ _ _ h => h) (Or.inr ⟨by rfl, rfl⟩) (by assumption) ?_
  try simp only [Act.put, List.setIfInBounds_toArray, List.set_cons_zero, List.set_cons_succ]
  refine wpAnyH_take (i := 19) (oi := ({ dst := some 49, op := Op.slice 25 (Operand.tmp 48) none (some (Operand.const (Value.int IntKind.i64 4))) none, type := 25, pos := "law.go:25", after := #[{ on := 18, ground := Ground.data }, { on := 15, ground := Ground.guard }], guard := some (15, true) } : Oper)) (v := undef) rfl (by kernel_rfl) (by kernel_rfl) (by kernel_rfl) (fun _ _ _ h => h) (Or.inr ⟨by rfl, rfl⟩) (by assumption) ?_
  try simp only [Act.put, List.setIfInBounds_toArray, List.set_cons_zero, List.set_cons_succ]
  refine wpAnyH_take (i := 20) (oi := ({ dst := some 50, op := Op.call { callee := Callee.value (Operand.func 7), args := #[Operand.tmp 47, Operand.tmp 49], argTypes := #[25, 25] }, type := 4, pos := "law.go:25", after := #[{ on := 17, ground := Ground.data }, { on := 19, ground := Ground.data }, { on := 17, ground := Ground.chain }, { on := 15, ground := Ground.guard }], guard := some (15, true) } : Oper)) (v := undef) rfl (by kernel_rfl) (by kernel_rfl) (by kernel_rfl) (fun _ _ _ h => h) (Or.inr ⟨by rfl, rfl⟩) (by assumption) ?_
  try simp only [Act.put, List.setIfInBounds_toArray, List.set_cons_zero, List.set_cons_succ]
  refine wpAnyH_take (i := 21) (oi := ({ dst := some 51, op := Op.unOp UnOp.not 4 (Operand.tmp 50), type := 4, pos := "law.go:25", after := #[{ on := 20, ground := Ground.data }, { on := 15, ground := Ground.guard }], guard := some (15, true) } : Oper)) (v := undef) rfl (by kernel_rfl) (by kernel_rfl) (by kernel_rfl) (fun _ _ _ h => h) (Or.inr ⟨by rfl, rfl⟩) (by assumption) ?_
  try simp only [Act.put, List.setIfInBounds_toArray, List.set_cons_zero, List.set_cons_succ]
  refine wpAnyH_take (i := 22) (oi := ({ dst := some 52, op := Op.pick (Operand.tmp 45) (Operand.tmp 51) (Operand.const (Value.bool false)), type := 4, pos := "law.go:25", after := #[{ on := 15, ground := Ground.data }, { on := 21, ground := Ground.data }, { on := 13, ground := Ground.guard }], guard := some (13, false) } : Oper)) (v := ?_) rfl (by kernel_rfl) (by kernel_rfl) (by kernel_rfl) (fun _ _ _ h => h) (Or.inl ⟨by rfl, ?_⟩) (by assumption) ?_
  rotate_left
  · intro wS hSw
    first
      | (go_simp; done)
      | (go_simp; with_reducible rfl)
  try simp only [Act.put, List.setIfInBounds_toArray, List.set_cons_zero, List.set_cons_succ]
  refine wpAnyH_take (i := 23) (oi := ({ dst := some 53, op := Op.pick (Operand.tmp 43) (Operand.const (Value.bool true)) (Operand.tmp 52), type := 4, pos := "law.go:25", after := #[{ on := 13, ground := Ground.data }, { on := 22, ground := Ground.data }], guard := none } : Oper)) (v := ?_) rfl (by kernel_rfl) (by kernel_rfl) (by kernel_rfl) (fun _ _ _ h => h) (Or.inl ⟨by rfl, ?_⟩) (by assumption) ?_
  rotate_left
  · intro wS hSw
    first
      | (go_simp; done)
      | (go_simp; with_reducible rfl)
  try simp only [Act.put, List.setIfInBounds_toArray, List.set_cons_zero, List.set_cons_succ]
  refine wpAnyH_done (by kernel_rfl) ?_ _
  try dsimp only [Act.put]
  try simp only [List.setIfInBounds_toArray, List.set_cons_zero, List.set_cons_succ]
  go_wp2_with (first
    | (go_at_call 9; (refine (put32_to n n1 n2 ds HDS.out _).mono ?_); (rintro e w4 ⟨A4, c4, rfl, -, -, hr4, hb4⟩); replace HB := Lib.hid (HB.out.trans (hb4.mono HB.out.size)); have R4 := Lib.hid hr4; clear hr4 hb4)
    | (go_at_call 8; (refine (refPut32_to n n1 n2 ds HDS.out _).mono ?_); (rintro e w5 ⟨A5, c5, rfl, -, -, hr5, hb5⟩); replace HB := Lib.hid (HB.out.trans (hb5.mono HB.out.size)); replace R4 := Lib.hid (R4.out.below hb5); have R5 := Lib.hid hr5; clear hr5 hb5)
    | (go_at_call 7; (with_reducible refine (same_yes A4 A5 ds 4 _ _ HDL.out (by omega) _ R4.out R5.out).mono ?_); (rintro e w6 ⟨rfl, m6, rfl⟩); replace HB := Lib.hid (Kit.below_drewN HB.out m6); clear R4 R5)
    | (go_at_call 10; (refine (small_to A zs N k HN.out hN6 HZ.out _ HB.out.size (HRA.out.below HB.out)).mono ?_); (rintro e w7 ⟨A7, c7, rfl, -, -, hr7, hb7⟩); replace HB := Lib.hid (HB.out.trans (hb7.mono HB.out.size)); have R7 := Lib.hid hr7; clear hr7 hb7)
    | (go_at_call 11; (refine (refSmall_to A zs N k HN.out hN6 HZ.out _ HB.out.size (HRA.out.below HB.out)).mono ?_); (rintro e w8 ⟨A8, c8, rfl, -, -, hr8, hb8⟩); replace HB := Lib.hid (HB.out.trans (hb8.mono HB.out.size)); replace R7 := Lib.hid (R7.out.below hb8); have R8 := Lib.hid hr8; clear hr8 hb8)
    | (go_at_call 7; (with_reducible refine (same_yes A7 A8 (smallZ zs) N _ _ HSZ.out hN7 _ R7.out R8.out).mono ?_); (rintro e w9 ⟨rfl, m9, rfl⟩); replace HB := Lib.hid (Kit.below_drewN HB.out m9); clear R7 R8)
    | (go_at_call 12; (refine (wide_to B ws M l HM.out hM6 HW.out D HDD.out _ HB.out.size (HRB.out.below HB.out)).mono ?_); (rintro e w10 ⟨A10, c10, rfl, -, -, hr10, hb10⟩); replace HB := Lib.hid (HB.out.trans (hb10.mono HB.out.size)); have R10 := Lib.hid hr10; clear hr10 hb10)
    | (go_at_call 13; (refine (refWide_to B ws M l HM.out hM6 HW.out D HDD.out _ HB.out.size (HRB.out.below HB.out)).mono ?_); (rintro e w11 ⟨A11, c11, rfl, -, -, hr11, hb11⟩); replace HB := Lib.hid (HB.out.trans (hb11.mono HB.out.size)); replace R10 := Lib.hid (R10.out.below hb11); have R11 := Lib.hid hr11; clear hr11 hb11)
    | (go_at_call 7; (with_reducible refine (same_yes A10 A11 (encZ ws) D _ _ HDD.out hDl _ R10.out R11.out).mono ?_); (rintro e w12 ⟨rfl, m12, rfl⟩); replace HB := Lib.hid (Kit.below_drewN HB.out m12); clear R10 R11)
    | (go_at_call 5; (refine (known08 _).mono ?_); (rintro e w13 ⟨rfl, hb13⟩); replace HB := Lib.hid (HB.out.trans (hb13.mono HB.out.size)); clear hb13))
  go_ret
  exact ⟨rfl, HB.out⟩
set_option maxRecDepth 100000 in
set_option maxHeartbeats 4000000 in
theorem walk_four {w : World} (n : Int) (n1 : 0 ≤ n) (n2 : n ≤ 4294967295) (A : Option Addr) (zs : List Int) (N k : Nat) (hN : zs.length = N) (hNl : N ≤ 300) (hz : I8r zs) (hrA : Kit.Rd w w.heap.size A (zs.map (.int .i8)))
    (B : Option Addr) (ws : List Int) (M l : Nat) (hM : ws.length = M) (hMl : M ≤ 300) (hw : I32s ws) (hrB : Kit.Rd w w.heap.size B (ws.map (.int .i32)))
    (C : Option Addr) (bs : List Int) (L m : Nat) (hL : bs.length = L) (hLl : L ≤ 300) (hb : ∀ z ∈ bs, 0 ≤ z ∧ z ≤ 255) (hLm : L ≤ m) (hmm : m ≤ maxLen) (hrC : Kit.Rd w w.heap.size C (bytesV bs)) (h4 : 4 ≤ L) :
    Calls Try.prog 3 #[.int .u32 n, .slice A N k, .slice B M l, .slice C L m] w fun e w' => e = .returned (.bool true) ∧ Below w.heap.size w w' := by
  have hNI : (N : Int) ≤ 300 := by omega
  have hMI : (M : Int) ≤ 300 := by omega
  have hLI : (L : Int) ≤ 300 := by omega
  unfold maxLen at hmm
  have h4I : (4 : Int) ≤ (L : Int) := by omega
  have hd4 : decide ((4 : Int) ≤ (L : Int)) = true := by simp; omega
  have h4m : (4 : Int) ≤ (m : Int) := by omega
  have h4n : 4 ≤ m := by omega
  obtain ⟨x0, x1, x2, x3, t, rfl⟩ : ∃ x0 x1 x2 x3 t, bs = x0 :: x1 :: x2 :: x3 :: t := by
    match bs, hL with
    | [], h => simp at h; omega
    | [_], h => simp at h; omega
    | [_, _], h => simp at h; omega
    | [_, _, _], h => simp at h; omega
    | x0 :: x1 :: x2 :: x3 :: t, _ => exact ⟨x0, x1, x2, x3, t, rfl⟩
  have b0 := hb x0 (by simp)
  have b1 := hb x1 (by simp)
  have b2 := hb x2 (by simp)
  have b3 := hb x3 (by simp)
  obtain ⟨b, off, rfl, hbb, hx⟩ := hrC.plain (by simp [bytesV])
  have c0 : w.cell? ⟨b, off, none⟩ = some (.int .u8 x0) := hx 0 _ rfl
  have c1 : w.cell? ⟨b, off + 1, none⟩ = some (.int .u8 x1) := hx 1 _ rfl
  have c2 : w.cell? ⟨b, off + 2, none⟩ = some (.int .u8 x2) := hx 2 _ rfl
  have c3 : w.cell? ⟨b, off + 3, none⟩ = some (.int .u8 x3) := hx 3 _ rfl
  obtain ⟨v, hv⟩ : ∃ v, x0 + 256 * x1 + 65536 * x2 + 16777216 * x3 = v := ⟨_, rfl⟩
  have v1 : 0 ≤ v := by omega
  have v2 : v ≤ 4294967295 := by omega
  have hd : [x0, x1, x2, x3] = [v % 256, v / 256 % 256, v / 65536 % 256, v / 16777216] := by
    have e0 : v % 256 = x0 := by omega
    have e1 : v / 256 % 256 = x1 := by omega
    have e2 : v / 65536 % 256 = x2 := by omega
    have e3 : v / 16777216 = x3 := by omega
    rw [e0, e1, e2, e3]
  have HC0 := Lib.hid c0
  have HC1 := Lib.hid c1
  have HC2 := Lib.hid c2
  have HC3 := Lib.hid c3
  have HX := Lib.hid (And.intro b0 (And.intro b1 (And.intro b2 b3)))
  have HV := Lib.hid hv
  have HD := Lib.hid hd
  have hr4 : Kit.Rd w w.heap.size (some ⟨b, off, none⟩) (bytesV [x0, x1, x2, x3]) := hrC.take 4
  have HR4 := Lib.hid hr4
  clear c0 c1 c2 c3 hx hbb b0 b1 b2 b3 hv hd hr4 hb hL
  obtain ⟨D, hD⟩ : ∃ D, (encZ ws).length = D := ⟨_, rfl⟩
  have hDl : D ≤ 1000000 := by have := (encZ_len ws hw).2; omega
  have hN6 : N ≤ 1000 := by omega
  have hM6 : M ≤ 1000 := by omega
  have hN7 : N ≤ 1000000 := by omega
  have hsz : (smallZ zs).length = N := by simp [smallZ, hN]
  obtain ⟨ds, hds⟩ : ∃ ds, ds = [n % 256, n / 256 % 256, n / 65536 % 256, n / 16777216] := ⟨_, rfl⟩
  have hdl : ds.length = 4 := by rw [hds]; rfl
  have HN := Lib.hid hN
  have HM := Lib.hid hM
  have HZ := Lib.hid hz
  have HW := Lib.hid hw
  have HDD := Lib.hid hD
  have HSZ := Lib.hid hsz
  have HDS := Lib.hid hds
  have HDL := Lib.hid hdl
  have HRA := Lib.hid hrA
  have HRB := Lib.hid hrB
  have HB := Lib.hid (Below.refl w.heap.size w)
  clear hN hM hz hw hD hsz hds hdl hrA hrB hrC
  go_enter Try.func3, Try.ntmps3
  go_wp2_with (go_at_call 6; (refine (get32_to b off L m h4 x0 x1 x2 x3 v HV.out _ HC0.out HC1.out HC2.out HC3.out HX.out.1 HX.out.2.1 HX.out.2.2.1 HX.out.2.2.2).mono ?_); rintro e w1 ⟨rfl, m1, rfl⟩; replace HB := Lib.hid (Kit.below_drewN HB.out m1))
  refine wp_region_held_drew (S := fun _ => True) (by kernel_rfl) trivial (fun hHeld => ?_)
  replace HB := Lib.hid HB.out.drew
  refine wpAnyH_take (i := 0) (oi := ({ dst := some 30, op := Op.move (Operand.tmp 10), type := 4, pos := "law.go:25", after := #[], guard := none } : Oper)) (v := ?_) rfl (by kernel_rfl) (by kernel_rfl) (by kernel_rfl) (fun _ _ _ h => h) (Or.inl ⟨by rfl, ?_⟩) (by assumption) ?_
  rotate_left
  · intro wS hSw
    first
      | (go_simp; done)
      | (go_simp; with_reducible rfl)
  try simp only [Act.put, List.setIfInBounds_toArray, List.set_cons_zero, List.set_cons_succ]
  refine wpAnyH_take (i := 1) (oi := ({ dst := some 31, op := Op.move (Operand.tmp 3), type := 25, pos := "law.go:25", after := #[], guard := none } : Oper)) (v := ?_) rfl (by kernel_rfl) (by kernel_rfl) (by kernel_rfl) (fun _ _ _ h => h) (Or.inl ⟨by rfl, ?_⟩) (by assumption) ?_
  rotate_left
  · intro wS hSw
    first
      | (go_simp; done)
      | (go_simp; with_reducible rfl)
  try simp only [Act.put, List.setIfInBounds_toArray, List.set_cons_zero, List.set_cons_succ]
  refine wpAnyH_take (i := 2) (oi := ({ dst := some 32, op := Op.call { callee := Callee.builtin Builtin.len, args := #[Operand.tmp 31], argTypes := #[25] }, type := 3, pos := "law.go:25", after := #[{ on := 1, ground := Ground.data }], guard := none } : Oper)) (v := ?_) rfl (by kernel_rfl) (by kernel_rfl) (by kernel_rfl) (fun _ _ _ h => h) (Or.inl ⟨by rfl, ?_⟩) (by assumption) ?_
  rotate_left
  · intro wS hSw
    first
      | (go_simp; done)
      | (go_simp; with_reducible rfl)
  try simp only [Act.put, List.setIfInBounds_toArray, List.set_cons_zero, List.set_cons_succ]
  refine wpAnyH_take (i := 3) (oi := ({ dst := some 33, op := Op.binOp BinOp.geq 3 (Operand.tmp 32) (Operand.const (Value.int IntKind.i64 4)) 3, type := 4, pos := "law.go:25", after := #[{ on := 2, ground := Ground.data }], guard := none } : Oper)) (v := ?_) rfl (by kernel_rfl) (by kernel_rfl) (by kernel_rfl) (fun _ _ _ h => h) (Or.inl ⟨by rfl, ?_⟩) (by assumption) ?_
  rotate_left
  · intro wS hSw
    first
      | (go_simp; simp only [hd4]; done)
      | (go_simp; simp only [hd4]; with_reducible rfl)
      | (go_simp; done)
      | (go_simp; with_reducible rfl)
  try simp only [Act.put, List.setIfInBounds_toArray, List.set_cons_zero, List.set_cons_succ]
  refine wpAnyH_take (i := 4) (oi := ({ dst := some 34, op := Op.binOp BinOp.neq 4 (Operand.tmp 30) (Operand.tmp 33) 4, type := 4, pos := "law.go:25", after := #[{ on := 0, ground := Ground.data }, { on := 3, ground := Ground.data }], guard := none } : Oper)) (v := ?_) rfl (by kernel_rfl) (by kernel_rfl) (by kernel_rfl) (fun _ _ _ h => h) (Or.inl ⟨by rfl, ?_⟩) (by assumption) ?_
  rotate_left
  · intro wS hSw
    first
      | (go_simp; done)
      | (go_simp; with_reducible rfl)
  try simp only [Act.put, List.setIfInBounds_toArray, List.set_cons_zero, List.set_cons_succ]
  refine wpAnyH_take (i := 5) (oi := ({ dst := some 35, op := Op.move (Operand.tmp 34), type := 4, pos := "law.go:25", after := #[{ on := 4, ground := Ground.data }], guard := none } : Oper)) (v := ?_) rfl (by kernel_rfl) (by kernel_rfl) (by kernel_rfl) (fun _ _ _ h => h) (Or.inl ⟨by rfl, ?_⟩) (by assumption) ?_
  rotate_left
  · intro wS hSw
    first
      | (go_simp; done)
      | (go_simp; with_reducible rfl)
  try simp only [Act.put, List.setIfInBounds_toArray, List.set_cons_zero, List.set_cons_succ]
  refine wpAnyH_take (i := 6) (oi := ({ dst := some 36, op := Op.move (Operand.tmp 10), type := 4, pos := "law.go:25", after := #[{ on := 5, ground := Ground.guard }], guard := some (5, false) } : Oper)) (v := ?_) rfl (by kernel_rfl) (by kernel_rfl) (by kernel_rfl) (fun _ _ _ h => h) (Or.inl ⟨by rfl, ?_⟩) (by assumption) ?_
  rotate_left
  · intro wS hSw
    first
      | (go_simp; done)
      | (go_simp; with_reducible rfl)
  try simp only [Act.put, List.setIfInBounds_toArray, List.set_cons_zero, List.set_cons_succ]
  refine wpAnyH_take (i := 7) (oi := ({ dst := some 37, op := Op.unOp UnOp.not 4 (Operand.tmp 36), type := 4, pos := "law.go:25", after := #[{ on := 6, ground := Ground.data }, { on := 5, ground := Ground.guard }], guard := some (5, false) } : Oper)) (v := ?_) rfl (by kernel_rfl) (by kernel_rfl) (by kernel_rfl) (fun _ _ _ h => h) (Or.inl ⟨by rfl, ?_⟩) (by assumption) ?_
  rotate_left
  · intro wS hSw
    first
      | (go_simp; done)
      | (go_simp; with_reducible rfl)
  try simp only [Act.put, List.setIfInBounds_toArray, List.set_cons_zero, List.set_cons_succ]
  refine wpAnyH_take (i := 8) (oi := ({ dst := some 38, op := Op.move (Operand.tmp 37), type := 4, pos := "law.go:25", after := #[{ on := 7, ground := Ground.data }, { on := 5, ground := Ground.chain }, { on := 5, ground := Ground.guard }], guard := some (5, false) } : Oper)) (v := ?_) rfl (by kernel_rfl) (by kernel_rfl) (by kernel_rfl) (fun _ _ _ h => h) (Or.inl ⟨by rfl, ?_⟩) (by assumption) ?_
  rotate_left
  · intro wS hSw
    first
      | (go_simp; done)
      | (go_simp; with_reducible rfl)
  try simp only [Act.put, List.setIfInBounds_toArray, List.set_cons_zero, List.set_cons_succ]
  refine wpAnyH_take (i := 9) (oi := ({ dst := some 39, op := Op.move (Operand.tmp 9), type := 22, pos := "law.go:25", after := #[{ on := 8, ground := Ground.guard }], guard := some (8, true) } : Oper)) (v := undef) rfl (by kernel_rfl) (by kernel_rfl) (by kernel_rfl) (fun _ _ _ h => h) (Or.inr ⟨by rfl, rfl⟩) (by assumption) ?_
  try simp only [Act.put, List.setIfInBounds_toArray, List.set_cons_zero, List.set_cons_succ]
  refine wpAnyH_take (i := 10) (oi := ({ dst := some 40, op := Op.binOp BinOp.neq 22 (Operand.tmp 39) (Operand.const (Value.int IntKind.u32 0)) 22, type := 4, pos := "law.go:25", after := #[{ on := 9, ground := Ground.data }, { on := 8, ground := Ground.guard }], guard := some (8, true) } : Oper)) (v := undef) rfl (by kernel_rfl) (by kernel_rfl) (by kernel_rfl) (fun _ _ _ h => h) (Or.inr ⟨by rfl, rfl⟩) (by assumption) ?_
  try simp only [Act.put, List.setIfInBounds_toArray, List.set_cons_zero, List.set_cons_succ]
  refine wpAnyH_take (i := 11) (oi := ({ dst := some 41, op := Op.pick (Operand.tmp 38) (Operand.tmp 40) (Operand.const (Value.bool false)), type := 4, pos := "law.go:25", after := #[{ on := 8, ground := Ground.data }, { on := 10, ground := Ground.data }, { on := 5, ground := Ground.guard }], guard := some (5, false) } : Oper)) (v := ?_) rfl (by kernel_rfl) (by kernel_rfl) (by kernel_rfl) (fun _ _ _ h => h) (Or.inl ⟨by rfl, ?_⟩) (by assumption) ?_
  rotate_left
  · intro wS hSw
    first
      | (go_simp; done)
      | (go_simp; with_reducible rfl)
  try simp only [Act.put, List.setIfInBounds_toArray, List.set_cons_zero, List.set_cons_succ]
  refine wpAnyH_take (i := 12) (oi := ({ dst := some 42, op := Op.pick (Operand.tmp 35) (Operand.const (Value.bool true)) (Operand.tmp 41), type := 4, pos := "law.go:25", after := #[{ on := 5, ground := Ground.data }, { on := 11, ground := Ground.data }], guard := none } : Oper)) (v := ?_) rfl (by kernel_rfl) (by kernel_rfl) (by kernel_rfl) (fun _ _ _ h => h) (Or.inl ⟨by rfl, ?_⟩) (by assumption) ?_
  rotate_left
  · intro wS hSw
    first
      | (go_simp; done)
      | (go_simp; with_reducible rfl)
  try simp only [Act.put, List.setIfInBounds_toArray, List.set_cons_zero, List.set_cons_succ]
  refine wpAnyH_take (i := 13) (oi := ({ dst := some 43, op := Op.move (Operand.tmp 42), type := 4, pos := "law.go:25", after := #[{ on := 12, ground := Ground.data }, { on := 8, ground := Ground.chain }], guard := none } : Oper)) (v := ?_) rfl (by kernel_rfl) (by kernel_rfl) (by kernel_rfl) (fun _ _ _ h => h) (Or.inl ⟨by rfl, ?_⟩) (by assumption) ?_
  rotate_left
  · intro wS hSw
    first
      | (go_simp; done)
      | (go_simp; with_reducible rfl)
  try simp only [Act.put, List.setIfInBounds_toArray, List.set_cons_zero, List.set_cons_succ]
  refine wpAnyH_take (i := 14) (oi := ({ dst := some 44, op := Op.move (Operand.tmp 10), type := 4, pos := "law.go:25", after := #[{ on := 13, ground := Ground.guard }], guard := some (13, false) } : Oper)) (v := ?_) rfl (by kernel_rfl) (by kernel_rfl) (by kernel_rfl) (fun _ _ _ h => h) (Or.inl ⟨by rfl, ?_⟩) (by assumption) ?_
  rotate_left
  · intro wS hSw
    first
      | (go_simp; done)
      | (go_simp; with_reducible rfl)
  try simp only [Act.put, List.setIfInBounds_toArray, List.set_cons_zero, List.set_cons_succ]
  refine wpAnyH_take (i := 15) (oi := ({ dst := some 45, op := Op.move (Operand.tmp 44), type := 4, pos := "law.go:25", after := #[{ on := 14, ground := Ground.data }, { on := 13, ground := Ground.chain }, { on := 13, ground := Ground.guard }], guard := some (13, false) } : Oper)) (v := ?_) rfl (by kernel_rfl) (by kernel_rfl) (by kernel_rfl) (fun _ _ _ h => h) (Or.inl ⟨by rfl, ?_⟩) (by assumption) ?_
  rotate_left
  · intro wS hSw
    first
      | (go_simp; done)
      | (go_simp; with_reducible rfl)
  try simp only [Act.put, List.setIfInBounds_toArray, List.set_cons_zero, List.set_cons_succ]
  refine wpAnyH_take (i := 16) (oi := ({ dst := some 46, op := Op.move (Operand.tmp 9), type := 22, pos := "law.go:25", after := #[{ on := 15, ground := Ground.guard }], guard := some (15, true) } : Oper)) (v := ?_) rfl (by kernel_rfl) (by kernel_rfl) (by kernel_rfl) (fun _ _ _ h => h) (Or.inl ⟨by rfl, ?_⟩) (by assumption) ?_
  rotate_left
  · intro wS hSw
    first
      | (go_simp; done)
      | (go_simp; with_reducible rfl)
  try simp only [Act.put, List.setIfInBounds_toArray, List.set_cons_zero, List.set_cons_succ]
  refine wpAnyH_take (i := 18) (oi := ({ dst := some 48, op := Op.move (Operand.tmp 3), type := 25, pos := "law.go:25", after := #[{ on := 15, ground := Ground.guard }], guard := some (15, true) } : Oper)) (v := ?_) rfl (by kernel_rfl) (by kernel_rfl) (by kernel_rfl) (fun _ _ _ h => h) (Or.inl ⟨by rfl, ?_⟩) (by assumption) ?_
  rotate_left
  · intro wS hSw
    first
      | (go_simp; done)
      | (go_simp; with_reducible rfl)
  try simp only [Act.put, List.setIfInBounds_toArray, List.set_cons_zero, List.set_cons_succ]
  refine wpAnyH_take (i := 19) (oi := ({ dst := some 49, op := Op.slice 25 (Operand.tmp 48) none (some (Operand.const (Value.int IntKind.i64 4))) none, type := 25, pos := "law.go:25", after := #[{ on := 18, ground := Ground.data }, { on := 15, ground := Ground.guard }], guard := some (15, true) } : Oper)) (v := ?_) rfl (by kernel_rfl) (by kernel_rfl) (by kernel_rfl) (fun _ _ _ h => h) (Or.inl ⟨by rfl, ?_⟩) (by assumption) ?_
  rotate_left
  · intro wS hSw
    first
      | (go_simp; done)
      | (go_simp; with_reducible rfl)
  try simp only [Act.put, List.setIfInBounds_toArray, List.set_cons_zero, List.set_cons_succ]
  refine wpAnyH_ready (rs := [17]) (by kernel_rfl) (by simp) ?_
  refine AllReadyH.cons (o := ({ dst := some 47, op := Op.call { callee := Callee.value (Operand.func 8), args := #[Operand.tmp 46], argTypes := #[22] }, type := 25, pos := "law.go:25", after := #[{ on := 16, ground := Ground.data }, { on := 15, ground := Ground.chain }, { on := 15, ground := Ground.guard }], guard := some (15, true) } : Oper)) rfl (fun K hK => ?_) (AllReadyH.nil)
  go_simp
  go_at_call 8
  (refine (refPut32_to v v1 v2 [x0, x1, x2, x3] HD.out _).mono ?_)
  rintro e w2 ⟨A2, c2, rfl, -, -, hr2, hb2⟩
  replace HB := Lib.hid (HB.out.trans (hb2.mono HB.out.size))
  have HR2 := Lib.hid hr2
  clear hb2 hr2
  dsimp only
  refine hK.out _ _ ?_ (fun hHeld => ?_)
  · trivial
  clear hK K
  try simp only [Act.put, List.setIfInBounds_toArray, List.set_cons_zero, List.set_cons_succ]
  refine wpAnyH_ready (rs := [20]) (by kernel_rfl) (by simp) ?_
  refine AllReadyH.cons (o := ({ dst := some 50, op := Op.call { callee := Callee.value (Operand.func 7), args := #[Operand.tmp 47, Operand.tmp 49], argTypes := #[25, 25] }, type := 4, pos := "law.go:25", after := #[{ on := 17, ground := Ground.data }, { on := 19, ground := Ground.data }, { on := 17, ground := Ground.chain }, { on := 15, ground := Ground.guard }], guard := some (15, true) } : Oper)) rfl (fun K hK => ?_) (AllReadyH.nil)
  go_simp
  go_at_call 7
  (refine (same_yes _ _ [x0, x1, x2, x3] 4 _ _ rfl (by omega) _ HR2.out (HR4.out.below HB.out)).mono ?_)
  rintro e w3 ⟨rfl, m3, rfl⟩
  replace HB := Lib.hid (Kit.below_drewN HB.out m3)
  clear HR2
  dsimp only
  refine hK.out _ _ ?_ (fun hHeld => ?_)
  · trivial
  clear hK K
  try simp only [Act.put, List.setIfInBounds_toArray, List.set_cons_zero, List.set_cons_succ]
  refine wpAnyH_take (i := 21) (oi := ({ dst := some 51, op := Op.unOp UnOp.not 4 (Operand.tmp 50), type := 4, pos := "law.go:25", after := #[{ on := 20, ground := Ground.data }, { on := 15, ground := Ground.guard }], guard := some (15, true) } : Oper)) (v := ?_) rfl (by kernel_rfl) (by kernel_rfl) (by kernel_rfl) (fun _ _ _ h => h) (Or.inl ⟨by rfl, ?_⟩) (by assumption) ?_
  rotate_left
  · intro wS hSw
    first
      | (go_simp; done)
      | (go_simp; with_reducible rfl)
  try simp only [Act.put, List.setIfInBounds_toArray, List.set_cons_zero, List.set_cons_succ]
  refine wpAnyH_take (i := 22) (oi := ({ dst := some 52, op := Op.pick (Operand.tmp 45) (Operand.tmp 51) (Operand.const (Value.bool false)), type := 4, pos := "law.go:25", after := #[{ on := 15, ground := Ground.data }, { on := 21, ground := Ground.data }, { on := 13, ground := Ground.guard }], guard := some (13, false) } : Oper)) (v := ?_) rfl (by kernel_rfl) (by kernel_rfl) (by kernel_rfl) (fun _ _ _ h => h) (Or.inl ⟨by rfl, ?_⟩) (by assumption) ?_
  rotate_left
  · intro wS hSw
    first
      | (go_simp; done)
      | (go_simp; with_reducible rfl)
  try simp only [Act.put, List.setIfInBounds_toArray, List.set_cons_zero, List.set_cons_succ]
  refine wpAnyH_take (i := 23) (oi := ({ dst := some 53, op := Op.pick (Operand.tmp 43) (Operand.const (Value.bool true)) (Operand.tmp 52), type := 4, pos := "law.go:25", after := #[{ on := 13, ground := Ground.data }, { on := 22, ground := Ground.data }], guard := none } : Oper)) (v := ?_) rfl (by kernel_rfl) (by kernel_rfl) (by kernel_rfl) (fun _ _ _ h => h) (Or.inl ⟨by rfl, ?_⟩) (by assumption) ?_
  rotate_left
  · intro wS hSw
    first
      | (go_simp; done)
      | (go_simp; with_reducible rfl)
  try simp only [Act.put, List.setIfInBounds_toArray, List.set_cons_zero, List.set_cons_succ]
  refine wpAnyH_done (by kernel_rfl) ?_ _
  try dsimp only [Act.put]
  try simp only [List.setIfInBounds_toArray, List.set_cons_zero, List.set_cons_succ]
  go_wp2_with (first
    | (go_at_call 9; (refine (put32_to n n1 n2 ds HDS.out _).mono ?_); (rintro e w4 ⟨A4, c4, rfl, -, -, hr4, hb4⟩); replace HB := Lib.hid (HB.out.trans (hb4.mono HB.out.size)); have R4 := Lib.hid hr4; clear hr4 hb4)
    | (go_at_call 8; (refine (refPut32_to n n1 n2 ds HDS.out _).mono ?_); (rintro e w5 ⟨A5, c5, rfl, -, -, hr5, hb5⟩); replace HB := Lib.hid (HB.out.trans (hb5.mono HB.out.size)); replace R4 := Lib.hid (R4.out.below hb5); have R5 := Lib.hid hr5; clear hr5 hb5)
    | (go_at_call 7; (with_reducible refine (same_yes A4 A5 ds 4 _ _ HDL.out (by omega) _ R4.out R5.out).mono ?_); (rintro e w6 ⟨rfl, m6, rfl⟩); replace HB := Lib.hid (Kit.below_drewN HB.out m6); clear R4 R5)
    | (go_at_call 10; (refine (small_to A zs N k HN.out hN6 HZ.out _ HB.out.size (HRA.out.below HB.out)).mono ?_); (rintro e w7 ⟨A7, c7, rfl, -, -, hr7, hb7⟩); replace HB := Lib.hid (HB.out.trans (hb7.mono HB.out.size)); have R7 := Lib.hid hr7; clear hr7 hb7)
    | (go_at_call 11; (refine (refSmall_to A zs N k HN.out hN6 HZ.out _ HB.out.size (HRA.out.below HB.out)).mono ?_); (rintro e w8 ⟨A8, c8, rfl, -, -, hr8, hb8⟩); replace HB := Lib.hid (HB.out.trans (hb8.mono HB.out.size)); replace R7 := Lib.hid (R7.out.below hb8); have R8 := Lib.hid hr8; clear hr8 hb8)
    | (go_at_call 7; (with_reducible refine (same_yes A7 A8 (smallZ zs) N _ _ HSZ.out hN7 _ R7.out R8.out).mono ?_); (rintro e w9 ⟨rfl, m9, rfl⟩); replace HB := Lib.hid (Kit.below_drewN HB.out m9); clear R7 R8)
    | (go_at_call 12; (refine (wide_to B ws M l HM.out hM6 HW.out D HDD.out _ HB.out.size (HRB.out.below HB.out)).mono ?_); (rintro e w10 ⟨A10, c10, rfl, -, -, hr10, hb10⟩); replace HB := Lib.hid (HB.out.trans (hb10.mono HB.out.size)); have R10 := Lib.hid hr10; clear hr10 hb10)
    | (go_at_call 13; (refine (refWide_to B ws M l HM.out hM6 HW.out D HDD.out _ HB.out.size (HRB.out.below HB.out)).mono ?_); (rintro e w11 ⟨A11, c11, rfl, -, -, hr11, hb11⟩); replace HB := Lib.hid (HB.out.trans (hb11.mono HB.out.size)); replace R10 := Lib.hid (R10.out.below hb11); have R11 := Lib.hid hr11; clear hr11 hb11)
    | (go_at_call 7; (with_reducible refine (same_yes A10 A11 (encZ ws) D _ _ HDD.out hDl _ R10.out R11.out).mono ?_); (rintro e w12 ⟨rfl, m12, rfl⟩); replace HB := Lib.hid (Kit.below_drewN HB.out m12); clear R10 R11)
    | (go_at_call 5; (refine (known08 _).mono ?_); (rintro e w13 ⟨rfl, hb13⟩); replace HB := Lib.hid (HB.out.trans (hb13.mono HB.out.size)); clear hb13))
  go_ret
  exact ⟨rfl, HB.out⟩
theorem walk {w : World} (n : Int) (wn : (Lit.int .u32 n).wf = true) (A : Option Addr) (zs : List Int) (k : Nat) (hk : zs.length ≤ k) (hkm : k ≤ maxLen) (hz : ∀ n ∈ zs, (Lit.int .i8 n).wf = true) (hrA : Kit.Rd w w.heap.size A (zs.map (.int .i8)))
    (B : Option Addr) (ws : List Int) (l : Nat) (hl : ws.length ≤ l) (hlm : l ≤ maxLen) (hw : ∀ n ∈ ws, (Lit.int .i32 n).wf = true) (hrB : Kit.Rd w w.heap.size B (ws.map (.int .i32)))
    (C : Option Addr) (bs : List Int) (m : Nat) (hm : bs.length ≤ m) (hmm : m ≤ maxLen) (hb : ∀ n ∈ bs, (Lit.int .u8 n).wf = true) (hrC : Kit.Rd w w.heap.size C (bs.map (.int .u8))) :
    Calls Try.prog 3 #[.int .u32 n, .slice A zs.length k, .slice B ws.length l, .slice C bs.length m] w fun e w' => e = .returned (.bool true) ∧ Below w.heap.size w w' := by
  by_cases h : 300 < zs.length ∨ 300 < ws.length ∨ 300 < bs.length
  · exact walk_long n A _ k B _ l C _ m h
  · by_cases h4 : 4 ≤ bs.length
    · exact walk_four n (u32_of wn).1 (u32_of wn).2 A zs _ k rfl (by omega) (i8s_of hz) hrA B ws _ l rfl (by omega) (i32s_of hw) hrB C bs _ m rfl (by omega) (u8s_of hb) hm hmm hrC h4
    · exact walk_few n (u32_of wn).1 (u32_of wn).2 A zs _ k rfl (by omega) (i8s_of hz) hrA B ws _ l rfl (by omega) (i32s_of hw) hrB C bs _ m rfl (by omega) (u8s_of hb) hm hmm hrC (by omega)
/-! ### the frame: written by program -/
theorem own : ownKnob Try.prog.godebug = none := by kernel_rfl
theorem laid : laidOutB Try.prog = true := by kernel_rfl
theorem contract {H : Type} {enc : TypeId × Value → H} {W : World} {base : Nat} {args : Array Value} {ds gs : List (DataW H)} {before : List MemPlace}
    (hval0 : ∀ (j : Nat) t v, Try.f3.params[j]? = some t → args[j]? = some v → Value.okWide Try.prog W .any base t v)
    (hW : DataW.Whole enc Try.prog Try.f3.params.toList Rows.octetPutsSpec.vars false W args.toList ds gs before) :
    Calls Try.prog 3 args W fun e W' => e = .returned (.bool true) ∧ Below W.heap.size W W' := by
  have hval : ∀ (j : Nat) t v, Try.f3.params[j]? = some t → args[j]? = some v → Value.okWide Try.prog W .any base t v := hval0
  obtain ⟨p, q, hA0, hV, rfl, hfz, hnd⟩ := hW
  have hA : DataW.TrodAll enc Try.prog W 0 (fun _ => true) true Try.f3.params.toList args.toList ds p := hA0
  rw [Try.params3] at hA hval
  obtain ⟨v0, vs0, d0, ds0, p0, q0, hargs, rfl, rfl, h0, r0⟩ := trodAll_cons hA
  obtain ⟨v1, vs1, d1, ds1, p1, q1, rfl, rfl, rfl, h1, r1⟩ := trodAll_cons r0
  obtain ⟨v2, vs2, d2, ds2, p2, q2, rfl, rfl, rfl, h2, r2⟩ := trodAll_cons r1
  obtain ⟨v3, vs3, d3, ds3, p3, q3, rfl, rfl, rfl, h3, r3⟩ := trodAll_cons r2
  obtain ⟨rfl, rfl, rfl⟩ := trodAll_nil r3
  obtain rfl : args = #[v0, v1, v2, v3] := by cases args; simp_all
  clear hA0 hval0
  obtain ⟨a0, rfl, rfl, rfl, w0⟩ := open_int Try.underlying22 (hval 0 22 v0 rfl rfl) h0
  obtain ⟨A1, z1, c1, rfl, hc1, hm1, hw1, hr1⟩ := Kit.open_islice Try.underlying23 Try.underlying50 (by kernel_rfl) (hval 1 23 v1 rfl rfl) h1
  obtain ⟨A2, z2, c2, rfl, hc2, hm2, hw2, hr2⟩ := Kit.open_islice Try.underlying24 Try.underlying21 (by kernel_rfl) (hval 2 24 v2 rfl rfl) h2
  obtain ⟨A3, z3, c3, rfl, hc3, hm3, hw3, hr3⟩ := Kit.open_islice Try.underlying25 Try.underlying5 (by kernel_rfl) (hval 3 25 v3 rfl rfl) h3
  exact walk (w := W) a0 w0 A1 z1 c1 hc1 hm1 hw1 hr1 A2 z2 c2 hc2 hm2 hw2 hr2 A3 z3 c3 hc3 hm3 hw3 hr3
theorem fnIs {H : Type} : ∀ ds : List (DataW H), ds.length = Try.f3.params.toList.length → Rows.octetPutsSpec.fn H ds = { results := [.lit (.bool true)], args := ds } := by
  intro ds h
  rw [Try.params3] at h
  match ds, h with
  | [d1, d2, d3, d4], _ => rfl
set_option maxRecDepth 100000 in
theorem lifted (os : Os) (started : os.Started) (H : Type) (enc : TypeId × Value → H) :
    ReturnsInHanded {} Try.checked os 3 .any (Rows.octetPutsSpec.pre6 enc Try.prog Try.f3 Rows.octetPutsRow.domain false) (Rows.octetPutsSpec.post enc Try.prog Try.f3 false true false false) := by
  refine returnsInHanded_of_change (C := Try.checked) own started (by kernel_rfl) Try.func3
    (ChangeSpec.witness6 (enc := enc) (C := Try.checked) false ⟨#[], #[.int .u32 0, .slice none 0 0, .slice none 0 0, .slice none 0 0], []⟩ 8 (by kernel_rfl) (by kernel_rfl) (by kernel_rfl) (by kernel_rfl)) ?_
  intro W base args ds gs before hval hW _ _
  refine (contract hval hW).mono fun e W' ⟨he, hg⟩ => ?_
  subst he
  exact ⟨_, rfl, Kit.law_post (tb := 4) laid (by kernel_rfl) rfl (by kernel_rfl) Try.underlying4 fnIs hW hg⟩
theorem over : Rows.octetPutsRow.holds Try.pinned (OpenSpec.ofChange Rows.octetPutsSpec) :=
  OpenClaim.holds_of_wide 3 Try.f3 rfl rfl rfl rfl rfl rfl rfl ⟨rfl, rfl, rfl, rfl, rfl⟩ rfl rfl rfl rfl rfl (by kernel_rfl) Try.func3 (by kernel_rfl)
    (of_decide_eq_true (by kernel_rfl)) (by unfold Func.isWrapper; first | (rw [if_pos (by decide +kernel)]; kernel_rfl) | (rw [if_neg (by decide +kernel)]; exact ⟨rfl, rfl⟩))
    (fun os started H enc _ => lifted os started H enc)
/-- the statement. -/
theorem proved : Rows.OctetPutsSaid :=
  over
end Go.Proofs.Ytkmcmaickopobac.lawOctetPuts
