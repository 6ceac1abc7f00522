/- Layer 11 (patch): a row alone (code). -/
import Derived.Test.YtbolneejjjjaeaaPatchOf
import Derived.Lib.SliceRun
namespace Go.Proofs.Ytbolneejjjjaeaa.CPatch
open Go Go.ChangeShapes Go.WideShapes Go.ChangeAt Go.RowKit
open Plain CSat CShape CTensor CConv
set_option linter.unusedVariables false

/-- a list of numbers of 16 bits, of the call's own. -/
def OwnedR (w : World) (n : Nat) (xs : List Value) (e : Ending) (w' : World) : Prop :=
  ∃ v, e = .returned v ∧ w'.ownsRow w.heap.size 51 1 v n xs ∧ Below w.heap.size w w'
theorem sclone16 (A : Option Addr) (zs : List Int) (n c : Nat) (hn : zs.length = n) (hl : n ≤ 1000000) {B : Nat} (w : World) (hB : B ≤ w.heap.size) (hr : Kit.Rd w B A (zs.map (.int .i16))) :
    Calls Try.prog 24 #[.slice A n c] w (OwnedR w n (I16v zs)) := by
  have HN := Lib.hid hn
  have HR := Lib.hid hr
  have qn : ∀ (w : World) (a : Option Addr) (n c n' c' : Nat), (binOp .eql 31 (.slice a n c) (.slice none n' c')).run Try.prog w = .ok (.bool a.isNone) w := fun w a n c n' c' => Lib.run_eql_slice_nil w _ _ a n c n' c' Try.underlying31
  cases A with
  | none =>
    have hz : zs = [] := by
      cases zs with
      | nil => rfl
      | cons z zs => obtain ⟨b, off, h, _⟩ := hr.plain (by simp); cases h
    subst hz
    have h0 : n = 0 := by simpa using hn.symm
    subst h0
    clear hn hr HN HR
    go_enter Try.func24, Try.ntmps24
    go_wp2
    go_ret
    exact ⟨_, rfl, ⟨by simp [I16v], .inl ⟨rfl, rfl⟩⟩, Below.refl _ _⟩
  | some ad =>
    clear hn hr
    go_enter Try.func24, Try.ntmps24
    obtain ⟨i0, hi0, hi1, hi2, hi3⟩ := info_parts16 info_i16
    go_wp2_with (at_builtin; refine Kit.wpList_append_rd _ rfl (.tmp 5) (.tmp 6) _ rfl w.heap.size 51 i0 (.int .i16 0) 1 2 Try.underlying31 hi0 hi1 hi2 hi3 rfl (by decide) (.slice (some ⟨_, 0, none⟩) 0 0) 0 [] rfl (World.ownsRow_lit _ #[] 0 (Nat.le_refl _) (Nat.zero_le _) rfl) _ _ n _ (I16v zs) rfl (by simp [I16v, HN.out]) (HR.out.alloc hB _) (Kit.ints_one .i16 zs) (by unfold maxLen; omega) (by omega) (by simp) ?_; intro v1 w1 hown1 hg1 hat1; replace hown1 : w1.ownsRow w.heap.size 51 1 v1 n (I16v zs) := (by simpa using hown1); have HO := Lib.hid hown1; have HX := Lib.hid (((Below.refl _ w).alloc (Nat.le_refl _) (.cells #[] 51)).grown hg1 (by simp) (fun q hq => by simp [Value.ownBlock] at hq; omega)); clear hown1 hg1 hat1)
    go_ret
    exact ⟨_, rfl, HO.out, HX.out⟩


def withinB (n hi : Int) : Bool := decide (0 ≤ n ∧ n ≤ hi)
theorem pwithin_to (n hi : Int) (b : Bool) (hb : withinB n hi = b) (w : World) : Calls Try.prog 23 #[.int .i64 n, .int .i64 hi] w fun e w' => e = .returned (.bool b) ∧ w = w' := by
  have HB := Lib.hid hb
  clear hb
  by_cases h1 : 0 ≤ n
  · by_cases h2 : n ≤ hi
    · obtain rfl : b = true := by rw [← HB.out]; simp [withinB, h1, h2]
      go_enter Try.func23, Try.ntmps23
      go_wp2_with fail
      go_ret
      exact ⟨rfl, rfl⟩
    · obtain rfl : b = false := by rw [← HB.out]; simp [withinB, h2]
      go_enter Try.func23, Try.ntmps23
      go_wp2_with fail
      go_ret
      exact ⟨rfl, rfl⟩
  · obtain rfl : b = false := by rw [← HB.out]; simp [withinB, h1]
    go_enter Try.func23, Try.ntmps23
    go_wp2_with fail
    go_ret
    exact ⟨rfl, rfl⟩
/-- is there such a row? -/
def rowB (M Wd : Int) (n : Nat) (i : Int) : Bool := decide (0 ≤ M ∧ M ≤ 1048576 ∧ 0 ≤ Wd ∧ Wd ≤ 1048576 ∧ (n : Int) = M * Wd ∧ 0 ≤ i ∧ i ≤ M - 1)
theorem row_mul {M Wd : Int} (h1 : 0 ≤ M) (h2 : M ≤ 1048576) (h3 : 0 ≤ Wd) (h4 : Wd ≤ 1048576) : 0 ≤ M * Wd ∧ M * Wd ≤ 1099511627776 := by
  have a := Int.mul_le_mul h2 h4 h3 (by omega)
  have b := Int.mul_nonneg h1 h3
  omega
set_option maxHeartbeats 2000000 in
theorem row_no (M Wd : Int) (A : Option Addr) (n c : Nat) (i : Int) (m1 : -9223372036854775808 ≤ M) (m2 : M ≤ 9223372036854775807) (h : rowB M Wd n i = false) (w : World) :
    Calls Try.prog 13 #[.agg #[.int .i64 M, .int .i64 Wd, .slice A n c], .int .i64 i] w fun e w' => e = .returned (.slice none 0 0) ∧ Below w.heap.size w w' := by
  have hcs : withinB M 1048576 = false ∨ (withinB M 1048576 = true ∧ withinB Wd 1048576 = false) ∨ (withinB M 1048576 = true ∧ withinB Wd 1048576 = true ∧ (n : Int) ≠ M * Wd) ∨ (withinB M 1048576 = true ∧ withinB Wd 1048576 = true ∧ (n : Int) = M * Wd ∧ withinB i (M - 1) = false) := by
    simp only [rowB, decide_eq_false_iff_not] at h
    by_cases a : 0 ≤ M ∧ M ≤ 1048576
    · by_cases b : 0 ≤ Wd ∧ Wd ≤ 1048576
      · by_cases e : (n : Int) = M * Wd
        · refine .inr (.inr (.inr ⟨by simp [withinB, a], by simp [withinB, b], e, ?_⟩))
          simp only [withinB, decide_eq_false_iff_not]
          intro hc; exact h ⟨a.1, a.2, b.1, b.2, e, hc.1, hc.2⟩
        · exact .inr (.inr (.inl ⟨by simp [withinB, a], by simp [withinB, b], e⟩))
      · exact .inr (.inl ⟨by simp [withinB, a], by simp only [withinB, decide_eq_false_iff_not]; exact b⟩)
    · exact .inl (by simp only [withinB, decide_eq_false_iff_not]; exact a)
  clear h
  rcases hcs with h1 | ⟨h1, h2⟩ | ⟨h1, h2, h3⟩ | ⟨h1, h2, h3, h4⟩
  · have H1 := Lib.hid h1
    clear h1
    go_enter Try.func13, Try.ntmps13
    go_wp2_with fail
    go_at_call 23
    refine (pwithin_to _ _ _ H1.out _).mono ?_
    rintro e w1 ⟨rfl, rfl⟩
    go_wp2_with fail
    go_ret
    exact ⟨rfl, (Below.refl _ _).alloc (Nat.le_refl _) _⟩
  · have H1 := Lib.hid h1
    have H2 := Lib.hid h2
    clear h1 h2
    go_enter Try.func13, Try.ntmps13
    go_wp2_with fail
    go_at_call 23
    refine (pwithin_to _ _ _ H1.out _).mono ?_
    rintro e w1 ⟨rfl, rfl⟩
    go_wp2_with fail
    go_at_call 23
    refine (pwithin_to _ _ _ H2.out _).mono ?_
    rintro e w1 ⟨rfl, rfl⟩
    go_wp2_with fail
    go_ret
    exact ⟨rfl, (Below.refl _ _).alloc (Nat.le_refl _) _⟩
  · have ⟨a1, a2⟩ : 0 ≤ M ∧ M ≤ 1048576 := by simpa [withinB] using h1
    have ⟨a3, a4⟩ : 0 ≤ Wd ∧ Wd ≤ 1048576 := by simpa [withinB] using h2
    have ⟨a5, a6⟩ := row_mul a1 a2 a3 a4
    obtain ⟨p, hp⟩ : ∃ p, M * Wd = p := ⟨_, rfl⟩
    have e1 : IntKind.i64.wrap (M * Wd) = p := by rw [IntWalk.i64_in _ (by omega)]; exact hp
    rw [hp] at h3
    have h9 : ((n : Int) != p) = true := by simpa using h3
    have H1 := Lib.hid h1
    have H2 := Lib.hid h2
    clear h1 h2 hp a5 a6
    go_enter Try.func13, Try.ntmps13
    go_wp2_with fail
    go_at_call 23
    refine (pwithin_to _ _ _ H1.out _).mono ?_
    rintro e w1 ⟨rfl, rfl⟩
    go_wp2_with fail
    go_at_call 23
    refine (pwithin_to _ _ _ H2.out _).mono ?_
    rintro e w1 ⟨rfl, rfl⟩
    go_wp2_with fail
    go_ret
    exact ⟨rfl, (Below.refl _ _).alloc (Nat.le_refl _) _⟩
  · have ⟨a1, a2⟩ : 0 ≤ M ∧ M ≤ 1048576 := by simpa [withinB] using h1
    have ⟨a3, a4⟩ : 0 ≤ Wd ∧ Wd ≤ 1048576 := by simpa [withinB] using h2
    have ⟨a5, a6⟩ := row_mul a1 a2 a3 a4
    have e1 : IntKind.i64.wrap (M * Wd) = (n : Int) := by rw [IntWalk.i64_in _ (by omega)]; exact h3.symm
    obtain ⟨M', hM'⟩ : ∃ M', M - 1 = M' := ⟨_, rfl⟩
    have e2 : IntKind.i64.wrap (M - 1) = M' := by rw [IntWalk.i64_in _ (by omega)]; exact hM'
    rw [hM'] at h4
    have H1 := Lib.hid h1
    have H2 := Lib.hid h2
    have H4 := Lib.hid h4
    clear h1 h2 h3 h4 a5 a6 hM'
    go_enter Try.func13, Try.ntmps13
    go_wp2_with fail
    go_at_call 23
    refine (pwithin_to _ _ _ H1.out _).mono ?_
    rintro e w1 ⟨rfl, rfl⟩
    go_wp2_with fail
    go_at_call 23
    refine (pwithin_to _ _ _ H2.out _).mono ?_
    rintro e w1 ⟨rfl, rfl⟩
    go_wp2_with fail
    go_at_call 23
    refine (pwithin_to _ _ _ H4.out _).mono ?_
    rintro e w1 ⟨rfl, rfl⟩
    go_wp2_with fail
    go_ret
    exact ⟨rfl, (Below.refl _ _).alloc (Nat.le_refl _) _⟩
def RBox (B : Nat) (M Wd : Int) (x : Value) (w : World) : Prop := w.cell? ⟨B, 0, none⟩ = some (.int .i64 M) ∧ w.cell? ⟨B, 1, none⟩ = some (.int .i64 Wd) ∧ w.cell? ⟨B, 2, none⟩ = some x
theorem RBox.below {B B' : Nat} {M Wd : Int} {x : Value} {w w' : World} (h : RBox B M Wd x w) (hB : B < B') (hb : Below B' w w') : RBox B M Wd x w' :=
  ⟨(hb.cell (p := ⟨B, 0, none⟩) hB).trans h.1, (hb.cell (p := ⟨B, 1, none⟩) hB).trans h.2.1, (hb.cell (p := ⟨B, 2, none⟩) hB).trans h.2.2⟩
set_option maxHeartbeats 4000000 in
theorem row_yes (m k : Nat) (A : Option Addr) (zs : List Int) (n c i : Nat) (hn : zs.length = n) (hnc : n ≤ c) (hc : c ≤ maxLen) (hm : m ≤ 1048576) (hk : k ≤ 1048576) (hmk : n = m * k) (hi : i < m) (hn6 : n ≤ 1000000) (w : World) (hr : Kit.Rd w w.heap.size A (zs.map (.int .i16))) :
    Calls Try.prog 13 #[.agg #[.int .i64 (m : Int), .int .i64 (k : Int), .slice A n c], .int .i64 (i : Int)] w (OwnedR w k (I16v ((zs.drop (i * k)).take k))) := by
  have H1 : Hid (withinB (m : Int) 1048576 = true) := Lib.hid (by simp only [withinB, decide_eq_true_eq]; omega)
  have H2 : Hid (withinB (k : Int) 1048576 = true) := Lib.hid (by simp only [withinB, decide_eq_true_eq]; omega)
  obtain ⟨M', hM'⟩ : ∃ M' : Int, (m : Int) - 1 = M' := ⟨_, rfl⟩
  have e2 : IntKind.i64.wrap ((m : Int) - 1) = M' := by rw [IntWalk.i64_in _ (by omega)]; exact hM'
  have H4 : Hid (withinB (i : Int) M' = true) := Lib.hid (by simp only [withinB, decide_eq_true_eq]; omega)
  have e1 : IntKind.i64.wrap ((m : Int) * (k : Int)) = (n : Int) := by rw [← Int.natCast_mul, ← hmk]; exact IntWalk.i64_in _ (by omega)
  obtain ⟨p1, hp1⟩ : ∃ p, i * k = p := ⟨_, rfl⟩
  obtain ⟨p2, hp2⟩ : ∃ p, p1 + k = p := ⟨_, rfl⟩
  have hp2n : p2 ≤ n := by rw [hmk, ← hp2, ← hp1]; have := Nat.mul_le_mul_right k (show i + 1 ≤ m by omega); rwa [Nat.add_mul, Nat.one_mul] at this
  obtain ⟨i', hi'⟩ : ∃ i', i + 1 = i' := ⟨_, rfl⟩
  have f1 : IntKind.i64.wrap ((i : Int) * (k : Int)) = (p1 : Int) := by rw [← Int.natCast_mul, hp1]; exact IntWalk.i64_in _ (by omega)
  have f2 : IntKind.i64.wrap ((i : Int) + 1) = (i' : Int) := by rw [IntWalk.i64_in _ (by omega)]; omega
  have f3 : IntKind.i64.wrap ((i' : Int) * (k : Int)) = (p2 : Int) := by rw [← Int.natCast_mul, ← hi', Nat.add_mul, Nat.one_mul, hp1, hp2]; exact IntWalk.i64_in _ (by omega)
  have hcm : c ≤ 9223372036854775807 := by unfold maxLen at hc; omega
  have s1 : (0 : Int) ≤ (p1 : Int) := by omega
  have s2 : (p1 : Int) ≤ (p2 : Int) := by omega
  have s3 : (p2 : Int) ≤ (c : Int) := by omega
  have sA : p2 - p1 = k := by omega
  rw [hp1]
  have hcut : Kit.Rd w w.heap.size (if c = p1 then A else A.map (·.add p1)) (((zs.drop p1).take k).map (.int .i16)) := by
    rw [List.map_take, List.map_drop]
    exact (hr.cut (k := p1) (c := c) (by simp; omega)).take k
  have hlen : ((zs.drop p1).take k).length = k := by simp; omega
  have HCUT := Lib.hid hcut
  have HLEN := Lib.hid hlen
  have HF1 := Lib.hid f1
  have HF3 := Lib.hid f3
  clear hr hcut hlen hp1 hp2 hi' hmk hM' hn
  go_enter Try.func13, Try.ntmps13
  go_wp2_with fail
  go_at_call 23
  refine (pwithin_to _ _ _ H1.out _).mono ?_
  rintro e w1 ⟨rfl, rfl⟩
  go_wp2_with fail
  go_at_call 23
  refine (pwithin_to _ _ _ H2.out _).mono ?_
  rintro e w1 ⟨rfl, rfl⟩
  go_wp2_with fail
  go_at_call 23
  refine (pwithin_to _ _ _ H4.out _).mono ?_
  rintro e w1 ⟨rfl, rfl⟩
  go_wp2_with fail
  have HB : Hid (Below w.heap.size w (w.alloc (.cells #[.int .i64 (m : Int), .int .i64 (k : Int), .slice A n c] 37)).drew) := Lib.hid ((Below.refl _ _).alloc (Nat.le_refl _) _).drew
  have hz : w.heap.size + 1 ≤ (w.alloc (.cells #[.int .i64 (m : Int), .int .i64 (k : Int), .slice A n c] 37)).drew.heap.size := by simp
  refine wp_region_held_drew (S := RBox w.heap.size (m : Int) (k : Int) (.slice A n c)) (by kernel_rfl) ⟨Kit.new_cell _ _ _ _, Kit.new_cell _ _ _ _, Kit.new_cell _ _ _ _⟩ (fun hHeld => ?_)
  generalize (w.alloc (.cells #[.int .i64 (m : Int), .int .i64 (k : Int), .slice A n c] 37)).drew = V0 at HB hz hHeld ⊢
  refine wpAnyH_take (i := 0) (oi := ({ dst := some 34, op := Op.fieldAddr 37 (Operand.tmp 2) 2, type := 0, pos := "patch.go:45", after := #[], guard := none } : Oper)) (v := ?_) rfl (by kernel_rfl) (by kernel_rfl) (by kernel_rfl) (fun _ _ _ h => h) (Or.inl ⟨by rfl, ?_⟩) (by assumption) ?_
  rotate_left
  · intro wS hSw
    first
      | (go_simp; done)
      | (go_simp; with_reducible rfl)
  try simp only [Act.put, List.setIfInBounds_toArray, List.set_cons_zero, List.set_cons_succ]
  refine wpAnyH_take (i := 1) (oi := ({ dst := some 35, op := Op.load 31 (Operand.tmp 34), type := 31, pos := "patch.go:45", after := #[{ on := 0, ground := Ground.data }], guard := none } : Oper)) (v := ?_) rfl (by kernel_rfl) (by kernel_rfl) (by kernel_rfl) (fun _ _ _ h => h) (Or.inl ⟨by rfl, ?_⟩) (by assumption) ?_
  rotate_left
  · intro wS hSw
    obtain ⟨hq1, hq2, hq3⟩ := hSw
    first
      | (go_simp; done)
      | (go_simp; with_reducible rfl)
  try simp only [Act.put, List.setIfInBounds_toArray, List.set_cons_zero, List.set_cons_succ]
  refine wpAnyH_take (i := 2) (oi := ({ dst := some 36, op := Op.load 37 (Operand.tmp 2), type := 37, pos := "patch.go:45", after := #[], guard := none } : Oper)) (v := ?_) rfl (by kernel_rfl) (by kernel_rfl) (by kernel_rfl) (fun _ _ _ h => h) (Or.inl ⟨by rfl, ?_⟩) (by assumption) ?_
  rotate_left
  · intro wS hSw
    obtain ⟨hq1, hq2, hq3⟩ := hSw
    first
      | (go_simp; done)
      | (go_simp; with_reducible rfl)
  try simp only [Act.put, List.setIfInBounds_toArray, List.set_cons_zero, List.set_cons_succ]
  refine wpAnyH_take (i := 3) (oi := ({ dst := some 37, op := Op.move (Operand.tmp 1), type := 3, pos := "patch.go:45", after := #[], guard := none } : Oper)) (v := ?_) rfl (by kernel_rfl) (by kernel_rfl) (by kernel_rfl) (fun _ _ _ h => h) (Or.inl ⟨by rfl, ?_⟩) (by assumption) ?_
  rotate_left
  · intro wS hSw
    first
      | (go_simp; done)
      | (go_simp; with_reducible rfl)
  try simp only [Act.put, List.setIfInBounds_toArray, List.set_cons_zero, List.set_cons_succ]
  refine wpAnyH_take (i := 5) (oi := ({ dst := some 39, op := Op.load 37 (Operand.tmp 2), type := 37, pos := "patch.go:45", after := #[], guard := none } : Oper)) (v := ?_) rfl (by kernel_rfl) (by kernel_rfl) (by kernel_rfl) (fun _ _ _ h => h) (Or.inl ⟨by rfl, ?_⟩) (by assumption) ?_
  rotate_left
  · intro wS hSw
    obtain ⟨hq1, hq2, hq3⟩ := hSw
    first
      | (go_simp; done)
      | (go_simp; with_reducible rfl)
  try simp only [Act.put, List.setIfInBounds_toArray, List.set_cons_zero, List.set_cons_succ]
  refine wpAnyH_take (i := 6) (oi := ({ dst := some 40, op := Op.move (Operand.tmp 1), type := 3, pos := "patch.go:45", after := #[], guard := none } : Oper)) (v := ?_) rfl (by kernel_rfl) (by kernel_rfl) (by kernel_rfl) (fun _ _ _ h => h) (Or.inl ⟨by rfl, ?_⟩) (by assumption) ?_
  rotate_left
  · intro wS hSw
    first
      | (go_simp; done)
      | (go_simp; with_reducible rfl)
  try simp only [Act.put, List.setIfInBounds_toArray, List.set_cons_zero, List.set_cons_succ]
  refine wpAnyH_take (i := 7) (oi := ({ dst := some 41, op := Op.binOp BinOp.add 3 (Operand.tmp 40) (Operand.const (Value.int IntKind.i64 1)) 3, type := 3, pos := "patch.go:45", after := #[{ on := 6, ground := Ground.data }], guard := none } : Oper)) (v := ?_) rfl (by kernel_rfl) (by kernel_rfl) (by kernel_rfl) (fun _ _ _ h => h) (Or.inl ⟨by rfl, ?_⟩) (by assumption) ?_
  rotate_left
  · intro wS hSw
    first
      | (go_simp; done)
      | (go_simp; with_reducible rfl)
  try simp only [Act.put, List.setIfInBounds_toArray, List.set_cons_zero, List.set_cons_succ]
  refine wpAnyH_ready (rs := [4]) (by kernel_rfl) (by simp) ?_
  refine AllReadyH.cons (o := ({ dst := some 38, op := Op.call { callee := Callee.value (Operand.func 18), args := #[Operand.tmp 36, Operand.tmp 37], argTypes := #[37, 3] }, type := 3, pos := "patch.go:45", after := #[{ on := 2, ground := Ground.data }, { on := 3, ground := Ground.data }], guard := none } : Oper)) rfl (fun Kq hK => ?_) (AllReadyH.nil)
  go_simp
  go_at_call 18
  refine (begin_to (m : Int) (k : Int) (.slice A n c) (i : Int) (p1 : Int) HF1.out _).mono ?_
  rintro e V1 ⟨rfl, hbV1⟩
  have hSV1 : RBox w.heap.size (m : Int) (k : Int) (.slice A n c) V1 := hHeld.below (B' := w.heap.size + 1) (by omega) (hbV1.mono hz)
  replace HB := Lib.hid (HB.out.trans (hbV1.mono (Nat.le_trans (by omega) hz)))
  replace hz := Nat.le_trans hz hbV1.size
  clear hbV1 hHeld
  dsimp only
  refine hK.out _ _ ?_ (fun hHeld => ?_)
  · exact hSV1
  clear hK Kq
  try simp only [Act.put, List.setIfInBounds_toArray, List.set_cons_zero, List.set_cons_succ]
  refine wpAnyH_ready (rs := [8]) (by kernel_rfl) (by simp) ?_
  refine AllReadyH.cons (o := ({ dst := some 42, op := Op.call { callee := Callee.value (Operand.func 18), args := #[Operand.tmp 39, Operand.tmp 41], argTypes := #[37, 3] }, type := 3, pos := "patch.go:45", after := #[{ on := 5, ground := Ground.data }, { on := 7, ground := Ground.data }, { on := 4, ground := Ground.chain }], guard := none } : Oper)) rfl (fun Kq hK => ?_) (AllReadyH.nil)
  go_simp
  go_at_call 18
  refine (begin_to (m : Int) (k : Int) (.slice A n c) (i' : Int) (p2 : Int) HF3.out _).mono ?_
  rintro e V2 ⟨rfl, hbV2⟩
  have hSV2 : RBox w.heap.size (m : Int) (k : Int) (.slice A n c) V2 := hHeld.below (B' := w.heap.size + 1) (by omega) (hbV2.mono hz)
  replace HB := Lib.hid (HB.out.trans (hbV2.mono (Nat.le_trans (by omega) hz)))
  replace hz := Nat.le_trans hz hbV2.size
  clear hbV2 hHeld
  dsimp only
  refine hK.out _ _ ?_ (fun hHeld => ?_)
  · exact hSV2
  clear hK Kq
  try simp only [Act.put, List.setIfInBounds_toArray, List.set_cons_zero, List.set_cons_succ]
  refine wpAnyH_take (i := 9) (oi := ({ dst := some 43, op := Op.slice 31 (Operand.tmp 35) (some (Operand.tmp 38)) (some (Operand.tmp 42)) none, type := 31, pos := "patch.go:45", after := #[{ on := 1, ground := Ground.data }, { on := 4, ground := Ground.data }, { on := 8, ground := Ground.data }], guard := none } : Oper)) (v := ?_) rfl (by kernel_rfl) (by kernel_rfl) (by kernel_rfl) (fun _ _ _ h => h) (Or.inl ⟨by rfl, ?_⟩) (by assumption) ?_
  rotate_left
  · intro wS hSw
    first
      | (go_simp; done)
      | (go_simp; with_reducible rfl)
  try simp only [Act.put, List.setIfInBounds_toArray, List.set_cons_zero, List.set_cons_succ]
  refine wpAnyH_ready (rs := [10]) (by kernel_rfl) (by simp) ?_
  refine AllReadyH.cons (o := ({ dst := some 44, op := Op.call { callee := Callee.value (Operand.func 24), args := #[Operand.tmp 43], argTypes := #[31] }, type := 31, pos := "patch.go:45", after := #[{ on := 9, ground := Ground.data }, { on := 8, ground := Ground.chain }], guard := none } : Oper)) rfl (fun Kq hK => ?_) (AllReadyH.nil)
  go_simp
  go_at_call 24
  refine (sclone16 _ ((zs.drop p1).take k) k (c - p1) HLEN.out (by omega) (B := w.heap.size) _ HB.out.size (HCUT.out.below HB.out)).mono ?_
  rintro e V3 ⟨v3, rfl, ho3, hbV3⟩
  have hS3 : RBox w.heap.size (m : Int) (k : Int) (.slice A n c) V3 := hHeld.below (B' := w.heap.size + 1) (by omega) (hbV3.mono hz)
  have HO := Lib.hid (Kit.own_base ho3 HB.out.size)
  replace HB := Lib.hid (HB.out.trans (hbV3.mono (Nat.le_trans (by omega) hz)))
  clear ho3 hbV3 hHeld
  dsimp only
  refine hK.out _ _ ?_ (fun hHeld => ?_)
  · exact hS3
  clear hK Kq
  try simp only [Act.put, List.setIfInBounds_toArray, List.set_cons_zero, List.set_cons_succ]
  refine wpAnyH_take (i := 11) (oi := ({ dst := some 4, op := Op.assign (Operand.tmp 44), type := 31, pos := "patch.go:45", after := #[{ on := 10, ground := Ground.data }, { on := 10, ground := Ground.chain }, { on := 0, ground := Ground.phase }, { on := 1, ground := Ground.phase }, { on := 2, ground := Ground.phase }, { on := 3, ground := Ground.phase }, { on := 4, ground := Ground.phase }, { on := 5, ground := Ground.phase }, { on := 6, ground := Ground.phase }, { on := 7, ground := Ground.phase }, { on := 8, ground := Ground.phase }, { on := 9, ground := Ground.phase }, { on := 10, ground := Ground.phase }], guard := none } : Oper)) (v := ?_) rfl (by kernel_rfl) (by kernel_rfl) (by kernel_rfl) (fun _ _ _ h => h) (Or.inl ⟨by rfl, ?_⟩) (by assumption) ?_
  rotate_left
  · intro wS hSw
    first
      | (go_simp; done)
      | (go_simp; with_reducible rfl)
  try simp only [Act.put, List.setIfInBounds_toArray, List.set_cons_zero, List.set_cons_succ]
  refine wpAnyH_done (by kernel_rfl) ?_ _
  go_wp2_with fail
  all_goals go_ret
  all_goals exact ⟨_, rfl, HO.out, HB.out⟩
end Go.Proofs.Ytbolneejjjjaeaa.CPatch
