/- Texts of this seat, one behind the other: Fix, LaneMem. -/
import Derived.Laws.ShiftsVar
import Derived.Laws.ShiftsVarLaws
import Derived.Test.YtoghpoopgkahiaaGreatDoorGA1
import Derived.Test.YtoghpoopgkahiaaGreatDoorGA4
import Derived.Test.YtoghpoopgkahiaaGreatDoorGA9
import Derived.Test.YtoghpoopgkahiaaGreatDoorGA14
section
namespace Go.Proofs.YtoghpoopgkahiaaGreatDoor.CFix
open Go Go.ChangeShapes Go.WideShapes Go.ChangeAt Go.RowKit
open Plain CSat
set_option linter.unusedVariables false
/-- v by 2 to the power of s, to the nearest; halves away from 0. -/
def roundZ (v : Int) (s : Nat) : Int :=
  if v < 0 then -(((v.natAbs + 2 ^ s / 2) / 2 ^ s : Nat) : Int) else (((v.natAbs + 2 ^ s / 2) / 2 ^ s : Nat) : Int)
theorem right_yes (s : Int) (h1 : 0 ≤ s) (h2 : s ≤ 62) (w : World) :
    Calls Tryz.prog 99 #[.int .i64 s] w fun e w' => e = .returned (.bool true) ∧ w = w' := by
  go_enter Tryz.func99, Tryz.ntmps99
  go_wp2
  go_ret
  exact ⟨rfl, rfl⟩
theorem right_no (s : Int) (h : s < 0 ∨ 62 < s) (w : World) :
    Calls Tryz.prog 99 #[.int .i64 s] w fun e w' => e = .returned (.bool false) ∧ w = w' := by
  rcases h with h | h
  · go_enter Tryz.func99, Tryz.ntmps99
    go_wp2
    go_ret
    exact ⟨rfl, rfl⟩
  · by_cases h0 : 0 ≤ s
    · have hd : decide (s ≤ 62) = false := by simp; omega
      go_enter Tryz.func99, Tryz.ntmps99
      go_wp2
      go_ret
      exact ⟨rfl, rfl⟩
    · go_enter Tryz.func99, Tryz.ntmps99
      go_wp2
      go_ret
      exact ⟨rfl, rfl⟩
theorem pow_bd (s : Nat) (h : s ≤ 62) : ∃ p : Nat, 2 ^ s = p ∧ 1 ≤ p ∧ p ≤ 4611686018427387904 ∧ ((2 : Int) ^ s = (p : Int)) := by
  refine ⟨2 ^ s, rfl, Nat.one_le_two_pow, ?_, by simp⟩
  exact Nat.pow_le_pow_right (by omega) h
theorem round_size (n p : Nat) (hp : 1 ≤ p) (hp2 : p ≤ 4611686018427387904) (hn : n ≤ 9223372036854775808) :
    (n + p / 2) / p ≤ 9223372036854775808 ∧ (n ≤ 9223372036854775807 → (n + p / 2) / p ≤ 9223372036854775807) := by
  have h1 : (n + p / 2) / p ≤ n := by
    rcases Nat.lt_or_ge 1 p with h | h
    · rcases Nat.eq_zero_or_pos n with h0 | h0
      · subst h0; rw [Nat.zero_add]; rw [Nat.div_eq_of_lt (by omega)]; omega
      · apply Nat.div_le_of_le_mul
        have : p * 1 ≤ p * n := Nat.mul_le_mul_left p h0
        have h2 : 2 * n ≤ p * n := Nat.mul_le_mul_right n h
        omega
    · have : p = 1 := by omega
      subst this; simp
  omega
theorem div_back (x : Int) (n p q : Nat) (hq : q = (n + p / 2) / p) (h : x = (n : Int)) : (x + (p : Int) / 2) / (p : Int) = (q : Int) := by
  subst hq h; simp
theorem neg_q (q : Nat) (h : q ≤ 9223372036854775808) : wrap64 (-wrap64 (q : Int)) = -(q : Int) := by unfold wrap64; omega
theorem round_yes (v : Int) (s : Nat) (h : s ≤ 62) (hv1 : -9223372036854775808 ≤ v) (hv2 : v ≤ 9223372036854775807) (w : World) :
    Calls Tryz.prog 151 #[.int .i64 v, .int .i64 (s : Int)] w fun e w' => e = .returned (.int .i64 (roundZ v s)) ∧ w = w' := by
  obtain ⟨p, hp, hp1, hp2, hpi⟩ := pow_bd s h
  obtain ⟨q, hq⟩ : ∃ q, q = (v.natAbs + p / 2) / p := ⟨_, rfl⟩
  have hqs := round_size v.natAbs p hp1 hp2 (by omega)
  rw [← hq] at hqs
  obtain ⟨hq1, hq2⟩ := hqs
  by_cases hn : v < 0
  · have hr : roundZ v s = -(q : Int) := by unfold roundZ; rw [if_pos hn, hp, hq]
    rw [hr]
    have hx : IntKind.u64.wrap v = v + 18446744073709551616 := by rw [IntKind.wrap_u64]; omega
    have hy : IntKind.u64.wrap (-(v + 18446744073709551616)) = -v := by rw [IntKind.wrap_u64]; omega
    have hz : (-v + (p : Int) / 2) / (p : Int) = (q : Int) := div_back _ _ _ _ hq (by omega)
    clear hr hq2 hp hq
    go_enter Tryz.func151, Tryz.ntmps151
    go_wp2_with (go_at_call 99; refine (right_yes _ (by omega) (by omega) _).mono ?_; rintro e w' ⟨rfl, rfl⟩)
    refine Kit.wp_scope_once 0 rfl ?_
    go_wp2_with (go_at_call 99; refine (right_yes _ (by omega) (by omega) _).mono ?_; rintro e w' ⟨rfl, rfl⟩)
    go_step3
    refine ⟨rfl, ?_⟩
    go_wp2
    rw [Exit.noGoto_ret]
    go_ret
    exact ⟨ret_int (neg_q q hq1), rfl⟩
  · have hr : roundZ v s = (q : Int) := by unfold roundZ; rw [if_neg hn, hp, hq]
    rw [hr]
    have hz : (v + (p : Int) / 2) / (p : Int) = (q : Int) := div_back _ _ _ _ hq (by omega)
    have hq3 := hq2 (by omega)
    clear hr hq2 hp hq
    go_enter Tryz.func151, Tryz.ntmps151
    go_wp2_with (go_at_call 99; refine (right_yes _ (by omega) (by omega) _).mono ?_; rintro e w' ⟨rfl, rfl⟩)
    go_step3
    go_wp2_with (go_at_call 99; refine (right_yes _ (by omega) (by omega) _).mono ?_; rintro e w' ⟨rfl, rfl⟩)
    go_step3
    go_wp2
    rw [Exit.noGoto_ret]
    go_ret
    exact ⟨rfl, rfl⟩
theorem round_abs (v : Int) (s : Nat) (h : s ≤ 62) (hv1 : -9223372036854775808 ≤ v) (hv2 : v ≤ 9223372036854775807) : (roundZ v s).natAbs ≤ v.natAbs := by
  obtain ⟨p, hp, hp1, hp2, hpi⟩ := pow_bd s h
  have h1 : (v.natAbs + p / 2) / p ≤ v.natAbs := by
    rcases Nat.lt_or_ge 1 p with h | h
    · rcases Nat.eq_zero_or_pos v.natAbs with h0 | h0
      · rw [h0, Nat.zero_add, Nat.div_eq_of_lt (by omega)]; omega
      · apply Nat.div_le_of_le_mul
        have : p * 1 ≤ p * v.natAbs := Nat.mul_le_mul_left p h0
        have h2 : 2 * v.natAbs ≤ p * v.natAbs := Nat.mul_le_mul_right _ h
        omega
    · have : p = 1 := by omega
      subst this; simp
  unfold roundZ
  rw [hp]
  generalize (v.natAbs + p / 2) / p = t at *
  split <;> omega
theorem scale_yes (a m : Int) (s : Nat) (h : s ≤ 62) (ha1 : -2147483648 ≤ a) (ha2 : a ≤ 2147483647) (hm1 : -2147483648 ≤ m) (hm2 : m ≤ 2147483647) (w : World) :
    Calls Tryz.prog 139 #[.int .i32 a, .int .i32 m, .int .i64 (s : Int)] w fun e w' => e = .returned (.int .i64 (roundZ (a * m) s)) ∧ w = w' := by
  obtain ⟨h1, h2⟩ := mul_bd a m ha1 ha2 hm1 hm2
  go_enter Tryz.func139, Tryz.ntmps139
  go_wp2_with (go_at_call 151; refine (round_yes _ s h (by omega) (by omega) _).mono ?_; rintro e w' ⟨rfl, rfl⟩)
  go_ret
  exact ⟨rfl, rfl⟩
theorem scale_to (a m : Int) (s : Nat) (t : Int) (h : s ≤ 62) (ha1 : -2147483648 ≤ a) (ha2 : a ≤ 2147483647) (hm1 : -2147483648 ≤ m) (hm2 : m ≤ 2147483647) (ht : roundZ (a * m) s = t) (w : World) :
    Calls Tryz.prog 139 #[.int .i32 a, .int .i32 m, .int .i64 (s : Int)] w fun e w' => e = .returned (.int .i64 t) ∧ w = w' := ht ▸ scale_yes a m s h ha1 ha2 hm1 hm2 w
/-- is a scale right? -/
def rightB (m s : Int) : Bool := decide (0 < m ∧ 0 ≤ s ∧ s ≤ 62)
theorem isRight_yes (m s z : Int) (h : rightB m s = true) (w : World) :
    Calls Tryz.prog 50 #[.agg #[.int .i32 m, .int .i64 s, .int .i8 z]] w fun e w' => e = .returned (.bool true) ∧ Below w.heap.size w w' := by
  obtain ⟨h1, h2, h3⟩ : 0 < m ∧ 0 ≤ s ∧ s ≤ 62 := by simpa [rightB] using h
  clear h
  go_enter Tryz.func50, Tryz.ntmps50
  go_wp2_with (go_at_call 99; refine (right_yes _ (by omega) (by omega) _).mono ?_; rintro e w' ⟨rfl, rfl⟩)
  go_ret
  exact ⟨rfl, (Below.refl _ _).alloc (Nat.le_refl _) _⟩
theorem isRight_no (m s z : Int) (h : rightB m s = false) (w : World) :
    Calls Tryz.prog 50 #[.agg #[.int .i32 m, .int .i64 s, .int .i8 z]] w fun e w' => e = .returned (.bool false) ∧ Below w.heap.size w w' := by
  have h0 : ¬ (0 < m ∧ 0 ≤ s ∧ s ≤ 62) := by simpa [rightB] using h
  clear h
  by_cases h1 : 0 < m
  · have h2 : s < 0 ∨ 62 < s := by omega
    clear h0
    go_enter Tryz.func50, Tryz.ntmps50
    go_wp2_with (go_at_call 99; refine (right_no _ h2 _).mono ?_; rintro e w' ⟨rfl, rfl⟩)
    go_ret
    exact ⟨rfl, (Below.refl _ _).alloc (Nat.le_refl _) _⟩
  · have hd : decide (0 < m) = false := by simpa using h1
    clear h0
    go_enter Tryz.func50, Tryz.ntmps50
    go_wp2_with fail
    go_ret
    exact ⟨rfl, (Below.refl _ _).alloc (Nat.le_refl _) _⟩
/-- a sum of 32 bits as a number of 8, between two. -/
def heldZ (a m s z lo hi : Int) : Int := if rightB m s then clampZ (roundZ (a * m) s.toNat + z) lo hi else 0
theorem held (a m s z lo hi : Int) (ha1 : -2147483648 ≤ a) (ha2 : a ≤ 2147483647) (hm1 : -2147483648 ≤ m) (hm2 : m ≤ 2147483647) (hz1 : -128 ≤ z) (hz2 : z ≤ 127)
    (hl1 : -128 ≤ lo) (hl2 : lo ≤ 127) (hh1 : -128 ≤ hi) (hh2 : hi ≤ 127) (w : World) :
    Calls Tryz.prog 107 #[.int .i32 a, .agg #[.int .i32 m, .int .i64 s, .int .i8 z], .int .i8 lo, .int .i8 hi] w fun e w' => e = .returned (.int .i8 (heldZ a m s z lo hi)) ∧ Below w.heap.size w w' := by
  obtain ⟨h1, h2⟩ := mul_bd a m ha1 ha2 hm1 hm2
  cases hr : rightB m s
  · have hv : heldZ a m s z lo hi = 0 := by unfold heldZ; rw [hr]; rfl
    rw [hv]
    have HR := Lib.hid hr
    clear hr hv
    go_enter Tryz.func107, Tryz.ntmps107
    go_wp2_with (go_at_call 50; refine (isRight_no _ _ _ HR.out _).mono ?_; rintro e w1 ⟨rfl, hb⟩; obtain ⟨hc, hf⟩ := Kit.bcell hb)
    go_ret
    exact ⟨rfl, ((Below.refl _ _).alloc (Nat.le_refl _) _).trans (hb.mono (by simp))⟩
  · obtain ⟨h3, h4, h5⟩ : 0 < m ∧ 0 ≤ s ∧ s ≤ 62 := by simpa [rightB] using hr
    obtain ⟨n, rfl⟩ := Int.eq_ofNat_of_zero_le h4
    have hv : heldZ a m n z lo hi = clampZ (roundZ (a * m) n + z) lo hi := by unfold heldZ; rw [hr]; rfl
    rw [hv]
    have hn : n ≤ 62 := by omega
    have hra := round_abs (a * m) n hn (by omega) (by omega)
    obtain ⟨t, ht⟩ : ∃ t, roundZ (a * m) n = t := ⟨_, rfl⟩
    rw [ht] at hra
    rw [ht]
    have ht1 : -4611686018427387904 ≤ t := by omega
    have ht2 : t ≤ 4611686018427387904 := by omega
    have HR := Lib.hid hr
    have HT := Lib.hid ht
    clear hr hv ht hra
    go_enter Tryz.func107, Tryz.ntmps107
    go_wp2_with (go_at_call 50; refine (isRight_yes _ _ _ HR.out _).mono ?_; rintro e w1 ⟨rfl, hb⟩; obtain ⟨hc, hf⟩ := Kit.bcell hb)
    go_quiet ((first
      | (go_at_call 139; exact Kit.quiet_l (scale_to _ _ _ t hn ha1 ha2 hm1 hm2 HT.out _))
      | (go_at_call 140; exact Kit.quiet_l (clamp _ _ _ (by omega) (by omega) (by omega) (by omega) _))))
    go_wp2
    go_ret
    exact ⟨rfl, Kit.below_drewN (((Below.refl _ _).alloc (Nat.le_refl _) _).trans (hb.mono (by simp))) _⟩
end Go.Proofs.YtoghpoopgkahiaaGreatDoor.CFix
end
section
namespace Go.Proofs.YtoghpoopgkahiaaGreatDoor.CLane
open Go Go.ChangeShapes Go.WideShapes Go.ChangeAt Go.RowKit
open Plain CSat CShape CTensor CConv FloatNum CFour CWheel
set_option linter.unusedVariables false
abbrev I16w (zs : List Int) : List Value := zs.map (.int .i16)
theorem rd_block {w w' : World} {g : Nat} {xs : List Value} (h : Kit.Rd w (g + 1) (some ⟨g, 0, none⟩) xs) (hb : w'.heap[g]? = w.heap[g]?) : Kit.Rd w' (g + 1) (some ⟨g, 0, none⟩) xs := fun j u hu => by
  obtain ⟨ad, e, hlt, hc⟩ := h j u hu
  refine ⟨ad, e, hlt, ?_⟩
  cases e
  have : ((⟨g, 0, none⟩ : Addr).add j).block = g := Kit.add_block _ _
  have hb' : w'.heap[((⟨g, 0, none⟩ : Addr).add j).block]? = w.heap[((⟨g, 0, none⟩ : Addr).add j).block]? := by rw [this]; exact hb
  exact (World.cell?_of_block hb').trans hc
theorem grown_setCell (w : World) (p : Addr) (v : Value) : w.grownBy (w.setCell p v) (some p.block) :=
  ⟨rfl, rfl, rfl, by simp, fun k _ hk => Below.heap_setCell _ _ _ k (fun e => hk (by rw [e]))⟩
/-- lanes: the slice of the rows (v1, its cells vs), the slice of the places (v2); all that they own is ok, and apart. -/
def LanesV (B0 : Nat) (ok : Nat → Prop) (M : Nat) (v1 v2 : Value) (vs : List Value) (rows : List (List Int)) (ps : List Int) (w : World) : Prop :=
  vs.length = rows.length ∧ w.ownsRow B0 114 1 v1 rows.length vs ∧ w.ownsRow B0 3 1 v2 ps.length (I64v ps) ∧
  (∀ g, v1.ownBlock = some g → ok g ∧ v2.ownBlock ≠ some g) ∧ (∀ g, v2.ownBlock = some g → ok g) ∧
  ∀ (i : Nat) (row : List Int), rows[i]? = some row → ∃ g, vs[i]? = some (.slice (some ⟨g, 0, none⟩) M M) ∧ row.length = M ∧ ok g ∧ g < w.heap.size ∧ v1.ownBlock ≠ some g ∧ v2.ownBlock ≠ some g ∧ Kit.Rd w (g + 1) (some ⟨g, 0, none⟩) (I16w row)
def LanesAt (B0 : Nat) (ok : Nat → Prop) (M : Nat) (v1 v2 : Value) (rows : List (List Int)) (ps : List Int) (w : World) : Prop := ∃ vs, LanesV B0 ok M v1 v2 vs rows ps w
section
variable {B0 : Nat} {ok : Nat → Prop} {M : Nat} {v1 v2 : Value} {vs : List Value} {rows : List (List Int)} {ps : List Int} {w w' : World}
theorem LanesV.start (B0 : Nat) (ok : Nat → Prop) (M : Nat) (w : World) : LanesV B0 ok M (.slice none 0 0) (.slice none 0 0) [] [] [] w := by
  refine ⟨rfl, own_nil _ _ _ _, own_nil _ _ _ _, fun g h => ?_, fun g h => ?_, fun i row h => ?_⟩
  · exact absurd h (by simp [Value.ownBlock])
  · exact absurd h (by simp [Value.ownBlock])
  · simp at h
theorem LanesV.grown (h : LanesV B0 ok M v1 v2 vs rows ps w) {r : Option Nat} (hg : w.grownBy w' r) (h1 : ∀ g, r = some g → v1.ownBlock ≠ some g ∧ v2.ownBlock ≠ some g ∧ ¬ (∃ (i : Nat), vs[i]? = some (.slice (some ⟨g, 0, none⟩) M M))) : LanesV B0 ok M v1 v2 vs rows ps w' := by
  obtain ⟨a, b, c, d, e, f⟩ := h
  have ne : ∀ v : Value, (∀ g, r = some g → v.ownBlock ≠ some g) → v.ownBlock = none ∨ v.ownBlock ≠ r := fun v hv => by
    cases hr : r with
    | none => cases hb : v.ownBlock with
      | none => exact .inl rfl
      | some g => exact .inr (by simp)
    | some g => exact .inr (hv g hr)
  refine ⟨a, b.kept hg (ne v1 fun g hr => (h1 g hr).1), c.kept hg (ne v2 fun g hr => (h1 g hr).2.1), d, e, fun i row hi => ?_⟩
  obtain ⟨g, f1, f2, f3, f4, f5, f6, f7⟩ := f i row hi
  exact ⟨g, f1, f2, f3, Nat.lt_of_lt_of_le f4 hg.size, f5, f6, rd_block f7 (hg.block g f4 (fun e => (h1 g e.symm).2.2 ⟨i, f1⟩))⟩
theorem LanesV.below (h : LanesV B0 ok M v1 v2 vs rows ps w) (hb : Below w.heap.size w w') : LanesV B0 ok M v1 v2 vs rows ps w' :=
  h.grown (r := none) ⟨hb.os, hb.tape, hb.output, hb.size, fun k hk _ => hb.block k hk⟩ (fun g e => by cases e)
/-- a cell of a block that no lane may own is set. -/
theorem LanesV.set (h : LanesV B0 ok M v1 v2 vs rows ps w) {p : Addr} (hp : ¬ ok p.block) (v : Value) : LanesV B0 ok M v1 v2 vs rows ps (w.setCell p v) := by
  refine h.grown (grown_setCell w p v) (fun g e => ?_)
  obtain rfl : p.block = g := Option.some.inj e
  refine ⟨fun e1 => hp (h.2.2.2.1 _ e1).1, fun e2 => hp (h.2.2.2.2.1 _ e2), fun ⟨i, hi⟩ => ?_⟩
  have hlt : i < rows.length := by rw [← h.1]; exact (List.getElem?_eq_some_iff.1 hi).1
  obtain ⟨g', f1, _, f3, _⟩ := h.2.2.2.2.2 i _ (List.getElem?_eq_getElem hlt)
  rw [hi] at f1
  simp at f1
  exact hp (f1 ▸ f3)
theorem own_block_lt {e : TypeId} {size n : Nat} {v : Value} {xs : List Value} (h : w.ownsRow B0 e size v n xs) {g : Nat} (hg : v.ownBlock = some g) : g < w.heap.size := by
  rcases h.2 with ⟨rfl, _⟩ | ⟨g', cap, cur, rfl, _, hh, _⟩
  · cases hg
  · obtain rfl : g' = g := Option.some.inj hg
    rcases Nat.lt_or_ge g' w.heap.size with h | h
    · exact h
    · rw [Array.getElem?_eq_none h] at hh; cases hh
/-- a row is put behind the others. -/
theorem LanesV.push1 (h : LanesV B0 ok M v1 v2 vs rows ps w) {v1' : Value} {gr : Nat} {row : List Int} (hl : row.length = M) (hok : ok gr) (hlt : gr < w.heap.size) (n1 : v1.ownBlock ≠ some gr) (n2 : v2.ownBlock ≠ some gr) (hrd : Kit.Rd w (gr + 1) (some ⟨gr, 0, none⟩) (I16w row))
    (ho : w'.ownsRow B0 114 1 v1' (rows.length + 1) (vs ++ [.slice (some ⟨gr, 0, none⟩) M M])) (hg : w.grownBy w' v1.ownBlock) (hat : v1'.ownBlock = v1.ownBlock ∨ v1'.ownBlock = some w.heap.size) (hos : ok w.heap.size) :
    LanesV B0 ok M v1' v2 (vs ++ [.slice (some ⟨gr, 0, none⟩) M M]) (rows ++ [row]) ps w' := by
  obtain ⟨a, b, c, d, e, f⟩ := h
  have hv2 : ∀ g, v2.ownBlock = some g → g < w.heap.size := fun g hg2 => own_block_lt c hg2
  have hv2n : v2.ownBlock = none ∨ v2.ownBlock ≠ v1.ownBlock := by
    cases hb : v1.ownBlock with
    | none => cases hb2 : v2.ownBlock with
      | none => exact .inl rfl
      | some g => exact .inr (by simp)
    | some g => exact .inr (d g hb).2
  have hne : ∀ g, g < w.heap.size → v1.ownBlock ≠ some g → v1'.ownBlock ≠ some g := fun g hlt2 h1 e1 => by
    rcases hat with h2 | h2
    · exact h1 (h2 ▸ e1)
    · rw [h2] at e1; have := Option.some.inj e1; omega
  refine ⟨by simp [a], by simpa using ho, c.kept hg hv2n, fun g hg1 => ?_, e, fun i r hi => ?_⟩
  · rcases hat with h2 | h2
    · rw [h2] at hg1; exact d g hg1
    · rw [h2] at hg1
      obtain rfl : w.heap.size = g := Option.some.inj hg1
      exact ⟨hos, fun e2 => absurd (hv2 _ e2) (Nat.lt_irrefl _)⟩
  · rcases Nat.lt_or_ge i rows.length with hi2 | hi2
    · rw [List.getElem?_append_left hi2] at hi
      obtain ⟨g, f1, f2, f3, f4, f5, f6, f7⟩ := f i r hi
      exact ⟨g, by rw [List.getElem?_append_left (by omega)]; exact f1, f2, f3, Nat.lt_of_lt_of_le f4 hg.size, hne g f4 f5, f6, rd_block f7 (hg.block g f4 (fun e => f5 e.symm))⟩
    · rw [List.getElem?_append_right hi2] at hi
      have hi3 : i - rows.length = 0 := by
        rcases Nat.lt_or_ge (i - rows.length) 1 with h8 | h8
        · omega
        · rw [List.getElem?_eq_none (by simpa using h8)] at hi; cases hi
      rw [hi3] at hi
      obtain rfl : row = r := by simpa using hi
      exact ⟨gr, by rw [List.getElem?_append_right (by omega), show i - vs.length = 0 by omega]; rfl, hl, hok, Nat.lt_of_lt_of_le hlt hg.size, hne gr hlt n1, n2, rd_block hrd (hg.block gr hlt (fun e => n1 e.symm))⟩
/-- a place is put behind the others. -/
theorem LanesV.push2 (h : LanesV B0 ok M v1 v2 vs rows ps w) {v2' : Value} {p : Int}
    (ho : w'.ownsRow B0 3 1 v2' (ps.length + 1) (I64v ps ++ [.int .i64 p])) (hg : w.grownBy w' v2.ownBlock) (hat : v2'.ownBlock = v2.ownBlock ∨ v2'.ownBlock = some w.heap.size) (hos : ok w.heap.size) :
    LanesV B0 ok M v1 v2' vs rows (ps ++ [p]) w' := by
  obtain ⟨a, b, c, d, e, f⟩ := h
  have hv1 : ∀ g, v1.ownBlock = some g → g < w.heap.size := fun g hg2 => own_block_lt b hg2
  have hv1n : v1.ownBlock = none ∨ v1.ownBlock ≠ v2.ownBlock := by
    cases hb : v1.ownBlock with
    | none => exact .inl rfl
    | some g => exact .inr (fun e2 => (d g hb).2 e2.symm)
  have hne : ∀ g, g < w.heap.size → v2.ownBlock ≠ some g → v2'.ownBlock ≠ some g := fun g hlt2 h1 e1 => by
    rcases hat with h2 | h2
    · exact h1 (h2 ▸ e1)
    · rw [h2] at e1; have := Option.some.inj e1; omega
  refine ⟨a, b.kept hg hv1n, ?_, fun g hg1 => ⟨(d g hg1).1, hne g (hv1 g hg1) (d g hg1).2⟩, fun g hg1 => ?_, fun i r hi => ?_⟩
  · have e9 : I64v (ps ++ [p]) = I64v ps ++ [.int .i64 p] := by show (ps ++ [p]).map _ = _; rw [List.map_append]; rfl
    rw [e9, List.length_append]; exact ho
  · rcases hat with h2 | h2
    · rw [h2] at hg1; exact e g hg1
    · rw [h2] at hg1
      obtain rfl : w.heap.size = g := Option.some.inj hg1
      exact hos
  · obtain ⟨g, f1, f2, f3, f4, f5, f6, f7⟩ := f i r hi
    exact ⟨g, f1, f2, f3, Nat.lt_of_lt_of_le f4 hg.size, f5, hne g f4 f6, rd_block f7 (hg.block g f4 (fun e => f6 e.symm))⟩
/-- lanes read as rows. -/
theorem LanesV.rowsAt (h : LanesV B0 ok M v1 v2 vs rows ps w) (hM : M ≤ maxLen) : ∃ A c, v1 = .slice A rows.length c ∧ rows.length ≤ c ∧ c ≤ maxLen ∧ Kit.RowsAt w w.heap.size .i16 A rows := by
  obtain ⟨a, b, c, d, e, f⟩ := h
  obtain ⟨A, cp, rfl, h1, h2, h3⟩ := Kit.own_rd b
  refine ⟨A, cp, rfl, h1, h2, vs, a, h3, fun i row hi => ?_⟩
  obtain ⟨g, f1, f2, f3, f4, _, _, f7⟩ := f i row hi
  exact ⟨_, M, M, f2, f1, Nat.le_refl _, hM, f7.more f4⟩
theorem LanesV.weaken (h : LanesV B0 ok M v1 v2 vs rows ps w) {ok' : Nat → Prop} (hk : ∀ g, g < w.heap.size → ok g → ok' g) : LanesV B0 ok' M v1 v2 vs rows ps w := by
  obtain ⟨a, b, c, d, e, f⟩ := h
  refine ⟨a, b, c, fun g hg => ⟨hk g (own_block_lt b hg) (d g hg).1, (d g hg).2⟩, fun g hg => hk g (own_block_lt c hg) (e g hg), fun i row hi => ?_⟩
  obtain ⟨g, f1, f2, f3, f4, f5, f6, f7⟩ := f i row hi
  exact ⟨g, f1, f2, hk g f4 f3, f4, f5, f6, f7⟩
end
end Go.Proofs.YtoghpoopgkahiaaGreatDoor.CLane
end
