/- Texts of this seat, one behind the other: GraphKnown. -/
import Derived.Laws.StructEq
import Derived.Test.YtahekhpeomcfjaaDoorRows
import Derived.ProofKit
import Derived.OpenShut
import Derived.Outline
import Derived.Test.YtahekhpeomcfjaaDoorGE46
import Derived.Test.YtahekhpeomcfjaaDoorGE48
namespace Go.Proofs.YtahekhpeomcfjaaDoor.CConv
end Go.Proofs.YtahekhpeomcfjaaDoor.CConv
namespace Go.Proofs.YtahekhpeomcfjaaDoor.CTensor
end Go.Proofs.YtahekhpeomcfjaaDoor.CTensor
section
namespace Go.Proofs.YtahekhpeomcfjaaDoor.CGraph
open Go Go.ChangeShapes Go.WideShapes Go.ChangeAt Go.RowKit Go.Deep
open Plain CSat CFix CShape CTensor CConv CKind
set_option maxRecDepth 100000
set_option linter.unusedVariables false
theorem eqShape (a b c x y z : Int) (w : World) : (Op.equalIn 10000 24 (.agg #[.int .i64 a, .int .i64 b, .int .i64 c]) (.agg #[.int .i64 x, .int .i64 y, .int .i64 z])).run Tryd.prog w = .ok (a == x && (b == y && c == z)) w := by
  have u3 := Tryd.underlying3
  have a3 := Tryd.isAgg3
  have z3 := Tryd.sizeOf3
  have hS : Tryd.prog.underlying 24 = some (.struct (Tryd.prog.fieldsOf 24)) := by kernel_rfl
  rw [show (10000 : Nat) = 9999 + 1 from rfl, run_equalIn_agg w 9999 24 _ _ hS Tryd.stoodInHeld24]
  simp only [Program.fieldsOf, Tryd.underlying24]
  go_simp
  by_cases h1 : a = x <;> by_cases h2 : b = y <;> by_cases h3 : c = z <;> simp [h1, h2, h3]
theorem rowI_len (F : Nat → Int) (n : Nat) : (rowI F n).length = n := by simp [rowI]
theorem rdI_at {w : World} {B : Nat} {A : Option Addr} {S : Nat → Int} {n : Nat} (h : Kit.Rd w B A (rowI S n)) (hn : 0 < n) :
    ∃ b o, A = some ⟨b, o, none⟩ ∧ b < B ∧ ∀ k, k < n → w.cell? ⟨b, o + k, none⟩ = some (.int .i64 (S k)) := by
  obtain ⟨b, o, e, hb, hc⟩ := h.plain (by rw [rowI_len]; exact hn)
  exact ⟨b, o, e, hb, fun k hk => hc k _ (rowI_at S hk)⟩
set_option maxHeartbeats 2000000 in
theorem isame_to (F : Nat → Int) (n : Nat) (hn : n ≤ 1000) (A A' : Option Addr) (c c' : Nat) (w : World) {B B' : Nat} (hr : Kit.Rd w B A (rowI F n)) (hr' : Kit.Rd w B' A' (rowI F n)) :
    Calls Tryd.prog 10 #[.slice A n c, .slice A' n c'] w fun e w' => e = .returned (.bool true) ∧ ∃ m, w' = w.drewN m := by
  have HA := Lib.hid hr
  have HB := Lib.hid hr'
  clear hr hr'
  go_enter Tryd.func10, Tryd.ntmps10
  go_wp2_with fail
  go_loopw [5] (fun u wr => ∃ k nq : Nat, k ≤ n ∧ u = .int .i64 k ∧ Hid (wr = w.drewN nq)) (fun u _ => n - (intOf u).toNat)
  case atStart => exact ⟨0, 0, Nat.zero_le _, rfl, Lib.hid rfl⟩
  case round =>
    obtain ⟨k, nq, hk, rfl, hw⟩ := hrel
    obtain rfl := hw.out
    clear hw
    by_cases hlt : k < n
    · obtain ⟨b1, o1, rfl, -, h1⟩ := rdI_at HA.out (by omega)
      obtain ⟨b2, o2, rfl, -, h2⟩ := rdI_at HB.out (by omega)
      have c1 := h1 k hlt
      have c2 := h2 k hlt
      have k0 : (0 : Int) ≤ (k : Int) := by omega
      have k1 : (k : Int) < (n : Int) := by omega
      clear h1 h2
      go_wp2_with fail
      go_quiet (fail)
      go_wp2
      go_roundw
      case rel => exact ⟨k + 1, _, by omega, by go_num, Lib.hid rfl⟩
      case measure => simp [intOf]; omega
    · obtain rfl : k = n := by omega
      go_wp2_with fail
      go_ret
      exact ⟨rfl, nq, rfl⟩
def nd9 : Nd := ⟨9, 0, 0, 0, 0, 0, 0, 0, 0, none, 0, 0, none, 0, 0, 0, 0, 0, 0, 0, 0, 0, 0⟩
def LK (i : Nat) : Int := if i = 0 then 2 else if i = 1 then 0 else 3
theorem LK_row : rowI LK 3 = [.int .i64 2, .int .i64 0, .int .i64 3] := rfl
theorem LK_last : rowI (lastZ (fun _ => nd9) 2) 3 = rowI LK 3 := by
  have h : ∀ k, k < 3 → lastZ (fun _ => nd9) 2 k = LK k := by decide
  exact List.map_congr_left fun k hk => by rw [h k (by simpa using hk)]
theorem nodes_two (w : World) : NodesAt (w.alloc (.cells #[.int .i64 9, .int .i64 0, .int .i64 0, .int .i64 0, .int .i64 0, .int .i64 0, .int .i64 0, .int .i8 0, .int .i8 0, .slice none 0 0, .slice none 0 0, .int .i32 0, .int .i64 0, .int .i8 0, .int .i32 0, .int .i64 0, .int .i8 0, .int .i8 0, .int .i8 0, .int .i64 9, .int .i64 0, .int .i64 0, .int .i64 0, .int .i64 0, .int .i64 0, .int .i64 0, .int .i8 0, .int .i8 0, .slice none 0 0, .slice none 0 0, .int .i32 0, .int .i64 0, .int .i8 0, .int .i32 0, .int .i64 0, .int .i8 0, .int .i8 0, .int .i8 0] 45)) (w.alloc (.cells #[.int .i64 9, .int .i64 0, .int .i64 0, .int .i64 0, .int .i64 0, .int .i64 0, .int .i64 0, .int .i8 0, .int .i8 0, .slice none 0 0, .slice none 0 0, .int .i32 0, .int .i64 0, .int .i8 0, .int .i32 0, .int .i64 0, .int .i8 0, .int .i8 0, .int .i8 0, .int .i64 9, .int .i64 0, .int .i64 0, .int .i64 0, .int .i64 0, .int .i64 0, .int .i64 0, .int .i8 0, .int .i8 0, .slice none 0 0, .slice none 0 0, .int .i32 0, .int .i64 0, .int .i8 0, .int .i32 0, .int .i64 0, .int .i8 0, .int .i8 0, .int .i8 0] 45)).heap.size (some ⟨w.heap.size, 0, none⟩) 2 (fun _ => nd9) := by
  intro j hj
  refine ⟨w.heap.size, 0, rfl, by simp, fun q v hq => ?_⟩
  rw [Kit.new_cell]
  have hq2 : q < 19 := (List.getElem?_eq_some_iff.1 hq).1
  rw [← hq]
  match j, hj, q, hq2 with
  | 0, _, 0, _ => rfl
  | 0, _, 1, _ => rfl
  | 0, _, 2, _ => rfl
  | 0, _, 3, _ => rfl
  | 0, _, 4, _ => rfl
  | 0, _, 5, _ => rfl
  | 0, _, 6, _ => rfl
  | 0, _, 7, _ => rfl
  | 0, _, 8, _ => rfl
  | 0, _, 9, _ => rfl
  | 0, _, 10, _ => rfl
  | 0, _, 11, _ => rfl
  | 0, _, 12, _ => rfl
  | 0, _, 13, _ => rfl
  | 0, _, 14, _ => rfl
  | 0, _, 15, _ => rfl
  | 0, _, 16, _ => rfl
  | 0, _, 17, _ => rfl
  | 0, _, 18, _ => rfl
  | 1, _, 0, _ => rfl
  | 1, _, 1, _ => rfl
  | 1, _, 2, _ => rfl
  | 1, _, 3, _ => rfl
  | 1, _, 4, _ => rfl
  | 1, _, 5, _ => rfl
  | 1, _, 6, _ => rfl
  | 1, _, 7, _ => rfl
  | 1, _, 8, _ => rfl
  | 1, _, 9, _ => rfl
  | 1, _, 10, _ => rfl
  | 1, _, 11, _ => rfl
  | 1, _, 12, _ => rfl
  | 1, _, 13, _ => rfl
  | 1, _, 14, _ => rfl
  | 1, _, 15, _ => rfl
  | 1, _, 16, _ => rfl
  | 1, _, 17, _ => rfl
  | 1, _, 18, _ => rfl
set_option maxHeartbeats 4000000 in
theorem known27 (w : World) : Calls Tryd.prog 5 #[] w fun e w' => e = .returned (.bool true) ∧ Below w.heap.size w w' := by
  have HN := Lib.hid (nodes_two w)
  have HB0 := Lib.hid ((Below.refl w.heap.size w).alloc (Nat.le_refl _) (.cells #[.int .i64 9, .int .i64 0, .int .i64 0, .int .i64 0, .int .i64 0, .int .i64 0, .int .i64 0, .int .i8 0, .int .i8 0, .slice none 0 0, .slice none 0 0, .int .i32 0, .int .i64 0, .int .i8 0, .int .i32 0, .int .i64 0, .int .i8 0, .int .i8 0, .int .i8 0, .int .i64 9, .int .i64 0, .int .i64 0, .int .i64 0, .int .i64 0, .int .i64 0, .int .i64 0, .int .i8 0, .int .i8 0, .slice none 0 0, .slice none 0 0, .int .i32 0, .int .i64 0, .int .i8 0, .int .i32 0, .int .i64 0, .int .i8 0, .int .i8 0, .int .i8 0] 45))
  go_enter Tryd.func5, Tryd.ntmps5
  go_wp2_with (first
    | (go_at_call 8
       refine (clast_to (fun _ => nd9) 2 _ (by omega) _ _ HN.out).mono ?_
       rintro e w1 ⟨A5, c5, rfl, hp, hb⟩
       rw [LK_last] at hp
       have HP := Lib.hid hp
       have HB1 := Lib.hid (HB0.out.trans (hb.mono HB0.out.size))
       clear hp hb)
    | (go_at_call 10
       refine (isame_to LK 3 (by omega) A5 _ c5 3 _ (HP.out.below ((Below.refl _ _).alloc (Nat.le_refl _) _)) (by rw [LK_row]; exact Kit.Rd.new _ _ _ (Nat.lt_succ_self _))).mono ?_
       rintro e w2 ⟨rfl, m, rfl⟩))
  go_ret
  exact ⟨rfl, Kit.below_drewN (HB1.out.alloc HB1.out.size _) _⟩
/-! ### what Shapes tells, in one form -/
def outL (X : Nat → Nd) (t0 : Tri) (n : Nat) : List Tri := match outS X t0 n with | some _ => [] | none => shL X t0 n
def outP (X : Nat → Nd) (t0 : Tri) (n : Nat) : Int := match outS X t0 n with | some r => r.1 | none => n
def outZ (X : Nat → Nd) (t0 : Tri) (n : Nat) : Int := match outS X t0 n with | some r => r.2 | none => 0
theorem shp_view {X : Nat → Nd} {t0 : Tri} {n : Nat} {w w' : World} {e : Ending} (h : ShpPost X t0 n w e w') : ∃ (A : Option Addr) (c : Nat), e = .returned (.tuple #[.slice A (outL X t0 n).length c, .int .i64 (outP X t0 n), .int .i64 (outZ X t0 n)]) ∧ Kit.Rd w' w'.heap.size A (tvV (outL X t0 n)) ∧ Below w.heap.size w w' := by
  obtain ⟨⟨k, z, h1, rfl⟩ | ⟨h1, v, rfl, ho⟩, hb⟩ := h
  · refine ⟨none, 0, ?_, ?_, hb⟩
    · unfold outL outP outZ; rw [h1]; rfl
    · unfold outL; rw [h1]; exact Kit.Rd.nil
  · obtain ⟨A, c, rfl, -, -, hr⟩ := Kit.own_rd ho
    refine ⟨A, c, ?_, ?_, hb⟩
    · unfold outL outP outZ; rw [h1]; simp [shL_len]
    · unfold outL; rw [h1]; exact hr
theorem outL_len (X : Nat → Nd) (t0 : Tri) (n : Nat) : (outL X t0 n).length ≤ n + 1 := by
  unfold outL
  split
  · simp
  · rw [shL_len]; exact Nat.le_refl _
end Go.Proofs.YtahekhpeomcfjaaDoor.CGraph
end
