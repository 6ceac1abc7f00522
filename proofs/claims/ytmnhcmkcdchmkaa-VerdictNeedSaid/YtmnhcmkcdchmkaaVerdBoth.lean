/- Layer 30 (verdict): what an exit tells, code and document as one. Written by gen_verd3.py. -/
import Derived.Test.YtmnhcmkcdchmkaaVerdLookR
namespace Go.Proofs.Ytmnhcmkcdchmkaa.CVerd
open Go Go.ChangeShapes Go.WideShapes Go.ChangeAt Go.RowKit Go.Deep
open Plain CSat CShape CTensor CConv CDense
set_option linter.unusedVariables false
set_option maxRecDepth 100000

/-- an exit's answer: class, how far ahead, a row that is its own, whether it is enough, what is wrong. -/
def OutV (R M : Int) (n : Nat) (xs : List Int) (b : Bool) (er : Int) (w : World) (e : Ending) (w' : World) : Prop :=
  ∃ v, e = .returned (.tuple #[.agg #[.int .i64 R, .int .i64 M, v, .bool b], .int .i64 er]) ∧ w'.ownsRow w.heap.size 21 1 v n (I32v xs) ∧ Below w.heap.size w w'
theorem outV_nil {er : Int} {w : World} {e : Ending} {w' : World} (h : e = .returned (.tuple #[.agg #[.int .i64 0, .int .i64 0, .slice none 0 0, .bool false], .int .i64 er]) ∧ Below w.heap.size w w') : OutV 0 0 0 [] false er w e w' :=
  ⟨_, h.1, World.ownsRow_nil _ _ _ _, h.2⟩
def VerdAt (B : Nat) (R M : Int) (v : Value) (b : Bool) (wd : World) : Prop :=
  wd.cell? ⟨B, 0, none⟩ = some (.int .i64 R) ∧ wd.cell? ⟨B, 1, none⟩ = some (.int .i64 M) ∧ wd.cell? ⟨B, 2, none⟩ = some v ∧ wd.cell? ⟨B, 3, none⟩ = some (.bool b)
theorem verdNew (R M : Int) (v : Value) (b : Bool) (T : TypeId) (w : World) : VerdAt w.heap.size R M v b (w.alloc (.cells #[.int .i64 R, .int .i64 M, v, .bool b] T)) := ⟨Kit.new_cell _ _ _ _, Kit.new_cell _ _ _ _, Kit.new_cell _ _ _ _, Kit.new_cell _ _ _ _⟩
theorem VerdAt.below {B B' : Nat} {R M : Int} {v : Value} {b : Bool} {w w' : World} (h : VerdAt B R M v b w) (hB : B < B') (hb : Below B' w w') : VerdAt B R M v b w' :=
  ⟨(hb.cell (p := ⟨B, 0, none⟩) hB).trans h.1, (hb.cell (p := ⟨B, 1, none⟩) hB).trans h.2.1, (hb.cell (p := ⟨B, 2, none⟩) hB).trans h.2.2.1, (hb.cell (p := ⟨B, 3, none⟩) hB).trans h.2.2.2⟩
theorem look_both (H W C : Int) (A : Option Addr) (zs : List Int) (n c : Nat) (hn : zs.length = n) (hz : I8b zs) (WA BA : Option Addr) (nW cW nB cB : Nat) (D N : Int) (ws : List Int) (hws : ws.length = nW) (hwc : nW ≤ cW) (hwb : I8b ws) (bs : List Int) (hbs : bs.length = nB) (hb32 : ∀ q, -2147483648 ≤ bs.getD q 0 ∧ bs.getD q 0 ≤ 2147483647) (hD : D ≤ 2147483647) : ∃ (R M : Int) (b : Bool) (m : Nat) (xs : List Int) (er : Int), xs.length = m ∧ m ≤ 1000000 ∧
    (∀ w : World, Kit.Rd w w.heap.size A (I8s zs) → Kit.Rd w w.heap.size WA (I8s ws) → Kit.Rd w w.heap.size BA (I32v bs) → Calls Try.prog 7 #[.agg #[.int .i64 H, .int .i64 W, .int .i64 C, .slice A n c], .agg #[.slice WA nW cW, .slice BA nB cB, .int .i32 D], .int .i64 N] w (OutV R M m xs b er w)) ∧
    (∀ w : World, Kit.Rd w w.heap.size A (I8s zs) → Kit.Rd w w.heap.size WA (I8s ws) → Kit.Rd w w.heap.size BA (I32v bs) → Calls Try.prog 8 #[.agg #[.int .i64 H, .int .i64 W, .int .i64 C, .slice A n c], .agg #[.slice WA nW cW, .slice BA nB cB, .int .i32 D], .int .i64 N] w (OutV R M m xs b er w)) ∧
    (er ≠ 0 → m = 0) ∧ (er = 0 → tensB H W C n = true ∧ verdE H W C nW nB D N = 0 ∧ m = nB ∧ xs = rowL (lineF zs ws bs n 0) nB ∧ R = CRank.grF (lineF zs ws bs n 0) (-1) nB ∧ M = CRank.margF (lineF zs ws bs n 0) nB ∧ b = decide (D ≤ M)) := by
  cases ht : tensB H W C n
  · exact ⟨0, 0, false, 0, [], 5, rfl, by omega, fun w _ _ _ => (look_bad H W C A n c WA BA nW cW nB cB D N ht w).mono fun e w' h => outV_nil h,
      fun w _ _ _ => (rlook_bad H W C A n c WA BA nW cW nB cB D N ht w).mono fun e w' h => outV_nil h, fun _ => rfl, fun h => by omega⟩
  · obtain ⟨er, he⟩ : ∃ er, verdE H W C nW nB D N = er := ⟨_, rfl⟩
    by_cases hne : er = 0
    · subst hne
      obtain ⟨m1, m2, m3, m4, m5, m6⟩ := verd_num he ht
      exact ⟨_, _, _, nB, rowL (lineF zs ws bs n 0) nB, 0, rowL_len _ _, by omega,
        fun w r1 r2 r3 => look_yes H W C A zs n c hn ht hz WA BA nW cW nB cB D N ws hws hwc hwb bs hbs hb32 he hD _ (fun _ => rfl) _ _ rfl rfl _ rfl w r1 r2 r3,
        fun w r1 r2 r3 => rlook_yes H W C A zs n c hn ht hz WA BA nW cW nB cB D N ws hws hwc hwb bs hbs hb32 he hD _ (fun _ => rfl) _ _ rfl rfl _ rfl w r1 r2 r3, fun h => absurd rfl h, fun _ => ⟨rfl, he, rfl, rfl, rfl, rfl, rfl⟩⟩
    · exact ⟨0, 0, false, 0, [], er, rfl, by omega, fun w _ _ _ => (look_err H W C A n c WA BA nW cW nB cB D N ht er he hne w).mono fun e w' h => outV_nil h,
        fun w _ _ _ => (rlook_err H W C A n c WA BA nW cW nB cB D N ht er he hne w).mono fun e w' h => outV_nil h, fun _ => rfl, fun h => absurd h hne⟩
set_option maxHeartbeats 2000000 in
theorem vfew_yes (H W C : Int) (A : Option Addr) (n c : Nat) (WA BA : Option Addr) (nW cW nB cB : Nat) (D : Int) (hf : n ≤ 1024 ∧ nW ≤ 4000 ∧ nB ≤ 100) (w : World) :
    Calls Try.prog 5 #[.agg #[.int .i64 H, .int .i64 W, .int .i64 C, .slice A n c], .agg #[.slice WA nW cW, .slice BA nB cB, .int .i32 D]] w fun e w' => e = .returned (.bool true) ∧ Below w.heap.size w w' := by
  obtain ⟨h1, h2, h3⟩ := hf
  have d1 : decide (n ≤ 1024) = true := by simp [h1]
  have d2 : decide (nW ≤ 4000) = true := by simp [h2]
  have d3 : decide (nB ≤ 100) = true := by simp [h3]
  go_enter Try.func5, Try.ntmps5
  go_wp2_with fail
  go_ret
  exact ⟨by first | rfl | (simp; omega), by go_grown⟩
set_option maxHeartbeats 2000000 in
theorem vfew_no (H W C : Int) (A : Option Addr) (n c : Nat) (WA BA : Option Addr) (nW cW nB cB : Nat) (D : Int) (hf : ¬ (n ≤ 1024 ∧ nW ≤ 4000 ∧ nB ≤ 100)) (w : World) :
    Calls Try.prog 5 #[.agg #[.int .i64 H, .int .i64 W, .int .i64 C, .slice A n c], .agg #[.slice WA nW cW, .slice BA nB cB, .int .i32 D]] w fun e w' => e = .returned (.bool false) ∧ Below w.heap.size w w' := by
  rcases (show 1024 < n ∨ (n ≤ 1024 ∧ 4000 < nW) ∨ (n ≤ 1024 ∧ nW ≤ 4000 ∧ 100 < nB) by omega) with h1 | ⟨h1, h2⟩ | ⟨h1, h2, h3⟩
  all_goals
    go_enter Try.func5, Try.ntmps5
    go_wp2_with fail
    go_ret
    exact ⟨by first | rfl | (simp; omega), by go_grown⟩
theorem look_known (A WA BA : Option Addr) (w : World) (r1 : Kit.Rd w w.heap.size A (I8s [2])) (r2 : Kit.Rd w w.heap.size WA (I8s [3, -1])) (r3 : Kit.Rd w w.heap.size BA (I32v [0, 0])) :
    Calls Try.prog 7 #[.agg #[.int .i64 1, .int .i64 1, .int .i64 1, .slice A 1 1], .agg #[.slice WA 2 2, .slice BA 2 2, .int .i32 8], .int .i64 2] w (MadeV w 0 8 2 [6, -2] true) := by
  have h := look_yes 1 1 1 A [2] 1 1 rfl (by decide) (fun q => by rcases q with _ | q <;> simp) WA BA 2 2 2 2 8 2 [3, -1] rfl (by omega) (fun q => by rcases q with _ | _ | q <;> simp) [0, 0] rfl (fun q => by rcases q with _ | _ | q <;> simp) (by decide) (by omega) (fun o => lineF [2] [3, -1] [0, 0] 1 0 o) (fun _ => rfl) 0 8 (by decide) (by decide) true (by decide) w r1 r2 r3
  have e : rowL (fun o => lineF [2] [3, -1] [0, 0] 1 0 o) 2 = [6, -2] := by decide
  rw [e] at h
  exact h
set_option maxHeartbeats 2000000 in
theorem known30 (w : World) : Calls Try.prog 6 #[] w fun e w' => e = .returned (.bool true) ∧ Below w.heap.size w w' := by
  go_enter Try.func6, Try.ntmps6
  go_wp2_with fail
  go_at_call 7
  obtain ⟨W1, hW1⟩ : ∃ W1, w.alloc (.cells #[.int .i8 2] 46) = W1 := ⟨_, rfl⟩
  have b1 : Below w.heap.size w W1 := by rw [← hW1]; exact (Below.refl _ _).alloc (Nat.le_refl _) _
  have s1 : W1.heap.size = w.heap.size + 1 := by rw [← hW1]; simp
  have r1 : Kit.Rd W1 W1.heap.size (some ⟨w.heap.size, 0, none⟩) (I8s [2]) := by rw [← hW1]; exact (Kit.Rd.new w [.int .i8 2] 46 (Nat.lt_succ_self _)).more (by simp)
  rw [hW1]
  obtain ⟨W2, hW2⟩ : ∃ W2, W1.alloc (.cells #[.int .i8 3, .int .i8 (-1)] 46) = W2 := ⟨_, rfl⟩
  have b2 : Below W1.heap.size W1 W2 := by rw [← hW2]; exact (Below.refl _ _).alloc (Nat.le_refl _) _
  have s2 : W2.heap.size = W1.heap.size + 1 := by rw [← hW2]; simp
  have r2 : Kit.Rd W2 W2.heap.size (some ⟨W1.heap.size, 0, none⟩) (I8s [3, -1]) := by rw [← hW2]; exact (Kit.Rd.new W1 [.int .i8 3, .int .i8 (-1)] 46 (Nat.lt_succ_self _)).more (by simp)
  rw [hW2]
  obtain ⟨W3, hW3⟩ : ∃ W3, W2.alloc (.cells #[.int .i32 0, .int .i32 0] 21) = W3 := ⟨_, rfl⟩
  have b3 : Below W2.heap.size W2 W3 := by rw [← hW3]; exact (Below.refl _ _).alloc (Nat.le_refl _) _
  have s3 : W3.heap.size = W2.heap.size + 1 := by rw [← hW3]; simp
  have r3 : Kit.Rd W3 W3.heap.size (some ⟨W2.heap.size, 0, none⟩) (I32v [0, 0]) := by rw [← hW3]; exact (Kit.Rd.new W2 [.int .i32 0, .int .i32 0] 21 (Nat.lt_succ_self _)).more (by simp)
  rw [hW3]
  rw [s2, s1] at r3
  rw [s1] at r2
  have R1 := Lib.hid ((((r1.below b2).more b2.size).below b3).more b3.size)
  have R2 := Lib.hid ((r2.below b3).more b3.size)
  have R3 := Lib.hid r3
  have HB := Lib.hid (b1.trans ((b2.trans (b3.mono b2.size)).mono b1.size))
  clear r1 r2 r3 b1 b2 b3 s1 s2 s3 hW1 hW2 hW3
  refine (look_known _ _ _ W3 R1.out R2.out R3.out).mono ?_
  rintro e w1 ⟨v1, rfl, ho1, hb1⟩
  obtain ⟨A1, c1, rfl, -, -, hrd⟩ := Kit.own_rd ho1
  have RA := Lib.hid hrd
  replace HB := Lib.hid (HB.out.trans (hb1.mono HB.out.size))
  clear ho1 hb1 hrd R1 R2 R3
  go_upto_region 2 with fail
  have q := verdNew 0 8 (.slice A1 2 c1) true 33 w1
  have hal : Below w1.heap.size w1 (w1.alloc (.cells #[.int .i64 0, .int .i64 8, .slice A1 2 c1, .bool true] 33)) := (Below.refl _ _).alloc (Nat.le_refl _) _
  replace RA := Lib.hid ((RA.out.below hal).more hal.size)
  replace HB := Lib.hid (HB.out.trans (hal.mono HB.out.size))
  clear hal
  generalize w1.alloc (.cells #[.int .i64 0, .int .i64 8, .slice A1 2 c1, .bool true] 33) = w2 at q RA HB ⊢
  obtain ⟨q0, q1, q2, q3⟩ := q
  go_wp2_with fail
  go_at_call 9
  have RN := Lib.hid (Kit.Rd.new w2 [.int .i32 6, .int .i32 (-2)] 21 (Nat.lt_succ_self _))
  refine (fsame32_yes A1 _ [6, -2] 2 c1 2 rfl (by omega) _ (RA.out.alloc (Nat.le_refl _) _) RN.out).mono ?_
  rintro e w3 ⟨rfl, m, rfl⟩
  go_wp2_with fail
  go_ret
  exact ⟨rfl, Kit.below_drewN (HB.out.alloc HB.out.size _) m⟩
end Go.Proofs.Ytmnhcmkcdchmkaa.CVerd
