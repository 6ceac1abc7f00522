/- Layer 21 (act): sums become numbers: code and document. -/
import Derived.Test.YtpokeklphmfcnaaActPut
import Derived.Test.YtpokeklphmfcnaaActRefPut
import Derived.Test.YtpokeklphmfcnaaActBoth
import Derived.Laws.MakeOwn
import Derived.Deep.CutRange
namespace Go.Proofs.Ytpokeklphmfcnaa.CAct
open Go Go.ChangeShapes Go.WideShapes Go.ChangeAt Go.RowKit Go.Deep
open Plain CSat CFix CShape CTensor CConv
set_option linter.unusedVariables false

theorem actPut_all (H W C : Int) (A : Option Addr) (n c : Nat) (zs : List Int) (hz : zs.length = n) (bz : I32s zs) (hn6 : n ≤ 1000000) (x0 x1 x2 : Value) (K S P O Z Y : Int) (WA BA : Option Addr) (nW cW nB cB : Nat) (m1 s1 z1 m2 s2 z2 lo hi : Int) (hnb : NBd Z Y m1 z1 m2 z2 lo hi) :
    ∃ (X V U : Int) (k : Nat) (xs : List Int) (er : Int), xs.length = k ∧ k ≤ 1000000 ∧
      (∀ w : World, Kit.Rd w w.heap.size A (I32v zs) → Calls Try.prog 16 #[.agg #[.int .i64 H, .int .i64 W, .int .i64 C, .slice A n c], .agg #[x0, x1, x2, .int .i64 K, .int .i64 S, .int .i64 P, .int .i64 O, .int .i8 Z, .int .i8 Y, .slice WA nW cW, .slice BA nB cB, .int .i32 m1, .int .i64 s1, .int .i8 z1, .int .i32 m2, .int .i64 s2, .int .i8 z2, .int .i8 lo, .int .i8 hi]] w (MadeT w X V U k xs (.int .i64 er))) ∧
      (∀ w : World, Kit.Rd w w.heap.size A (I32v zs) → Calls Try.prog 17 #[.agg #[.int .i64 H, .int .i64 W, .int .i64 C, .slice A n c], .agg #[x0, x1, x2, .int .i64 K, .int .i64 S, .int .i64 P, .int .i64 O, .int .i8 Z, .int .i8 Y, .slice WA nW cW, .slice BA nB cB, .int .i32 m1, .int .i64 s1, .int .i8 z1, .int .i32 m2, .int .i64 s2, .int .i8 z2, .int .i8 lo, .int .i8 hi]] w (MadeT w X V U k xs (.int .i64 er))) := by
  by_cases hE : elemsZ H W C = 0
  · have hs : shapeB H W C = false := by
      cases h : shapeB H W C
      · rfl
      · obtain ⟨a1, a2, a3, a4, a5, a6, a7⟩ := shapeB_yes h
        have := prod_bd a1 a2 a3 a4 a5 a6
        rw [elemsZ_yes h] at hE
        omega
    exact ⟨0, 0, 0, 0, [], 5, rfl, by omega, fun w _ => aput_bad H W C A n c x0 x1 x2 K S P O Z Y WA BA nW cW nB cB m1 s1 z1 m2 s2 z2 lo hi (tensB_shape hs) w, fun w _ => rput_none H W C A n c x0 x1 x2 K S P O Z Y WA BA nW cW nB cB m1 s1 z1 m2 s2 z2 lo hi _ rfl hE w⟩
  · have hs : shapeB H W C = true := by
      cases h : shapeB H W C
      · exact absurd (elemsZ_no h) hE
      · rfl
    have hEv := elemsZ_yes hs
    by_cases hn : elemsZ H W C = (n : Int)
    · have ht : tensB H W C n = true := by
        unfold tensB; rw [hs, ← hEv]; simp [hn]
      cases hq : rightB m1 s1
      · exact ⟨0, 0, 0, 0, [], 7, rfl, by omega, fun w _ => aput_quant H W C A n c x0 x1 x2 K S P O Z Y WA BA nW cW nB cB m1 s1 z1 m2 s2 z2 lo hi ht hq w, fun w _ => rput_quant H W C A n c x0 x1 x2 K S P O Z Y WA BA nW cW nB cB m1 s1 z1 m2 s2 z2 lo hi _ rfl hE hn hq w⟩
      · exact ⟨H, W, C, n, (zs.map fun a => heldZ a m1 s1 z1 lo hi), 0, by simp [hz], hn6, fun w hr => aput_yes H W C A zs n c hz hn6 bz x0 x1 x2 K S P O Z Y WA BA nW cW nB cB m1 s1 z1 m2 s2 z2 lo hi hnb ht hq w hr,
          fun w hr => rput_yes H W C A zs n c hz hn6 bz x0 x1 x2 K S P O Z Y WA BA nW cW nB cB m1 s1 z1 m2 s2 z2 lo hi hnb _ rfl hE hn hq w hr⟩
    · have ht : tensB H W C n = false := by
        unfold tensB; rw [hs, ← hEv]; simp; omega
      exact ⟨0, 0, 0, 0, [], 5, rfl, by omega, fun w _ => aput_bad H W C A n c x0 x1 x2 K S P O Z Y WA BA nW cW nB cB m1 s1 z1 m2 s2 z2 lo hi ht w, fun w _ => rput_other H W C A n c x0 x1 x2 K S P O Z Y WA BA nW cW nB cB m1 s1 z1 m2 s2 z2 lo hi _ rfl hE hn w⟩
theorem i32s_of {zs : List Int} (h : ∀ n ∈ zs, (Lit.int .i32 n).wf = true) : I32s zs := fun z hz => by
  simpa [Lit.wf, IntKind.min, IntKind.max, IntKind.signed, IntKind.bits] using h z hz
end Go.Proofs.Ytpokeklphmfcnaa.CAct
