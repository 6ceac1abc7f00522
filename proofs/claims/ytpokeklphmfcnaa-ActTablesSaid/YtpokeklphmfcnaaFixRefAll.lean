/- Contracts of the document's own list of layer 2, and of its comparison. -/
import Derived.Test.YtpokeklphmfcnaaFixAll
namespace Go.Proofs.Ytpokeklphmfcnaa.CFix
open Go Go.ChangeShapes Go.WideShapes Go.ChangeAt Go.RowKit
open Plain CSat
set_option linter.unusedVariables false

theorem refAll_yes (A : Option Addr) (zs : List Int) (c : Nat) (m s z lo hi : Int) (hr : rightB m s = true) (hlen : zs.length ≤ 1000000) (hzs : I32s zs) (hm1 : -2147483648 ≤ m) (hm2 : m ≤ 2147483647) (hz1 : -128 ≤ z) (hz2 : z ≤ 127)
    (hl1 : -128 ≤ lo) (hl2 : lo ≤ 127) (hh1 : -128 ≤ hi) (hh2 : hi ≤ 127) (L : List Value) (hL : L = (zs.map fun a => heldZ a m s z lo hi).map (Value.int .i8)) (w : World) (hrd : Kit.Rd w w.heap.size A (zs.map (.int .i32))) :
    Calls Try.prog 28 #[.slice A zs.length c, .agg #[.int .i32 m, .int .i64 s, .int .i8 z], .int .i8 lo, .int .i8 hi] w
      (Owned w 27 1 zs.length L) := by
  have hLl : L.length = zs.length := by rw [hL]; simp
  have HL := Lib.hid hL
  have HLL := Lib.hid hLl
  have HR := Lib.hid hr
  have HRD := Lib.hid hrd
  clear hr hL hLl hrd
  go_enter Try.func28, Try.ntmps28
  obtain ⟨i0, hi0, hi1, hi2, hi3⟩ := info_parts info8
  have hF : ∀ (k : Nat) (W : World), k < zs.length → Below (w.heap.size + 1) (w.alloc (.cells #[.int .i32 m, .int .i64 s, .int .i8 z] 30)) W →
      ∃ b off, A = some ⟨b, off, none⟩ ∧ ∀ W' : World, Below (w.heap.size + 1) (w.alloc (.cells #[.int .i32 m, .int .i64 s, .int .i8 z] 30)) W' →
        (∀ x, zs[k]? = some x → W'.cell? ⟨b, off + k, none⟩ = some (.int .i32 x)) ∧ W'.cell? ⟨w.heap.size, 0, none⟩ = some (.int .i32 m) ∧ W'.cell? ⟨w.heap.size, 1, none⟩ = some (.int .i64 s) ∧ W'.cell? ⟨w.heap.size, 2, none⟩ = some (.int .i8 z) := by
    intro k W hlt hW
    obtain ⟨b, off, hA, hbw, hx⟩ := HRD.out.ints hlt
    refine ⟨b, off, hA, fun W' hb => ⟨fun x hx1 => ?_, (hb.cell (p := ⟨w.heap.size, 0, none⟩) (by simp)).trans (Kit.new_cell _ _ _ _), (hb.cell (p := ⟨w.heap.size, 1, none⟩) (by simp)).trans (Kit.new_cell _ _ _ _), (hb.cell (p := ⟨w.heap.size, 2, none⟩) (by simp)).trans (Kit.new_cell _ _ _ _)⟩⟩
    rw [List.getElem?_eq_getElem hlt] at hx1
    cases hx1
    rw [hb.cell (p := ⟨b, off + k, none⟩) (by simp; omega), World.cell?_alloc_lt _ _ _ hbw]; exact hx
  have HF := Lib.hid hF
  clear hF
  go_wp2_with fail
  go_loopw [9, 10] (fun o i wr => ∃ k : Nat, k ≤ zs.length ∧ i = .int .i64 k ∧ Hid (wr.ownsRow (w.heap.size + 1) 27 1 o k (L.take k)) ∧ Hid (Below (w.heap.size + 1) (w.alloc (.cells #[.int .i32 m, .int .i64 s, .int .i8 z] 30)) wr)) (fun _ i _ => zs.length - (intOf i).toNat)
  case atStart => exact ⟨0, Nat.zero_le _, rfl, Lib.hid ⟨by simp, .inl ⟨rfl, rfl⟩⟩, Lib.hid (Below.refl _ _)⟩
  case round =>
    obtain ⟨k, hk, rfl, hown1, hb1⟩ := hrel
    by_cases hlt : k < zs.length
    · obtain ⟨b, off, rfl, hF⟩ := HF.out k wr hlt hb1.out
      obtain ⟨hx1, hx2⟩ := hzs zs[k] (List.getElem_mem hlt)
      obtain ⟨x, hx⟩ : ∃ x, zs[k] = x := ⟨_, rfl⟩
      have hx' : zs[k]? = some x := by rw [List.getElem?_eq_getElem hlt, hx]
      rw [hx] at hx1 hx2
      have HX := Lib.hid hx'
      have hF2 := fun W' hW => (⟨(hF W' hW).1 x hx', (hF W' hW).2⟩ : W'.cell? ⟨b, off + k, none⟩ = some (.int .i32 x) ∧ W'.cell? ⟨w.heap.size, 0, none⟩ = some (.int .i32 m) ∧ W'.cell? ⟨w.heap.size, 1, none⟩ = some (.int .i64 s) ∧ W'.cell? ⟨w.heap.size, 2, none⟩ = some (.int .i8 z))
      obtain ⟨c0, c1, c2, c3⟩ := hF2 wr hb1.out
      have hszt : w.heap.size + 1 ≤ wr.heap.size := by have := hb1.out.size; simpa using this
      have HF2 := Lib.hid hF2
      clear hx hx' hF hF2
      go_wp2_with (go_at_call 11; refine (refRight_yes _ _ _ HR.out _).mono ?_; rintro e w3 ⟨rfl, hb3⟩; have hs3 : wr.heap.size ≤ w3.heap.size := hb3.size; have hB3 := hb1.out.trans (hb3.mono hszt); obtain ⟨d0, d1, d2, d3⟩ := HF2.out _ hB3; have HB3 := Lib.hid hB3; have HO3 := Lib.hid (Kit.own_below hown1.out hb3); clear hB3 hb3 c0 c1 c2 c3)
      go_region_held3 (fun w' => w'.cell? ⟨b, off + k, none⟩ = some (.int .i32 x) ∧ w'.cell? ⟨w.heap.size, 0, none⟩ = some (.int .i32 m) ∧ w'.cell? ⟨w.heap.size, 1, none⟩ = some (.int .i64 s) ∧ w'.cell? ⟨w.heap.size, 2, none⟩ = some (.int .i8 z)) (first | go_keep) ((first
        | (refine Kit.step_append_rd _ rfl (.tmp 21) (.tmp 30) _ rfl (w.heap.size + 1) 27 i0 (.int .i8 0) 1 1 Try.underlying24 hi0 hi1 hi2 hi3 rfl (by decide) u9 k (L.take k) rfl (HO4.out.alloc _) (w4.heap.size + 1) (some ⟨w4.heap.size, 0, none⟩) 1 1 [.int .i8 (heldZ x m s z lo hi)] rfl rfl (Kit.Rd.new _ _ _ (by omega)) (Kit.ints_one .i8 [heldZ x m s z lo hi]) (by unfold maxLen; omega) (by omega) (by simp; omega) ?_; intro v5 w5 hown5 hg5 _; have hs5 : w4.heap.size ≤ w5.heap.size := Nat.le_trans (by simp) hg5.size; have hB5 := (HB4.out.alloc (Nat.le_trans (Nat.le_trans hszt hs3) hs4) _).grown hg5 (by simp; omega) (Kit.own_block_ge HO4.out); obtain ⟨f0, f1, f2, f3⟩ := HF2.out _ hB5; have HB5 := Lib.hid hB5; have HO5 := Lib.hid hown5; clear hB5 hown5 hg5 e0 e1 e2 e3)
        | (go_at_call 22; refine (refHeldQ _ _ _ _ _ _ hx1 hx2 hm1 hm2 hz1 hz2 hl1 hl2 hh1 hh2 _).mono ?_; rintro e w4 ⟨rfl, hb4⟩; have hs4 : w3.heap.size ≤ w4.heap.size := hb4.size; have hB4 := HB3.out.drew.trans (hb4.mono (Nat.le_trans hszt hs3)); obtain ⟨e0, e1, e2, e3⟩ := HF2.out _ hB4; have HB4 := Lib.hid hB4; have HO4 := Lib.hid (Kit.own_below HO3.out ((Below.refl _ _).drew.trans hb4)); clear hB4 hb4 d0 d1 d2 d3)))
      have hnext : w5.ownsRow (w.heap.size + 1) 27 1 v5 (k + 1) (L.take (k + 1)) := by
        have hkl : k < L.length := by rw [HLL.out]; exact hlt
        have hv : L[k] = Value.int .i8 (heldZ x m s z lo hi) := by
          have hLo := HL.out
          subst hLo
          have := HX.out
          rw [List.getElem?_eq_getElem hlt] at this
          cases this
          simp
        rw [List.take_succ_eq_append_getElem hkl, hv]
        exact HO5.out
      have HN := Lib.hid hnext
      clear hnext
      go_wp2
      go_roundw
      case rel => exact ⟨k + 1, by omega, by go_num, HN, HB5⟩
      case measure => simp [intOf]; omega
    · have hke : k = zs.length := by omega
      have hfin : wr.ownsRow (w.heap.size + 1) 27 1 u9 zs.length L := by
        have := hown1.out
        rw [List.take_of_length_le (by rw [HLL.out]; omega), hke] at this
        exact this
      have HFI := Lib.hid hfin
      clear hke hfin
      go_wp2_with fail
      go_ret
      exact ⟨_, rfl, Kit.own_base HFI.out (by omega), ((Below.refl w.heap.size w).alloc (Nat.le_refl _) _).trans (hb1.out.mono (by omega))⟩

theorem refAll_no (A : Option Addr) (n c : Nat) (m s z lo hi : Int) (hn : n ≤ 1000000) (hr : rightB m s = false) (w : World) :
    Calls Try.prog 28 #[.slice A n c, .agg #[.int .i32 m, .int .i64 s, .int .i8 z], .int .i8 lo, .int .i8 hi] w fun e w' => e = .returned (.slice none 0 0) ∧ Below w.heap.size w w' := by
  have HR := Lib.hid hr
  clear hr
  by_cases h0 : 0 < n
  all_goals
    go_enter Try.func28, Try.ntmps28
    go_wp2_with fail
    go_loopw [9, 10] (fun o i wr => i = .int .i64 0 ∧ o = .slice none 0 0 ∧ Hid (wr = (w.alloc (.cells #[.int .i32 m, .int .i64 s, .int .i8 z] 30)))) (fun _ i _ => 0)
    case atStart => exact ⟨rfl, rfl, Lib.hid rfl⟩
    case round =>
      obtain ⟨rfl, rfl, hw⟩ := hrel
      obtain rfl := hw.out
      clear hw
      go_wp2_with (go_at_call 11; refine (refRight_no _ _ _ HR.out _).mono ?_; rintro e w3 ⟨rfl, hb3⟩)
      all_goals go_ret
      all_goals exact ⟨rfl, by first | exact ((Below.refl w.heap.size w).alloc (Nat.le_refl _) _).trans (hb3.mono (by simp)) | exact (Below.refl w.heap.size w).alloc (Nat.le_refl _) _⟩

end Go.Proofs.Ytpokeklphmfcnaa.CFix
