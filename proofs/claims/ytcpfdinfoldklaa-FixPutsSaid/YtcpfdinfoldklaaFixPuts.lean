/- FixPuts: any sums are put into 8 bits by any scale as the document says, within any limits; the call returns true and leaves its arguments as they were. No condition. -/
import Derived.Test.YtcpfdinfoldklaaFixRefAll
namespace Go.Proofs.Ytcpfdinfoldklaa.lawFixPuts
open Go Go.ChangeShapes Go.WideShapes Go.ChangeAt Go.RowKit
open Plain CSat CFix
set_option linter.unusedVariables false

theorem isRight (m s z : Int) (w : World) :
    Calls Try.prog 32 #[.agg #[.int .i32 m, .int .i64 s, .int .i8 z]] w fun e w' => e = .returned (.bool (rightB m s)) ∧ Below w.heap.size w w' := by
  cases h : rightB m s
  · exact isRight_no m s z h w
  · exact isRight_yes m s z h w
theorem refRight (m s z : Int) (w : World) :
    Calls Try.prog 33 #[.agg #[.int .i32 m, .int .i64 s, .int .i8 z]] w fun e w' => e = .returned (.bool (rightB m s)) ∧ Below w.heap.size w w' := by
  cases h : rightB m s
  · exact refRight_no m s z h w
  · exact refRight_yes m s z h w

/-- a call that hands back a list, empty or not. -/
def Listed (w : World) (n : Nat) (zs : List Int) (e : Ending) (w' : World) : Prop :=
  ∃ A c, e = .returned (.slice A n c) ∧ Kit.Rd w' w'.heap.size A (zs.map (.int .i8)) ∧ Below w.heap.size w w'

theorem all_any (A : Option Addr) (zs : List Int) (c : Nat) (m s z lo hi : Int) (hlen : zs.length ≤ 1000000) (hzs : I32s zs) (hm1 : -2147483648 ≤ m) (hm2 : m ≤ 2147483647) (hz1 : -128 ≤ z) (hz2 : z ≤ 127)
    (hl1 : -128 ≤ lo) (hl2 : lo ≤ 127) (hh1 : -128 ≤ hi) (hh2 : hi ≤ 127) (n : Nat) (hn : n = (allZ zs m s z lo hi).length) (w : World) (hrd : Kit.Rd w w.heap.size A (zs.map (.int .i32))) :
    Calls Try.prog 35 #[.slice A zs.length c, .agg #[.int .i32 m, .int .i64 s, .int .i8 z], .int .i8 lo, .int .i8 hi] w (Listed w n (allZ zs m s z lo hi)) := by
  subst hn
  cases hr : rightB m s
  · refine (all_no A zs.length c m s z lo hi hr w).mono fun e w' ⟨he, hb⟩ => ?_
    have e0 : allZ zs m s z lo hi = [] := by unfold allZ; rw [hr]; rfl
    rw [e0]
    exact ⟨none, 0, he, Kit.Rd.nil, hb⟩
  · refine (all_yes A zs c m s z lo hi hr hlen hzs hm1 hm2 hz1 hz2 hl1 hl2 hh1 hh2 _ rfl w hrd).mono fun e w' ⟨v, he, ho, hb⟩ => ?_
    have e0 : allZ zs m s z lo hi = zs.map fun a => heldZ a m s z lo hi := by unfold allZ; rw [hr]; rfl
    rw [e0]
    obtain ⟨A', c', rfl, _, _, hr'⟩ := Kit.own_rd ho
    exact ⟨A', c', by rw [he]; simp, hr', hb⟩
theorem refAll_any (A : Option Addr) (zs : List Int) (c : Nat) (m s z lo hi : Int) (hlen : zs.length ≤ 1000000) (hzs : I32s zs) (hm1 : -2147483648 ≤ m) (hm2 : m ≤ 2147483647) (hz1 : -128 ≤ z) (hz2 : z ≤ 127)
    (hl1 : -128 ≤ lo) (hl2 : lo ≤ 127) (hh1 : -128 ≤ hi) (hh2 : hi ≤ 127) (n : Nat) (hn : n = (allZ zs m s z lo hi).length) (w : World) (hrd : Kit.Rd w w.heap.size A (zs.map (.int .i32))) :
    Calls Try.prog 36 #[.slice A zs.length c, .agg #[.int .i32 m, .int .i64 s, .int .i8 z], .int .i8 lo, .int .i8 hi] w (Listed w n (allZ zs m s z lo hi)) := by
  subst hn
  cases hr : rightB m s
  · refine (refAll_no A zs.length c m s z lo hi hlen hr w).mono fun e w' ⟨he, hb⟩ => ?_
    have e0 : allZ zs m s z lo hi = [] := by unfold allZ; rw [hr]; rfl
    rw [e0]
    exact ⟨none, 0, he, Kit.Rd.nil, hb⟩
  · refine (refAll_yes A zs c m s z lo hi hr hlen hzs hm1 hm2 hz1 hz2 hl1 hl2 hh1 hh2 _ rfl w hrd).mono fun e w' ⟨v, he, ho, hb⟩ => ?_
    have e0 : allZ zs m s z lo hi = zs.map fun a => heldZ a m s z lo hi := by unfold allZ; rw [hr]; rfl
    rw [e0]
    obtain ⟨A', c', rfl, _, _, hr'⟩ := Kit.own_rd ho
    exact ⟨A', c', by rw [he]; simp, hr', hb⟩

theorem held_bd (a m s z lo hi : Int) (hl1 : -128 ≤ lo) (hl2 : lo ≤ 127) (hh1 : -128 ≤ hi) (hh2 : hi ≤ 127) : -128 ≤ heldZ a m s z lo hi ∧ heldZ a m s z lo hi ≤ 127 := by
  unfold heldZ clampZ
  split
  · split
    · omega
    · split <;> omega
  · omega
theorem held_to (a m s z lo hi t : Int) (ht : heldZ a m s z lo hi = t) (ha1 : -2147483648 ≤ a) (ha2 : a ≤ 2147483647) (hm1 : -2147483648 ≤ m) (hm2 : m ≤ 2147483647) (hz1 : -128 ≤ z) (hz2 : z ≤ 127)
    (hl1 : -128 ≤ lo) (hl2 : lo ≤ 127) (hh1 : -128 ≤ hi) (hh2 : hi ≤ 127) (w : World) :
    Calls Try.prog 31 #[.int .i32 a, .agg #[.int .i32 m, .int .i64 s, .int .i8 z], .int .i8 lo, .int .i8 hi] w fun e w' => e = .returned (.int .i8 t) ∧ Below w.heap.size w w' := ht ▸ held a m s z lo hi ha1 ha2 hm1 hm2 hz1 hz2 hl1 hl2 hh1 hh2 w
theorem refHeld_t (a m s z lo hi t : Int) (ht : heldZ a m s z lo hi = t) (ha1 : -2147483648 ≤ a) (ha2 : a ≤ 2147483647) (hm1 : -2147483648 ≤ m) (hm2 : m ≤ 2147483647) (hz1 : -128 ≤ z) (hz2 : z ≤ 127)
    (hl1 : -128 ≤ lo) (hl2 : lo ≤ 127) (hh1 : -128 ≤ hi) (hh2 : hi ≤ 127) (w : World) :
    Calls Try.prog 30 #[.int .i32 a, .agg #[.int .i32 m, .int .i64 s, .int .i8 z], .int .i8 lo, .int .i8 hi] w fun e w' => e = .returned (.int .i8 t) ∧ Below w.heap.size w w' := ht ▸ refHeld a m s z lo hi ha1 ha2 hm1 hm2 hz1 hz2 hl1 hl2 hh1 hh2 w

set_option maxHeartbeats 2000000 in
theorem walk (A : Option Addr) (zs : List Int) (c : Nat) (hc : zs.length ≤ c) (hcm : c ≤ maxLen) (hw : ∀ n ∈ zs, (Lit.int .i32 n).wf = true) {w : World} (hr : Kit.Rd w w.heap.size A (zs.map (.int .i32)))
    (m : Int) (wm : (Lit.int .i32 m).wf = true) (s : Int) (ws : (Lit.int .i64 s).wf = true) (z : Int) (wz : (Lit.int .i8 z).wf = true) (lo : Int) (wl : (Lit.int .i8 lo).wf = true) (hi : Int) (wh : (Lit.int .i8 hi).wf = true) :
    Calls Try.prog 9 #[.slice A zs.length c, .agg #[.int .i32 m, .int .i64 s, .int .i8 z], .int .i8 lo, .int .i8 hi] w fun e w' => e = .returned (.bool true) ∧ Below w.heap.size w w' := by
  obtain ⟨hm1, hm2⟩ := i32_bd wm
  obtain ⟨qz1, qz2⟩ := i8_bd wz
  obtain ⟨hl1, hl2⟩ := i8_bd wl
  obtain ⟨hh1, hh2⟩ := i8_bd wh
  have hzs : I32s zs := fun z h => i32_bd (hw z h)
  unfold maxLen at hcm
  by_cases hlen : zs.length > 200
  · go_enter Try.func9, Try.ntmps9
    go_wp2_with (go_at_call 28; refine (CFix.known _).mono ?_; rintro e w' ⟨rfl, hb⟩)
    go_ret
    exact ⟨rfl, ((Below.refl w.heap.size w).alloc (Nat.le_refl _) _).trans (hb.mono (by simp))⟩
  · have hF : ∀ W' : World, Below (w.heap.size + 1) (w.alloc (.cells #[.int .i32 m, .int .i64 s, .int .i8 z] 43)) W' →
        W'.cell? ⟨w.heap.size, 0, none⟩ = some (.int .i32 m) ∧ W'.cell? ⟨w.heap.size, 1, none⟩ = some (.int .i64 s) ∧ W'.cell? ⟨w.heap.size, 2, none⟩ = some (.int .i8 z) ∧ Kit.Rd W' W'.heap.size A (zs.map (.int .i32)) := fun W' hb =>
      ⟨(hb.cell (p := ⟨w.heap.size, 0, none⟩) (by simp)).trans (Kit.new_cell _ _ _ _), (hb.cell (p := ⟨w.heap.size, 1, none⟩) (by simp)).trans (Kit.new_cell _ _ _ _), (hb.cell (p := ⟨w.heap.size, 2, none⟩) (by simp)).trans (Kit.new_cell _ _ _ _),
        ((hr.alloc (Nat.le_refl _) _).below (hb.mono (by omega))).more (by have := hb.size; simp at this; omega)⟩
    have HF := Lib.hid hF
    clear hF hr hw wm ws wz wl wh
    go_enter Try.func9, Try.ntmps9
    go_wp2_with fail
    go_loopw [9] (fun i wr => ∃ k : Nat, k ≤ zs.length ∧ i = .int .i64 k ∧ Hid (Below (w.heap.size + 1) (w.alloc (.cells #[.int .i32 m, .int .i64 s, .int .i8 z] 43)) wr)) (fun i _ => zs.length - (intOf i).toNat)
    case atStart => exact ⟨0, Nat.zero_le _, rfl, Lib.hid (Below.refl _ _)⟩
    case round =>
      obtain ⟨k, hk, rfl, HB0⟩ := hrel
      obtain ⟨c0, c1, c2, hrd⟩ := HF.out _ HB0.out
      have hz0 : w.heap.size + 1 ≤ wr.heap.size := by have := HB0.out.size; simpa using this
      by_cases hlt : k < zs.length
      · obtain ⟨b, off, rfl, hbw, hx⟩ := hrd.ints hlt
        obtain ⟨hx1, hx2⟩ := hzs zs[k] (List.getElem_mem hlt)
        have HRD := Lib.hid hrd
        clear hrd
        have hxs : zs[k]? = some zs[k] := List.getElem?_eq_getElem hlt
        generalize zs[k] = x at hx hx1 hx2 hxs
        have hG : ∀ W' : World, Below (w.heap.size + 1) (w.alloc (.cells #[.int .i32 m, .int .i64 s, .int .i8 z] 43)) W' →
            W'.cell? ⟨b, off + k, none⟩ = some (.int .i32 x) ∧ W'.cell? ⟨w.heap.size, 0, none⟩ = some (.int .i32 m) ∧ W'.cell? ⟨w.heap.size, 1, none⟩ = some (.int .i64 s) ∧ W'.cell? ⟨w.heap.size, 2, none⟩ = some (.int .i8 z) := fun W' hb => by
          obtain ⟨g0, g1, g2, g3⟩ := HF.out W' hb
          refine ⟨?_, g0, g1, g2⟩
          obtain ⟨b', off', e, _, hc⟩ := g3.plain (by simp; omega)
          cases e
          exact hc k _ (by simp [hxs])
        have HG := Lib.hid hG
        clear hG hxs
        obtain ⟨t, ht⟩ : ∃ t, heldZ x m s z (-128) 127 = t := ⟨_, rfl⟩
        obtain ⟨u, hu⟩ : ∃ u, heldZ x m s z lo hi = u := ⟨_, rfl⟩
        have HT := Lib.hid ht
        have HU := Lib.hid hu
        clear ht hu
        have n1 : (-128 : Int) ≤ -128 := by omega
        have n2 : (-128 : Int) ≤ 127 := by omega
        have n3 : (-128 : Int) ≤ 127 := by omega
        have n4 : (127 : Int) ≤ 127 := by omega
        have h0 : (0 : Int) ≤ (k : Int) := by omega
        have h1 : (k : Int) < (zs.length : Int) := by omega
        go_wp2_with fail
        go_region_held3 (fun w' => w'.cell? ⟨b, off + k, none⟩ = some (.int .i32 x) ∧ w'.cell? ⟨w.heap.size, 0, none⟩ = some (.int .i32 m) ∧ w'.cell? ⟨w.heap.size, 1, none⟩ = some (.int .i64 s) ∧ w'.cell? ⟨w.heap.size, 2, none⟩ = some (.int .i8 z)) (first | go_keep) ((first
          | (go_at_call 29; (with_reducible refine (put_to x m s z t hx1 hx2 hm1 hm2 qz1 qz2 HT.out _).mono ?_); rintro e w1 ⟨rfl, hb⟩; have hz1 : w.heap.size + 1 ≤ w1.heap.size := Nat.le_trans hz0 hb.size; have hB : Below (w.heap.size + 1) (w.alloc (.cells #[.int .i32 m, .int .i64 s, .int .i8 z] 43)) w1 := (by first | exact HB0.out.trans (hb.mono hz0) | exact HB0.out.drew.trans (hb.mono hz0)); obtain ⟨d0, d1, d2, d3⟩ := HG.out _ hB; have HB1 := Lib.hid hB; clear hB hb)
          | (go_at_call 30; (with_reducible refine (refHeld_t x m s z (-128) 127 t HT.out hx1 hx2 hm1 hm2 qz1 qz2 n1 n2 n3 n4 _).mono ?_); rintro e w2 ⟨rfl, hb⟩; have hz2 : w.heap.size + 1 ≤ w2.heap.size := Nat.le_trans hz1 hb.size; have hB : Below (w.heap.size + 1) (w.alloc (.cells #[.int .i32 m, .int .i64 s, .int .i8 z] 43)) w2 := (by first | exact HB1.out.trans (hb.mono hz1) | exact HB1.out.drew.trans (hb.mono hz1)); obtain ⟨e0, e1, e2, e3⟩ := HG.out _ hB; have HB2 := Lib.hid hB; clear hB hb)
          | (go_at_call 31; (with_reducible refine (held_to x m s z lo hi u HU.out hx1 hx2 hm1 hm2 qz1 qz2 hl1 hl2 hh1 hh2 _).mono ?_); rintro e w3 ⟨rfl, hb⟩; have hz3 : w.heap.size + 1 ≤ w3.heap.size := Nat.le_trans hz2 hb.size; have hB : Below (w.heap.size + 1) (w.alloc (.cells #[.int .i32 m, .int .i64 s, .int .i8 z] 43)) w3 := (by first | exact HB2.out.trans (hb.mono hz2) | exact HB2.out.drew.trans (hb.mono hz2)); obtain ⟨f0, f1, f2, f3⟩ := HG.out _ hB; have HB3 := Lib.hid hB; clear hB hb)
          | (go_at_call 30; (with_reducible refine (refHeld_t x m s z lo hi u HU.out hx1 hx2 hm1 hm2 qz1 qz2 hl1 hl2 hh1 hh2 _).mono ?_); rintro e w4 ⟨rfl, hb⟩; have hz4 : w.heap.size + 1 ≤ w4.heap.size := Nat.le_trans hz3 hb.size; have hB : Below (w.heap.size + 1) (w.alloc (.cells #[.int .i32 m, .int .i64 s, .int .i8 z] 43)) w4 := (by first | exact HB3.out.trans (hb.mono hz3) | exact HB3.out.drew.trans (hb.mono hz3)); obtain ⟨g0, g1, g2, g3⟩ := HG.out _ hB; have HB4 := Lib.hid hB; clear hB hb)))
        go_wp2
        exact ⟨⟨k + 1, by omega, by go_num, HB4⟩, by simp [intOf]; omega⟩
      · have HRD := Lib.hid hrd
        have hl6 : zs.length ≤ 1000000 := by omega
        obtain ⟨n, hn⟩ : ∃ n, n = (allZ zs m s z lo hi).length := ⟨_, rfl⟩
        have hn6 : n ≤ 1000000 := by
          rw [hn]; unfold allZ; split
          · simp; omega
          · simp
        have HN := Lib.hid hn
        clear hrd hn
        go_wp2_with fail
        go_region_held3 (fun w' => w'.cell? ⟨w.heap.size, 0, none⟩ = some (.int .i32 m) ∧ w'.cell? ⟨w.heap.size, 1, none⟩ = some (.int .i64 s) ∧ w'.cell? ⟨w.heap.size, 2, none⟩ = some (.int .i8 z)) (first | go_keep) ((first
          | (go_at_call 32; (with_reducible refine (isRight m s z _).mono ?_); rintro e w5 ⟨rfl, hb⟩; have hz5 : w.heap.size + 1 ≤ w5.heap.size := Nat.le_trans hz0 hb.size; have hB : Below (w.heap.size + 1) (w.alloc (.cells #[.int .i32 m, .int .i64 s, .int .i8 z] 43)) w5 := (by first | exact HB0.out.trans (hb.mono hz0) | exact HB0.out.drew.trans (hb.mono hz0)); obtain ⟨d50, d51, d52, rd5⟩ := HF.out _ hB; have HB5 := Lib.hid hB; have RD5 := Lib.hid rd5; clear hB hb rd5)
          | (go_at_call 33; (with_reducible refine (refRight m s z _).mono ?_); rintro e w6 ⟨rfl, hb⟩; have hz6 : w.heap.size + 1 ≤ w6.heap.size := Nat.le_trans hz5 hb.size; have hB : Below (w.heap.size + 1) (w.alloc (.cells #[.int .i32 m, .int .i64 s, .int .i8 z] 43)) w6 := (by first | exact HB5.out.trans (hb.mono hz5) | exact HB5.out.drew.trans (hb.mono hz5)); obtain ⟨d60, d61, d62, rd6⟩ := HF.out _ hB; have HB6 := Lib.hid hB; have RD6 := Lib.hid rd6; clear hB hb rd6)
          | (go_at_call 35; (with_reducible refine (all_any A zs c m s z lo hi hl6 hzs hm1 hm2 qz1 qz2 hl1 hl2 hh1 hh2 n HN.out _ RD6.out).mono ?_); rintro e w7 ⟨A7, c7, rfl, l7, hb⟩; have hz7 : w.heap.size + 1 ≤ w7.heap.size := Nat.le_trans hz6 hb.size; have hB : Below (w.heap.size + 1) (w.alloc (.cells #[.int .i32 m, .int .i64 s, .int .i8 z] 43)) w7 := (by first | exact HB6.out.trans (hb.mono hz6) | exact HB6.out.drew.trans (hb.mono hz6)); obtain ⟨d70, d71, d72, rd7⟩ := HF.out _ hB; have HB7 := Lib.hid hB; have RD7 := Lib.hid rd7; have L7 := Lib.hid l7; clear l7; clear hB hb rd7)
          | (go_at_call 36; (with_reducible refine (refAll_any A zs c m s z lo hi hl6 hzs hm1 hm2 qz1 qz2 hl1 hl2 hh1 hh2 n HN.out _ RD7.out).mono ?_); rintro e w8 ⟨A8, c8, rfl, l8, hb⟩; have hz8 : w.heap.size + 1 ≤ w8.heap.size := Nat.le_trans hz7 hb.size; have hB : Below (w.heap.size + 1) (w.alloc (.cells #[.int .i32 m, .int .i64 s, .int .i8 z] 43)) w8 := (by first | exact HB7.out.trans (hb.mono hz7) | exact HB7.out.drew.trans (hb.mono hz7)); obtain ⟨d80, d81, d82, rd8⟩ := HF.out _ hB; have HB8 := Lib.hid hB; have RD8 := Lib.hid rd8; have L8 := Lib.hid l8; have L7b := Lib.hid (L7.out.below hb); clear l8; clear hB hb rd8)
          | (go_at_call 34; (with_reducible refine (same_yes A7 A8 _ n c7 c8 HN.out hn6 _ L7b.out L8.out).mono ?_); rintro e w' ⟨rfl, nq, rfl⟩)
          | (go_at_call 28; refine (CFix.known _).mono ?_; rintro e w9 ⟨rfl, hb9⟩; have hB := (Kit.below_drewN HB8.out nq).trans (hb9.mono hz8); obtain ⟨d90, d91, d92, rd9⟩ := HF.out _ hB; have HB9 := Lib.hid hB; clear hB hb9 rd9)))
        go_wp2
        go_ret
        exact ⟨rfl, ((Below.refl w.heap.size w).alloc (Nat.le_refl _) _).trans (HB9.out.mono (by omega))⟩

/-! ### the frame: written by program -/
theorem own : ownKnob Try.prog.godebug = none := by kernel_rfl
theorem laid : laidOutB Try.prog = true := by kernel_rfl
theorem contract {H : Type} {enc : TypeId × Value → H} {W : World} {base : Nat} {args : Array Value} {ds gs : List (DataW H)} {before : List MemPlace}
    (hval0 : ∀ (j : Nat) t v, Try.f9.params[j]? = some t → args[j]? = some v → Value.okWide Try.prog W .any base t v)
    (hW : DataW.Whole enc Try.prog Try.f9.params.toList Rows.fixPutsSpec.vars false W args.toList ds gs before) :
    Calls Try.prog 9 args W fun e W' => e = .returned (.bool true) ∧ Below W.heap.size W W' := by
  have hval : ∀ (j : Nat) t v, Try.f9.params[j]? = some t → args[j]? = some v → Value.okWide Try.prog W .any base t v := hval0
  obtain ⟨p, q, hA0, hV, rfl, hfz, hnd⟩ := hW
  have hA : DataW.TrodAll enc Try.prog W 0 (fun _ => true) true Try.f9.params.toList args.toList ds p := hA0
  rw [Try.params9] at hA hval
  obtain ⟨v0, vs0, d0, ds0, p0, q0, hargs, rfl, rfl, h0, r0⟩ := trodAll_cons hA
  obtain ⟨v1, vs1, d1, ds1, p1, q1, rfl, rfl, rfl, h1, r1⟩ := trodAll_cons r0
  obtain ⟨v2, vs2, d2, ds2, p2, q2, rfl, rfl, rfl, h2, r2⟩ := trodAll_cons r1
  obtain ⟨v3, vs3, d3, ds3, p3, q3, rfl, rfl, rfl, h3, r3⟩ := trodAll_cons r2
  obtain ⟨rfl, rfl, rfl⟩ := trodAll_nil r3
  obtain rfl : args = #[v0, v1, v2, v3] := by cases args; simp_all
  clear hA0 hval0
  obtain ⟨A0, z0, c0, rfl, hc0, hm0, hw0, hr0⟩ := Kit.open_islice Try.underlying41 Try.underlying21 (by kernel_rfl) (hval 0 41 v0 rfl rfl) h0
  obtain ⟨cs1, rfl, hs1, hf1⟩ := Kit.open_flat Try.underlying43 (by kernel_rfl) (by kernel_rfl) (hval 1 43 v1 rfl rfl) h1
  obtain ⟨u1_0, u1_1, u1_2, rfl⟩ := Kit.size_3 hs1
  obtain ⟨a1_0, rfl, w1_0⟩ := Kit.flat_int Try.underlying21 (v := u1_0) rfl (hf1 0 _ rfl)
  obtain ⟨a1_1, rfl, w1_1⟩ := Kit.flat_int Try.underlying3 (v := u1_1) rfl (hf1 1 _ rfl)
  obtain ⟨a1_2, rfl, w1_2⟩ := Kit.flat_int Try.underlying22 (v := u1_2) rfl (hf1 2 _ rfl)
  obtain ⟨a2, rfl, rfl, rfl, w2⟩ := open_int Try.underlying22 (hval 2 22 v2 rfl rfl) h2
  obtain ⟨a3, rfl, rfl, rfl, w3⟩ := open_int Try.underlying22 (hval 3 22 v3 rfl rfl) h3
  exact walk (w := W) A0 z0 c0 hc0 hm0 hw0 hr0 a1_0 w1_0 a1_1 w1_1 a1_2 w1_2 a2 w2 a3 w3
theorem fnIs {H : Type} : ∀ ds : List (DataW H), ds.length = Try.f9.params.toList.length → Rows.fixPutsSpec.fn H ds = { results := [.lit (.bool true)], args := ds } := by
  intro ds h
  rw [Try.params9] at h
  match ds, h with
  | [d1, d2, d3, d4], _ => rfl
set_option maxRecDepth 100000 in
theorem lifted (os : Os) (started : os.Started) (H : Type) (enc : TypeId × Value → H) :
    ReturnsInHanded {} Try.checked os 9 .any (Rows.fixPutsSpec.pre6 enc Try.prog Try.f9 Rows.fixPutsRow.domain false) (Rows.fixPutsSpec.post enc Try.prog Try.f9 false true false false) := by
  refine returnsInHanded_of_change (C := Try.checked) own started (by kernel_rfl) Try.func9
    (ChangeSpec.witness6 (enc := enc) (C := Try.checked) false ⟨#[], #[.slice none 0 0, .agg #[.int .i32 0, .int .i64 0, .int .i8 0], .int .i8 0, .int .i8 0], []⟩ 8 (by kernel_rfl) (by kernel_rfl) (by kernel_rfl) (by kernel_rfl)) ?_
  intro W base args ds gs before hval hW _ _
  refine (contract hval hW).mono fun e W' ⟨he, hg⟩ => ?_
  subst he
  exact ⟨_, rfl, Kit.law_post (tb := 4) laid (by kernel_rfl) rfl (by kernel_rfl) Try.underlying4 fnIs hW hg⟩
theorem over : Rows.fixPutsRow.holds Try.pinned (OpenSpec.ofChange Rows.fixPutsSpec) :=
  OpenClaim.holds_of_wide 9 Try.f9 rfl rfl rfl rfl rfl rfl rfl ⟨rfl, rfl, rfl, rfl, rfl⟩ rfl rfl rfl rfl rfl (by kernel_rfl) Try.func9 (by kernel_rfl)
    (of_decide_eq_true (by kernel_rfl)) (by unfold Func.isWrapper; first | (rw [if_pos (by decide +kernel)]; kernel_rfl) | (rw [if_neg (by decide +kernel)]; exact ⟨rfl, rfl⟩))
    (fun os started H enc _ => lifted os started H enc)
/-- the statement. -/
theorem proved : Rows.FixPutsSaid :=
  over
end Go.Proofs.Ytcpfdinfoldklaa.lawFixPuts
