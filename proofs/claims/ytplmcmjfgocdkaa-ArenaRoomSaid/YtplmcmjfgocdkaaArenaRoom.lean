/- ArenaRoom: what is placed is sound, and needs no less than the peak, and no more than all sizes together; the call returns true and leaves its arguments as they were. No condition. -/
import Derived.Test.YtplmcmjfgocdkaaArenaKnown
import Derived.Deep.CutRange
namespace Go.Proofs.Ytplmcmjfgocdkaa.lawArenaRoom
open Go Go.ChangeShapes Go.WideShapes Go.ChangeAt Go.RowKit Go.Deep
open Plain CArena
set_option linter.unusedVariables false

set_option maxRecDepth 100000 in
set_option maxHeartbeats 8000000 in
theorem walk_n {w : World} (A A' : Option Addr) (n c m c' : Nat) (h : ¬ n ≤ 24) :
    Calls Try.prog 5 #[.slice A n c, .slice A' m c'] w fun e w' => e = .returned (.bool true) ∧ Below w.heap.size w w' := by
  have h1 : (n : Int) > 24 := by omega
  go_enter Try.func5, Try.ntmps5
  go_wp2_with (go_at_call 6; (refine (known28 _).mono ?_); rintro e w9 ⟨rfl, hb9⟩)
  go_ret
  exact ⟨rfl, hb9⟩
set_option maxRecDepth 100000 in
set_option maxHeartbeats 8000000 in
theorem walk_m {w : World} (A A' : Option Addr) (n c m c' : Nat) (h0 : n ≤ 24) (h : ¬ m ≤ 24) :
    Calls Try.prog 5 #[.slice A n c, .slice A' m c'] w fun e w' => e = .returned (.bool true) ∧ Below w.heap.size w w' := by
  have h2 : ¬ (n : Int) > 24 := by omega
  have h1 : (m : Int) > 24 := by omega
  go_enter Try.func5, Try.ntmps5
  go_wp2_with (go_at_call 6; (refine (known28 _).mono ?_); rintro e w9 ⟨rfl, hb9⟩)
  go_ret
  exact ⟨rfl, hb9⟩
set_option maxRecDepth 100000 in
set_option maxHeartbeats 8000000 in
theorem walk_no {w : World} (S U : Nat → Int) (A A' : Option Addr) (n c m c' : Nat) (h0 : n ≤ 24) (h1 : m ≤ 24) (hr : Kit.Rd w w.heap.size A (rowV S n)) (hr' : Kit.Rd w w.heap.size A' (rowV U m)) (hno : rightB S n m = false) :
    Calls Try.prog 5 #[.slice A n c, .slice A' m c'] w fun e w' => e = .returned (.bool true) ∧ Below w.heap.size w w' := by
  have HR := Lib.hid hr
  have HS := Lib.hid hr'
  have HNO := Lib.hid hno
  have h2 : ¬ (n : Int) > 24 := by omega
  have h3 : ¬ (m : Int) > 24 := by omega
  clear hr hr' hno
  go_enter Try.func5, Try.ntmps5
  go_wp2_with (first
    | (go_at_call 8
       have hal : Below w.heap.size w w := Below.refl _ _
       refine (may_b S n c m c' false (by omega) HNO.out A A' _ HR.out).mono ?_
       rintro e w2 ⟨rfl, hb⟩
       have hh : Below w.heap.size w w2 := hal.trans (hb.mono hal.size)
       replace HR := Lib.hid ((HR.out.below hh).more hh.size)
       replace HS := Lib.hid ((HS.out.below hh).more hh.size)
       have HBW : Hid (Below w.heap.size w w2) := Lib.hid hh
       clear hb hh hal)
    | (go_at_call 6
       have hal : Below w2.heap.size w2 w2 := Below.refl _ _
       refine (known28 _).mono ?_
       rintro e w4 ⟨rfl, hb⟩
       have hh : Below w2.heap.size w2 w4 := hal.trans (hb.mono hal.size)
       replace HR := Lib.hid ((HR.out.below hh).more hh.size)
       replace HS := Lib.hid ((HS.out.below hh).more hh.size)
       replace HBW := Lib.hid (HBW.out.trans (hh.mono HBW.out.size))
       clear hb hh hal))
  go_ret
  exact ⟨rfl, HBW.out⟩
theorem sound_plc {S U : Nat → Int} {n : Nat} (h0 : n ≤ 24) (hyes : ∀ k, k < n → 0 ≤ S k ∧ S k ≤ 1048576) : soundB S U (plc S U) n n n = true := by
  have h1 : inN (plc S U) 1099511627776 n = true := inN_iff.2 fun k hk => by
    have := plc_bound (U := U) hyes hk
    have := hyes k hk
    omega
  have h2 : sndN S U (plc S U) n = true := sndN_iff.2 fun i hi => (plc_least (S := S) (U := U) i fun j hj => (hyes j (by omega)).1).2.1
  simp [soundB, (rightB_iff (S := S) (n := n) (m := n) (by omega)).2 ⟨rfl, hyes⟩, h1, h2]
set_option maxRecDepth 100000 in
set_option maxHeartbeats 8000000 in
theorem walk_yes {w : World} (S U : Nat → Int) (A A' : Option Addr) (n c c' : Nat) (h0 : n ≤ 24) (hr : Kit.Rd w w.heap.size A (rowV S n)) (hr' : Kit.Rd w w.heap.size A' (rowV U n)) (hyes : ∀ k, k < n → 0 ≤ S k ∧ S k ≤ 1048576) :
    Calls Try.prog 5 #[.slice A n c, .slice A' n c'] w fun e w' => e = .returned (.bool true) ∧ Below w.heap.size w w' := by
  have HR := Lib.hid hr
  have HS := Lib.hid hr'
  have HY := Lib.hid hyes
  have HNO := Lib.hid ((rightB_iff (S := S) (n := n) (m := n) (by omega)).2 ⟨rfl, hyes⟩)
  have h2 : ¬ (n : Int) > 24 := by omega
  obtain ⟨rm, hrm⟩ : ∃ rm, roomZ S (plc S U) n = rm := ⟨_, rfl⟩
  have HRM := Lib.hid hrm
  have HSD := Lib.hid (sound_plc (U := U) h0 hyes)
  have hle1 := peak_room (S := S) (U := U) (fun k hk => (hyes k hk).1) n (Nat.le_refl _)
  have hle2 := room_sum (S := S) (U := U) (fun k hk => (hyes k hk).1)
  rw [hrm] at hle1 hle2
  have HPK := Lib.hid (fun (wx : World) (h1 : Kit.Rd wx wx.heap.size A (rowV S n)) (h2 : Kit.Rd wx wx.heap.size A' (rowV U n)) => same_b (peak_yes S U n c c' (by omega) hyes A A' wx h1 h2))
  generalize peakZ S U n = pk at *
  have HLE2 := Lib.hid hle2
  clear hr hr' hyes hrm hle2
  go_enter Try.func5, Try.ntmps5
  go_wp2_with (first
    | (go_at_call 8
       have hal : Below w.heap.size w w := Below.refl _ _
       refine (may_b S n c n c' true (by omega) HNO.out A A' _ HR.out).mono ?_
       rintro e w1 ⟨rfl, hb⟩
       have hh : Below w.heap.size w w1 := hal.trans (hb.mono hal.size)
       replace HR := Lib.hid ((HR.out.below hh).more hh.size)
       replace HS := Lib.hid ((HS.out.below hh).more hh.size)
       have HBW : Hid (Below w.heap.size w w1) := Lib.hid hh
       clear hb hh hal)
    | (go_at_call 7
       have hal : Below w1.heap.size w1 w1 := Below.refl _ _
       refine (place_b S U n c c' (by omega) HY.out A A' rm HRM.out _ HR.out HS.out).mono ?_
       rintro e w2 ⟨A5, c5, rfl, hp, hb⟩
       have hh : Below w1.heap.size w1 w2 := hal.trans (hb.mono hal.size)
       replace HR := Lib.hid ((HR.out.below hh).more hh.size)
       replace HS := Lib.hid ((HS.out.below hh).more hh.size)
       replace HBW := Lib.hid (HBW.out.trans (hh.mono HBW.out.size))
       have HP := Lib.hid (hp)
       clear hp
       clear hb hh hal))
  go_loop [8, 9] (fun a u => ∃ k : Nat, k ≤ n ∧ u = .int .i64 k ∧ a = .int .i64 (sumZ S k)) (fun _ u => n - (intOf u).toNat)
  case atStart => exact ⟨0, Nat.zero_le _, rfl, rfl⟩
  case round =>
    obtain ⟨k, hk, rfl, rfl⟩ := hrel
    by_cases hlt : k < n
    · obtain ⟨b1, o1, rfl, -, q1⟩ := rd_at HR.out (by omega)
      have d1 := q1 k hlt
      have k0 : (0 : Int) ≤ (k : Int) := by omega
      have k1 : (k : Int) < (n : Int) := by omega
      obtain ⟨s0, s1⟩ := sum_bound (S := S) (n := k) (fun j hj => HY.out j (by omega))
      obtain ⟨s2, s3⟩ := HY.out k hlt
      have ew : IntKind.i64.wrap (sumZ S k + S k) = sumZ S k + S k := IntWalk.i64_in _ (by omega)
      have HX : Hid (sumZ S k + S k = sumZ S (k + 1)) := Lib.hid rfl
      clear q1 hle1
      generalize sumZ S k = sk at *
      generalize S k = s9 at *
      go_wp2_with fail
      go_round
      case rel => exact ⟨k + 1, by omega, by go_num, congrArg (Value.int .i64) HX.out⟩
      case measure => simp [intOf]; omega
    · obtain rfl : k = n := by omega
      have hle2 := HLE2.out
      clear HLE2
      generalize sumZ S k = sk at *
      go_wp2_with (first
        | (go_at_call 14
           have hal : Below w2.heap.size w2 w2 := Below.refl _ _
           refine (sound_b S U (plc S U) _ c _ c' _ c5 true HSD.out (by omega) (by omega) A A' A5 _ HR.out HS.out HP.out).mono ?_
           rintro e w3 ⟨rfl, hb⟩
           have hh : Below w2.heap.size w2 w3 := hal.trans (hb.mono hal.size)
           replace HR := Lib.hid ((HR.out.below hh).more hh.size)
           replace HS := Lib.hid ((HS.out.below hh).more hh.size)
           replace HP := Lib.hid ((HP.out.below hh).more hh.size)
           replace HBW := Lib.hid (HBW.out.trans (hh.mono HBW.out.size))
           clear hb hh hal)
        | (go_at_call 9
           have hal : Below w3.heap.size w3 w3 := Below.refl _ _
           refine (HPK.out _ HR.out HS.out).mono ?_
           rintro e w4 ⟨rfl, hb⟩
           have hh : Below w3.heap.size w3 w4 := hal.trans (hb.mono hal.size)
           replace HR := Lib.hid ((HR.out.below hh).more hh.size)
           replace HS := Lib.hid ((HS.out.below hh).more hh.size)
           replace HP := Lib.hid ((HP.out.below hh).more hh.size)
           replace HBW := Lib.hid (HBW.out.trans (hh.mono HBW.out.size))
           clear hb hh hal)
        | (go_at_call 6
           have hal : Below w4.heap.size w4 w4 := Below.refl _ _
           refine (known28 _).mono ?_
           rintro e w5 ⟨rfl, hb⟩
           have hh : Below w4.heap.size w4 w5 := hal.trans (hb.mono hal.size)
           replace HR := Lib.hid ((HR.out.below hh).more hh.size)
           replace HS := Lib.hid ((HS.out.below hh).more hh.size)
           replace HP := Lib.hid ((HP.out.below hh).more hh.size)
           replace HBW := Lib.hid (HBW.out.trans (hh.mono HBW.out.size))
           clear hb hh hal))
      go_ret
      exact ⟨rfl, HBW.out⟩
theorem walk {w : World} (A : Option Addr) (zs : List Int) (c : Nat) (hc0 : zs.length ≤ c) (hm0 : c ≤ maxLen) (hw0 : ∀ n ∈ zs, (Lit.int .i64 n).wf = true) (hr0 : Kit.Rd w w.heap.size A (zs.map (.int .i64))) (A1 : Option Addr) (ys : List Int) (c1 : Nat) (hc1 : ys.length ≤ c1) (hm1 : c1 ≤ maxLen) (hw1 : ∀ n ∈ ys, (Lit.int .i64 n).wf = true) (hr1 : Kit.Rd w w.heap.size A1 (ys.map (.int .i64))) :
    Calls Try.prog 5 #[.slice A zs.length c, .slice A1 ys.length c1] w fun e w' => e = .returned (.bool true) ∧ Below w.heap.size w w' := by
  by_cases h0 : zs.length ≤ 24
  · by_cases h1 : ys.length ≤ 24
    · rw [← row_self] at hr0 hr1
      cases h : rightB (fun i => zs.getD i 0) zs.length ys.length with
      | false => exact walk_no _ _ A A1 _ c _ c1 h0 h1 hr0 hr1 h
      | true =>
        obtain ⟨h2, h3⟩ := (rightB_iff (by omega)).1 h
        rw [← h2] at hr1 ⊢
        exact walk_yes _ _ A A1 _ c c1 h0 hr0 hr1 h3
    · exact walk_m A A1 _ c _ c1 h0 h1
  · exact walk_n A A1 _ c _ c1 h0
/-! ### the frame: written by program -/
theorem own : ownKnob Try.prog.godebug = none := by kernel_rfl
theorem laid : laidOutB Try.prog = true := by kernel_rfl
theorem contract {H : Type} {enc : TypeId × Value → H} {W : World} {base : Nat} {args : Array Value} {ds gs : List (DataW H)} {before : List MemPlace}
    (hval0 : ∀ (j : Nat) t v, Try.f5.params[j]? = some t → args[j]? = some v → Value.okWide Try.prog W .any base t v)
    (hW : DataW.Whole enc Try.prog Try.f5.params.toList Rows.arenaRoomSpec.vars false W args.toList ds gs before) :
    Calls Try.prog 5 args W fun e W' => e = .returned (.bool true) ∧ Below W.heap.size W W' := by
  have hval : ∀ (j : Nat) t v, Try.f5.params[j]? = some t → args[j]? = some v → Value.okWide Try.prog W .any base t v := hval0
  obtain ⟨p, q, hA0, hV, rfl, hfz, hnd⟩ := hW
  have hA : DataW.TrodAll enc Try.prog W 0 (fun _ => true) true Try.f5.params.toList args.toList ds p := hA0
  rw [Try.params5] at hA hval
  obtain ⟨v0, vs0, d0, ds0, p0, q0, hargs, rfl, rfl, h0, r0⟩ := trodAll_cons hA
  obtain ⟨v1, vs1, d1, ds1, p1, q1, rfl, rfl, rfl, h1, r1⟩ := trodAll_cons r0
  obtain ⟨rfl, rfl, rfl⟩ := trodAll_nil r1
  obtain rfl : args = #[v0, v1] := by cases args; simp_all
  clear hA0 hval0
  obtain ⟨A0, z0, c0, rfl, hc0, hm0, hw0, hr0⟩ := Kit.open_islice Try.underlying22 Try.underlying3 (by kernel_rfl) (hval 0 22 v0 rfl rfl) h0
  obtain ⟨A1, z1, c1, rfl, hc1, hm1, hw1, hr1⟩ := Kit.open_islice Try.underlying22 Try.underlying3 (by kernel_rfl) (hval 1 22 v1 rfl rfl) h1
  exact walk (w := W) A0 z0 c0 hc0 hm0 hw0 hr0 A1 z1 c1 hc1 hm1 hw1 hr1
theorem fnIs {H : Type} : ∀ ds : List (DataW H), ds.length = Try.f5.params.toList.length → Rows.arenaRoomSpec.fn H ds = { results := [.lit (.bool true)], args := ds } := by
  intro ds h
  rw [Try.params5] at h
  match ds, h with
  | [d1, d2], _ => rfl
set_option maxRecDepth 100000 in
theorem lifted (os : Os) (started : os.Started) (H : Type) (enc : TypeId × Value → H) :
    ReturnsInHanded {} Try.checked os 5 .any (Rows.arenaRoomSpec.pre6 enc Try.prog Try.f5 Rows.arenaRoomRow.domain false) (Rows.arenaRoomSpec.post enc Try.prog Try.f5 false true false false) := by
  refine returnsInHanded_of_change (C := Try.checked) own started (by kernel_rfl) Try.func5
    (ChangeSpec.witness6 (enc := enc) (C := Try.checked) false ⟨#[], #[.slice none 0 0, .slice none 0 0], []⟩ 8 (by kernel_rfl) (by kernel_rfl) (by kernel_rfl) (by kernel_rfl)) ?_
  intro W base args ds gs before hval hW _ _
  refine (contract hval hW).mono fun e W' ⟨he, hg⟩ => ?_
  subst he
  exact ⟨_, rfl, Kit.law_post (tb := 4) laid (by kernel_rfl) rfl (by kernel_rfl) Try.underlying4 fnIs hW hg⟩
theorem over : Rows.arenaRoomRow.holds Try.pinned (OpenSpec.ofChange Rows.arenaRoomSpec) :=
  OpenClaim.holds_of_wide 5 Try.f5 rfl rfl rfl rfl rfl rfl rfl ⟨rfl, rfl, rfl, rfl, rfl⟩ rfl rfl rfl rfl rfl (by kernel_rfl) Try.func5 (by kernel_rfl)
    (of_decide_eq_true (by kernel_rfl)) (by unfold Func.isWrapper; first | (rw [if_pos (by decide +kernel)]; kernel_rfl) | (rw [if_neg (by decide +kernel)]; exact ⟨rfl, rfl⟩))
    (fun os started H enc _ => lifted os started H enc)
/-- the statement. -/
theorem proved : Rows.ArenaRoomSaid :=
  over
end Go.Proofs.Ytplmcmjfgocdkaa.lawArenaRoom
