/- CrcJoins: the sum of bytes and others behind them is that of both sums, joined; the call returns true and leaves its arguments as they were. The table is listed and tied to the program's text; no other condition. -/
import Derived.Test.YtkmcmaickopobabDoorCrcLaid
import Derived.Test.YtkmcmaickopobabDoorTie
import Derived.Test.YtkmcmaickopobabDoorCards
import Derived.SevenTiedAt
namespace Go.Proofs.YtkmcmaickopobabDoor.lawCrcJoins
open Go Go.ChangeShapes Go.WideShapes Go.ChangeAt Go.RowKit
open CrcNum CCrc
set_option linter.unusedVariables false

theorem own_empty (w : World) (T : TypeId) : (w.alloc (.cells #[] T)).ownsRow w.heap.size T 1 (.slice (some ⟨w.heap.size, 0, none⟩) 0 0) 0 [] :=
  ⟨rfl, .inr ⟨w.heap.size, 0, #[], rfl, Nat.le_refl _, heap_alloc_new w _, Nat.le_refl _, Nat.zero_le _, rfl, rfl⟩⟩
theorem info_u8 : (Tryd.prog.info? 5).map (fun i => (i.zero, i.size, i.bytes)) = some (some (.int .u8 0), 1, 1) := by kernel_rfl
theorem more_joins (xs : List Int) (A : Option Addr) (zs : List Int) (n c : Nat) (hn : zs.length = n) (hl : n ≤ 9223372036854775807) (hz : U8s zs) (s : R) (hs : crcOf (xs ++ zs) = s) (w : World) (hT : TableIn w) {B : Nat} (hr : Kit.Rd w B A (zs.map (.int .u8))) :
    Calls Tryd.prog 10 #[.int .u32 (toI (crcOf xs)), .slice A n c] w fun e w' => e = .returned (.int .u32 (toI s)) ∧ w = w' := by
  have := more_n (crcOf xs) A zs n c hn hl hz w hT hr
  rw [crc_more, hs] at this
  exact this
theorem join_joins (xs zs : List Int) (n : Nat) (hn : zs.length = n) (hl : n ≤ 1000) (s : R) (hs : crcOf (xs ++ zs) = s) (w : World) :
    Calls Tryd.prog 13 #[.int .u32 (toI (crcOf xs)), .int .u32 (toI (crcOf zs)), .int .u64 (n : Int)] w fun e w' => e = .returned (.int .u32 (toI s)) ∧ Below w.heap.size w w' := by
  have := join (crcOf xs) (crcOf zs) n (by omega) w
  rw [← hn, ← crc_join, hs, hn] at this
  exact this
theorem of_to (A : Option Addr) (zs : List Int) (n c : Nat) (hn : zs.length = n) (hl : n ≤ 9223372036854775807) (hz : U8s zs) (s : R) (hs : crcOf zs = s) (w : World) (hT : TableIn w) {B : Nat} (hr : Kit.Rd w B A (zs.map (.int .u8))) :
    Calls Tryd.prog 8 #[.slice A n c] w fun e w' => e = .returned (.int .u32 (toI s)) ∧ w = w' := by
  subst hs; exact of_n A zs n c hn hl hz w hT hr
theorem walk_long {w : World} (A : Option Addr) (N c : Nat) (B : Option Addr) (M d : Nat) (hl : 1000 < N ∨ 1000 < M) (hT : TableIn w) :
    Calls Tryd.prog 4 #[.slice A N c, .slice B M d] w fun e w' => e = .returned (.bool true) ∧ Below w.heap.size w w' := by
  have HT := Lib.hid hT
  clear hT
  by_cases h1 : 1000 < N
  · have hlI : (1000 : Int) < (N : Int) := by omega
    clear hl
    go_enter Tryd.func4, Tryd.ntmps4
    go_wp2_with (go_at_call 6; (refine (known07 _ HT.out).mono ?_); rintro e w1 ⟨rfl, hb1⟩; have HB := Lib.hid hb1; clear hb1)
    go_ret
    exact ⟨rfl, HB.out⟩
  · have hlI : (N : Int) ≤ 1000 := by omega
    have hlJ : (1000 : Int) < (M : Int) := by omega
    clear hl
    go_enter Tryd.func4, Tryd.ntmps4
    go_wp2_with (go_at_call 6; (refine (known07 _ HT.out).mono ?_); rintro e w1 ⟨rfl, hb1⟩; have HB := Lib.hid hb1; clear hb1)
    go_ret
    exact ⟨rfl, HB.out⟩
set_option maxRecDepth 100000 in
set_option maxHeartbeats 4000000 in
theorem walk_short {w : World} (A : Option Addr) (xs : List Int) (N c : Nat) (hN : xs.length = N) (hl : N ≤ 1000) (hx : U8s xs) (hr : Kit.Rd w w.heap.size A (xs.map (.int .u8)))
    (B : Option Addr) (ys : List Int) (M d : Nat) (hM : ys.length = M) (hm : M ≤ 1000) (hy : U8s ys) (hs : Kit.Rd w w.heap.size B (ys.map (.int .u8))) (hT : TableIn w) :
    Calls Tryd.prog 4 #[.slice A N c, .slice B M d] w fun e w' => e = .returned (.bool true) ∧ Below w.heap.size w w' := by
  have HT := Lib.hid hT
  have H0 := Lib.hid hT.size
  have hlI : (N : Int) ≤ 1000 := by omega
  have hlJ : (M : Int) ≤ 1000 := by omega
  have hN9 : N ≤ 9223372036854775807 := by omega
  have hM9 : M ≤ 9223372036854775807 := by omega
  have hK9 : N + M ≤ 9223372036854775807 := by omega
  obtain ⟨s, hsum⟩ : ∃ s, crcOf (xs ++ ys) = s := ⟨_, rfl⟩
  have HSUM := Lib.hid hsum
  have HN := Lib.hid hN
  have HM := Lib.hid hM
  have HNM := Lib.hid (show (xs ++ ys).length = N + M by simp [hN, hM])
  have HX := Lib.hid hx
  have HY := Lib.hid hy
  have HXY : Hid (U8s (xs ++ ys)) := Lib.hid (fun z hz => (List.mem_append.1 hz).elim (hx z) (hy z))
  have HR := Lib.hid hr
  have HS := Lib.hid hs
  clear hT hN hM hx hy hr hs hsum
  obtain ⟨i0, hi0, hi1, hi2, hi3⟩ := info_parts info_u8
  go_enter Tryd.func4, Tryd.ntmps4
  go_wp2_with (first
    | (at_builtin
       refine Kit.wpList_append_rd _ rfl (.tmp 16) (.tmp 17) _ rfl w.heap.size 5 i0 (.int .u8 0) 1 1 Tryd.underlying22 hi0 hi1 hi2 hi3 rfl (by decide) _ 0 [] rfl (own_empty w _) w.heap.size A N c (xs.map (.int .u8)) rfl (by simp [HN.out]) (HR.out.alloc (Nat.le_refl _) _) (Kit.ints_one .u8 xs) (by unfold maxLen; omega) (by omega) (by simp) ?_
       intro v1 w1 hown1 hg1 hat1
       have hB : Below w.heap.size w w1 := ((Below.refl _ _).alloc (Nat.le_refl _) _).grown hg1 (by simp) (fun q hq => Kit.own_block_ge (own_empty w 5) q hq)
       rw [Nat.zero_add, List.nil_append] at hown1
       have HOWN := Lib.hid hown1
       have HB1 := Lib.hid hB
       have HS1 := Lib.hid (HS.out.below hB)
       clear hown1 hg1 hat1 hB)
    | (at_builtin
       refine Kit.wpList_append_rd _ rfl (.tmp 18) (.tmp 19) _ rfl w.heap.size 5 i0 (.int .u8 0) 1 1 Tryd.underlying22 hi0 hi1 hi2 hi3 rfl (by decide) _ N (xs.map (.int .u8)) rfl HOWN.out w.heap.size B M d (ys.map (.int .u8)) rfl (by simp [HM.out]) HS1.out (Kit.ints_one .u8 ys) (by unfold maxLen; omega) (by omega) HB1.out.size ?_
       intro v2 w2 hown2 hg2 hat2
       have hB : Below w.heap.size w w2 := HB1.out.grown hg2 HB1.out.size (fun q hq => Kit.own_block_ge HOWN.out q hq)
       obtain ⟨A2, c2, rfl, hnc, hcm, hrd⟩ := Kit.own_rd hown2
       rw [← List.map_append] at hrd
       have HB2 := Lib.hid hB
       have HALL := Lib.hid hrd
       have HR2 := Lib.hid (HR.out.below hB)
       have HS2 := Lib.hid (HS.out.below hB)
       have HT2 := Lib.hid (HT.out.below hB H0.out)
       clear hown2 hg2 hat2 hB hnc hcm hrd)
    | (go_at_call 8; (with_reducible refine (of_to A2 (xs ++ ys) (N + M) c2 HNM.out hK9 HXY.out s HSUM.out _ HT2.out HALL.out).mono ?_); rintro e w' ⟨rfl, rfl⟩)
    | (go_at_call 8; (with_reducible refine (of_n A xs N c HN.out hN9 HX.out _ HT2.out HR2.out).mono ?_); rintro e w' ⟨rfl, rfl⟩)
    | (go_at_call 8; (with_reducible refine (of_n B ys M d HM.out hM9 HY.out _ HT2.out HS2.out).mono ?_); rintro e w' ⟨rfl, rfl⟩)
    | (go_at_call 10; (with_reducible refine (more_joins xs B ys M d HM.out hM9 HY.out s HSUM.out _ HT2.out HS2.out).mono ?_); rintro e w' ⟨rfl, rfl⟩)
    | (go_at_call 13; (with_reducible refine (join_joins xs ys M HM.out hm s HSUM.out _).mono ?_); rintro e w3 ⟨rfl, hb3⟩; (have HB3 := Lib.hid (HB2.out.trans (hb3.mono HB2.out.size))); (have HT3 := Lib.hid (HT.out.below HB3.out H0.out)); clear hb3)
    | (go_at_call 6; (refine (known07 _ HT3.out).mono ?_); rintro e w4 ⟨rfl, hb4⟩; (have HB4 := Lib.hid (HB3.out.trans (hb4.mono HB3.out.size))); clear hb4))
  go_ret
  exact ⟨rfl, HB4.out⟩

theorem walk {w : World} (A : Option Addr) (zs : List Int) (k : Nat) (hk : zs.length ≤ k) (hm : k ≤ maxLen) (hw : ∀ n ∈ zs, (Lit.int .u8 n).wf = true) (hr : Kit.Rd w w.heap.size A (zs.map (.int .u8)))
    (B : Option Addr) (ys : List Int) (l : Nat) (hl : ys.length ≤ l) (hn : l ≤ maxLen) (hv : ∀ n ∈ ys, (Lit.int .u8 n).wf = true) (hs : Kit.Rd w w.heap.size B (ys.map (.int .u8))) (hT : TableIn w) :
    Calls Tryd.prog 4 #[.slice A zs.length k, .slice B ys.length l] w fun e w' => e = .returned (.bool true) ∧ Below w.heap.size w w' := by
  by_cases h : 1000 < zs.length ∨ 1000 < ys.length
  · exact walk_long A _ k B _ l h hT
  · exact walk_short A zs _ k rfl (by omega) (u8s_of hw) hr B ys _ l rfl (by omega) (u8s_of hv) hs hT
/-! ### the frame: written by program -/
theorem own : ownKnob Tryd.prog.godebug = none := by kernel_rfl
theorem laid : laidOutB Tryd.prog = true := by kernel_rfl
theorem contract {H : Type} {enc : TypeId × Value → H} {W : World} {base : Nat} {args : Array Value} {ds gs : List (DataW H)} {before : List MemPlace}
    (hval0 : ∀ (j : Nat) t v, Tryd.f4.params[j]? = some t → args[j]? = some v → Value.okWide Tryd.prog W .any base t v)
    (hW : DataW.Whole enc Tryd.prog Tryd.f4.params.toList Rows.crcJoinsSpec.vars false W args.toList ds gs before)
    (hL : laidMetH Tryd.prog [("stepwell/crc.halves", Rows.laid_stepwell_crc_halves)] W) :
    Calls Tryd.prog 4 args W fun e W' => e = .returned (.bool true) ∧ Below W.heap.size W W' := by
  have hval : ∀ (j : Nat) t v, Tryd.f4.params[j]? = some t → args[j]? = some v → Value.okWide Tryd.prog W .any base t v := hval0
  obtain ⟨p, q, hA0, hV, rfl, hfz, hnd⟩ := hW
  have hA : DataW.TrodAll enc Tryd.prog W 0 (fun _ => true) true Tryd.f4.params.toList args.toList ds p := hA0
  rw [Tryd.params4] at hA hval
  obtain ⟨v0, vs0, d0, ds0, p0, q0, hargs, rfl, rfl, h0, r0⟩ := trodAll_cons hA
  obtain ⟨v1, vs1, d1, ds1, p1, q1, rfl, rfl, rfl, h1, r1⟩ := trodAll_cons r0
  obtain ⟨rfl, rfl, rfl⟩ := trodAll_nil r1
  obtain rfl : args = #[v0, v1] := by cases args; simp_all
  clear hA0 hval0
  obtain ⟨A0, z0, c0, rfl, hc0, hm0, hw0, hr0⟩ := Kit.open_islice Tryd.underlying22 Tryd.underlying5 (by kernel_rfl) (hval 0 22 v0 rfl rfl) h0
  obtain ⟨A1, z1, c1, rfl, hc1, hm1, hw1, hr1⟩ := Kit.open_islice Tryd.underlying22 Tryd.underlying5 (by kernel_rfl) (hval 1 22 v1 rfl rfl) h1
  exact walk (w := W) A0 z0 c0 hc0 hm0 hw0 hr0 A1 z1 c1 hc1 hm1 hw1 hr1 (of_laid hL)
theorem fnIs {H : Type} : ∀ ds : List (DataW H), ds.length = Tryd.f4.params.toList.length → Rows.crcJoinsSpec.fn H ds = { results := [.lit (.bool true)], args := ds } := by
  intro ds h
  rw [Tryd.params4] at h
  match ds, h with
  | [d1, d2], _ => rfl
theorem door_met (os : Os) (args : Array Value) : laidMetH Tryd.prog [("stepwell/crc.halves", Rows.laid_stepwell_crc_halves)] ((World.doorLaid Tryd.prog 400 os).forCall (fun _ _ => 0) ⟨#[], args, []⟩).memory :=
  laidMetH_of_parts3 (fuel := 8) (laidMet_of_run' 8 (by kernel_rfl) (by kernel_rfl)) (by kernel_rfl) (by kernel_rfl)
set_option maxRecDepth 100000 in
theorem lifted (os : Os) (started : os.Started) (H : Type) (enc : TypeId × Value → H) :
    ReturnsInHanded {} Tryd.checked os 4 .any (fun w args => (Rows.crcJoinsSpec.pre enc Tryd.prog Tryd.f4 [] false w args ∧ laidMetH Tryd.prog [("stepwell/crc.halves", Rows.laid_stepwell_crc_halves)] w) ∧ sizedMet enc Tryd.prog Tryd.f4 (OpenSpec.ofChange Rows.crcJoinsSpec) false w args) (Rows.crcJoinsSpec.post enc Tryd.prog Tryd.f4 false true false false) := by
  refine returnsInHanded_of_change_and (C := Tryd.checked) (X := fun w _ => laidMetH Tryd.prog [("stepwell/crc.halves", Rows.laid_stepwell_crc_halves)] w) (fun _ _ _ hh h => h.of_heap hh) own started (by kernel_rfl) Tryd.func4
    (ChangeSpec.witness_shaped (enc := enc) (C := Tryd.checked) (os := os) (X := fun w _ => laidMetH Tryd.prog [("stepwell/crc.halves", Rows.laid_stepwell_crc_halves)] w) false (World.doorLaid Tryd.prog 400 os) #[.slice none 0 0, .slice none 0 0] 8 rfl (World.shaped_of_RefB (by kernel_rfl) (by kernel_rfl)) (by kernel_rfl) (by kernel_rfl) (by kernel_rfl) (door_met os _)) ?_
  intro W base args ds gs before hval hW _ _ hL _
  refine (contract hval hW hL).mono fun e W' ⟨he, hg⟩ => ?_
  subst he
  exact ⟨_, rfl, Kit.law_post (tb := 4) laid (by kernel_rfl) rfl (by kernel_rfl) Tryd.underlying4 fnIs hW hg⟩
theorem over : Rows.crcJoinsRow.holds Tryd.pinned (OpenSpec.ofChange Rows.crcJoinsSpec) :=
  OpenClaim.holds_of_wide 4 Tryd.f4 rfl rfl rfl rfl rfl rfl rfl ⟨rfl, rfl, rfl, rfl, rfl⟩ rfl rfl rfl rfl rfl (by kernel_rfl) Tryd.func4 (by kernel_rfl)
    (of_decide_eq_true (by kernel_rfl)) (by unfold Func.isWrapper; first | (rw [if_pos (by decide +kernel)]; kernel_rfl) | (rw [if_neg (by decide +kernel)]; exact ⟨rfl, rfl⟩))
    (fun os started H enc _ => lifted os started H enc)
/-- the statement: the tied card. -/
theorem proved : Rows.CrcJoinsCardSaid :=
  Claim7.holds_tied_plain_at .later [] [.data] true (true, "cc1aa0af790ce9d662431d2fdb6e0a78ef731d51b922f8385f18042b2450aa1f") false
    over (fun _ h => by cases h) (by kernel_rfl) (fun _ h => by cases h) crcJoins_row_tie rfl ⟨rfl, rfl⟩ (by kernel_rfl) rfl
    (fun f fn hf hfn => by
      obtain rfl : f = 4 := Option.some.inj ((show Tryd.prog.funcNamed "stepwell/stepwelllaw07.CrcJoins" = some 4 by kernel_rfl).symm.trans hf) |>.symm
      obtain rfl : fn = Tryd.f4 := (Option.some.inj (Tryd.func4.symm.trans hfn)).symm
      exact ⟨by kernel_rfl, fun j t ht => by
        rw [Tryd.params4] at ht
        have hm : t ∈ [22, 22] := by simpa using Array.mem_of_getElem? ht
        have hall : ([22, 22].all fun u => !Tryd.prog.wantsStandIn u) = true := by kernel_rfl
        exact (show Tryd.prog.wantsStandIn t = false by simpa using List.all_eq_true.1 hall t hm)⟩)
    (by kernel_rfl)
end Go.Proofs.YtkmcmaickopobabDoor.lawCrcJoins
