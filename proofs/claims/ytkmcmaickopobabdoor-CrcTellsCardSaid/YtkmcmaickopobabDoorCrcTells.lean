/- CrcTells: one byte that is another one is always told by the sum; the call returns true and leaves its arguments as they were. The table is listed and tied to the program's text; no other condition. -/
import Derived.Test.YtkmcmaickopobabDoorCrcLaid
import Derived.Test.YtkmcmaickopobabDoorTie
import Derived.Test.YtkmcmaickopobabDoorCards
import Derived.SevenTiedAt
import Derived.IntWalk
namespace Go.Proofs.YtkmcmaickopobabDoor.lawCrcTells
open Go Go.ChangeShapes Go.WideShapes Go.ChangeAt Go.RowKit
open CrcNum CCrc
set_option linter.unusedVariables false

theorem xor_u8 (x b : Int) (hx0 : 0 ≤ x) (hx1 : x ≤ 255) (hb0 : 0 ≤ b) (hb1 : b ≤ 255) (hne : b ≠ 0) : ∃ y, bits .xor .u8 x b = y ∧ 0 ≤ y ∧ y ≤ 255 ∧ x ≠ y := by
  refine ⟨_, rfl, ?_⟩
  have e : bits .xor .u8 x b = (((BitVec.ofInt 8 x ^^^ BitVec.ofInt 8 b).toNat : Nat) : Int) := by
    show IntKind.u8.wrap ((BitVec.ofInt 8 x ^^^ BitVec.ofInt 8 b).toNat : Int) = _
    rw [IntKind.wrap_u8]; have := (BitVec.ofInt 8 x ^^^ BitVec.ofInt 8 b).isLt; omega
  rw [e]
  have hlt := (BitVec.ofInt 8 x ^^^ BitVec.ofInt 8 b).isLt
  refine ⟨by omega, by omega, fun h => ?_⟩
  have h2 : (BitVec.ofInt 8 x ^^^ BitVec.ofInt 8 b).toNat = (BitVec.ofInt 8 x).toNat := by
    rw [BitVec.toNat_ofInt]; omega
  have h3 := BitVec.eq_of_toNat_eq h2
  have h4 : BitVec.ofInt 8 b = 0#8 := by
    have := congrArg (fun z => BitVec.ofInt 8 x ^^^ z) h3
    simpa only [← BitVec.xor_assoc, BitVec.xor_self, BitVec.zero_xor] using this
  have h5 := congrArg BitVec.toNat h4
  rw [BitVec.toNat_ofInt] at h5
  simp at h5
  omega
theorem tells {zs : List Int} {p : Nat} {x y : Int} (hz : U8s zs) (hp : p < zs.length) (hx : zs[p] = x) (hy0 : 0 ≤ y) (hy1 : y ≤ 255) (hne : x ≠ y) : (toI (crcOf (zs.set p y)) != toI (crcOf zs)) = true := by
  rw [bne_iff_ne]
  intro h
  have h1 := toI_inj h
  unfold crcOf at h1
  have h2 : run (BitVec.allOnes 32) (zs.set p y) = run (BitVec.allOnes 32) zs := by
    have := congrArg (fun z => ~~~ z) h1
    simpa using this
  have e1 : zs = zs.take p ++ x :: zs.drop (p + 1) := by
    rw [← hx, List.getElem_cons_drop, List.take_append_drop]
  have e2 : zs.set p y = zs.take p ++ y :: zs.drop (p + 1) := by
    rw [List.set_eq_take_append_cons_drop, if_pos hp]
  rw [e2] at h2
  conv at h2 => rhs; rw [e1]
  have hxb := hz _ (List.getElem_mem hp)
  rw [hx] at hxb
  exact run_tells _ _ _ y x ⟨hy0, hy1⟩ hxb (fun e => hne e.symm) h2
theorem own_empty (w : World) (T : TypeId) : (w.alloc (.cells #[] T)).ownsRow w.heap.size T 1 (.slice (some ⟨w.heap.size, 0, none⟩) 0 0) 0 [] :=
  ⟨rfl, .inr ⟨w.heap.size, 0, #[], rfl, Nat.le_refl _, heap_alloc_new w _, Nat.le_refl _, Nat.zero_le _, rfl, rfl⟩⟩
/-- a row of the call's own, of one cell a number: its cells, that none is frozen, and how it reads behind a store. -/
theorem own_cells {w : World} {base : Nat} {e : TypeId} {n : Nat} {v : Value} {xs : List Value} (h : w.ownsRow base e 1 v n xs) (hn : 0 < n) :
    ∃ g cap, v = .slice (some ⟨g, 0, none⟩) n cap ∧ base ≤ g ∧ g < w.heap.size ∧ n ≤ cap ∧ cap ≤ maxLen ∧ (∀ j u, xs[j]? = some u → w.cell? ⟨g, j, none⟩ = some u) ∧ (∀ j, w.frozen? ⟨g, j, none⟩ = false) := by
  rcases h.2 with ⟨_, h0⟩ | ⟨g, cap, cur, rfl, hb, hh, hnc, hcm, hs, ht⟩
  · omega
  · refine ⟨g, cap, rfl, hb, (Array.getElem?_eq_some_iff.1 hh).1, hnc, hcm, fun j u hu => ?_, fun j => ?_⟩
    · rw [← ht] at hu
      unfold World.cell?
      rw [hh]
      have hj : j < n * 1 := by
        rcases Nat.lt_or_ge j (n * 1) with hlt | hge
        · exact hlt
        · rw [List.getElem?_eq_none (by simp; omega)] at hu; cases hu
      rw [List.getElem?_take_of_lt hj] at hu
      simpa using hu
    · unfold World.frozen?; rw [hh]; simp
theorem rd_set {w : World} {g B p : Nat} {xs : List Value} (u : Value) (hB : g < B) (h : ∀ j x, xs[j]? = some x → w.cell? ⟨g, j, none⟩ = some x) : Kit.Rd (w.setCell ⟨g, p, none⟩ u) B (some ⟨g, 0, none⟩) (xs.set p u) := by
  intro j x hx
  refine ⟨_, rfl, hB, ?_⟩
  have e : (⟨g, 0, none⟩ : Addr).add j = ⟨g, j, none⟩ := by
    unfold Addr.add; split
    · rename_i h; subst h; rfl
    · simp
  rw [e]
  by_cases hj : p = j
  · subst hj
    obtain ⟨hl, hx2⟩ := List.getElem?_eq_some_iff.1 hx
    rw [List.length_set] at hl
    rw [List.getElem_set_self] at hx2
    subst hx2
    exact World.cell?_setCell_same _ _ _ (h p _ (List.getElem?_eq_getElem hl))
  · rw [List.getElem?_set_ne hj] at hx
    rw [World.cell?_setCell_other _ _ _ _ (fun e => hj (by injection e))]
    exact h j x hx
theorem info_u8 : (Tryd.prog.info? 5).map (fun i => (i.zero, i.size, i.bytes)) = some (some (.int .u8 0), 1, 1) := by kernel_rfl
theorem walk_long {w : World} (A : Option Addr) (N c : Nat) (p b : Int) (hl : 2000 < N ∨ N = 0 ∨ b = 0) (hT : TableIn w) :
    Calls Tryd.prog 5 #[.slice A N c, .int .u16 p, .int .u8 b] w fun e w' => e = .returned (.bool true) ∧ Below w.heap.size w w' := by
  have HT := Lib.hid hT
  clear hT
  by_cases h1 : 2000 < N
  · have hlI : (2000 : Int) < (N : Int) := by omega
    clear hl
    go_enter Tryd.func5, Tryd.ntmps5
    go_wp2_with (go_at_call 6; (refine (known07 _ HT.out).mono ?_); rintro e w1 ⟨rfl, hb1⟩; have HB := Lib.hid hb1; clear hb1)
    go_ret
    exact ⟨rfl, HB.out⟩
  · have hlI : (N : Int) ≤ 2000 := by omega
    by_cases h2 : N = 0
    · subst h2
      clear hl
      go_enter Tryd.func5, Tryd.ntmps5
      go_wp2_with (go_at_call 6; (refine (known07 _ HT.out).mono ?_); rintro e w1 ⟨rfl, hb1⟩; have HB := Lib.hid hb1; clear hb1)
      go_ret
      exact ⟨rfl, HB.out⟩
    · obtain rfl : b = 0 := by omega
      have hN0 : ((N : Int) == 0) = false := by simp; omega
      clear hl
      go_enter Tryd.func5, Tryd.ntmps5
      go_wp2_with (go_at_call 6; (refine (known07 _ HT.out).mono ?_); rintro e w1 ⟨rfl, hb1⟩; have HB := Lib.hid hb1; clear hb1)
      go_ret
      exact ⟨rfl, HB.out⟩
set_option maxRecDepth 100000 in
set_option maxHeartbeats 4000000 in
theorem walk_short {w : World} (A : Option Addr) (zs : List Int) (N c : Nat) (hN : zs.length = N) (hl : N ≤ 2000) (h1 : 0 < N) (hz : U8s zs) (hr : Kit.Rd w w.heap.size A (zs.map (.int .u8))) (a b : Int) (ha0 : 0 ≤ a) (ha1 : a ≤ 65535) (hb0 : 0 ≤ b) (hb1 : b ≤ 255) (hbn : b ≠ 0) (hT : TableIn w) :
    Calls Tryd.prog 5 #[.slice A N c, .int .u16 a, .int .u8 b] w fun e w' => e = .returned (.bool true) ∧ Below w.heap.size w w' := by
  have HT := Lib.hid hT
  have H0 := Lib.hid hT.size
  obtain ⟨p, hp⟩ : ∃ p : Nat, a % (N : Int) = (p : Int) := ⟨(a % (N : Int)).toNat, by have := Int.emod_nonneg a (show (N : Int) ≠ 0 by omega); omega⟩
  have hpN : p < N := by have := Int.emod_lt_of_pos a (show (0 : Int) < N by omega); omega
  have hpz : p < zs.length := by omega
  obtain ⟨x, hx⟩ : ∃ x, zs[p] = x := ⟨_, rfl⟩
  obtain ⟨hx0, hx1⟩ := hz _ (List.getElem_mem hpz)
  rw [hx] at hx0 hx1
  obtain ⟨y, hy, hy0, hy1, hxy⟩ := xor_u8 x b hx0 hx1 hb0 hb1 hbn
  have htell := tells hz hpz hx hy0 hy1 hxy
  have hset : (zs.set p y).length = N := by simpa using hN
  have hzset : U8s (zs.set p y) := fun z hzm => by
    rcases List.mem_or_eq_of_mem_set hzm with h | rfl
    · exact hz z h
    · exact ⟨hy0, hy1⟩
  have hmset : (zs.map (Value.int .u8)).set p (.int .u8 y) = (zs.set p y).map (.int .u8) := (List.map_set ..).symm
  have hxv : (zs.map (Value.int .u8))[p]? = some (.int .u8 x) := by rw [List.getElem?_map, List.getElem?_eq_getElem hpz, hx]; rfl
  have htm : a.tmod (N : Int) = (p : Int) := by rw [Int.tmod_eq_emod_of_nonneg ha0]; exact hp
  have hlI : (N : Int) ≤ 2000 := by omega
  have hN0 : ((N : Int) == 0) = false := by simp; omega
  have hb00 : (b == 0) = false := by simp; omega
  have hN9 : N ≤ 9223372036854775807 := by omega
  have hpI : (p : Int) < (N : Int) := by omega
  have hpJ : (0 : Int) ≤ (p : Int) := by omega
  have HN := Lib.hid hN
  have HZ := Lib.hid hz
  have HR := Lib.hid hr
  have HS := Lib.hid hset
  have HZS := Lib.hid hzset
  have HMS := Lib.hid hmset
  have HXV := Lib.hid hxv
  have HTE := Lib.hid htell
  have HP := Lib.hid hp
  have HTM := Lib.hid htm
  have HY := Lib.hid hy
  clear hT hN hr hz hset hzset hmset hxv htell hp htm hy hx
  obtain ⟨i0, hi0, hi1, hi2, hi3⟩ := info_parts info_u8
  go_enter Tryd.func5, Tryd.ntmps5
  go_wp2_with (first
    | (at_builtin
       refine Kit.wpList_append_rd _ rfl (.tmp 21) (.tmp 22) _ rfl w.heap.size 5 i0 (.int .u8 0) 1 1 Tryd.underlying22 hi0 hi1 hi2 hi3 rfl (by decide) _ 0 [] rfl (own_empty w _) w.heap.size A N c (zs.map (.int .u8)) rfl (by simp [HN.out]) (HR.out.alloc (Nat.le_refl _) _) (Kit.ints_one .u8 zs) (by unfold maxLen; omega) (by omega) (by simp) ?_
       intro v1 w1 hown1 hg1 hat1
       have hB : Below w.heap.size w w1 := ((Below.refl _ _).alloc (Nat.le_refl _) _).grown hg1 (by simp) (fun q hq => Kit.own_block_ge (own_empty w 5) q hq)
       rw [Nat.zero_add, List.nil_append] at hown1
       obtain ⟨g, cap, rfl, hgb, hgs, hnc, hcm, hcells, hfrz⟩ := own_cells hown1 h1
       have hcp := hcells p _ HXV.out
       have hfp := hfrz p
       have HSETR : Hid (Kit.Rd (w1.setCell ⟨g, p, none⟩ (.int .u8 y)) w1.heap.size (some ⟨g, 0, none⟩) ((zs.set p y).map (.int .u8))) := by
         rw [← HMS.out]; exact Lib.hid (rd_set _ hgs hcells)
       have HB2 : Hid (Below w.heap.size w (w1.setCell ⟨g, p, none⟩ (.int .u8 y))) := Lib.hid (hB.setCell (p := ⟨g, p, none⟩) hgb _)
       have HRS := Lib.hid (HR.out.below HB2.out)
       have HTS := Lib.hid (HT.out.below HB2.out H0.out)
       have hy := HY.out
       have htm := HTM.out
       have HCAP := Lib.hid hnc
       clear hown1 hg1 hat1 hcells hfrz hB hgb hgs hcm hnc)
    | (go_at_call 8; (with_reducible refine (of_n (some ⟨g, 0, none⟩) (zs.set p y) N cap HS.out hN9 HZS.out _ HTS.out HSETR.out).mono ?_); rintro e w' ⟨rfl, rfl⟩; (have hq := HTE.out); (have H2 := HP.out))
    | (go_at_call 8; (with_reducible refine (of_n A zs N c HN.out hN9 HZ.out _ HTS.out HRS.out).mono ?_); rintro e w' ⟨rfl, rfl⟩)
    | (go_at_call 6; (refine (known07 _ HTS.out).mono ?_); rintro e w3 ⟨rfl, hb3⟩; (have HB3 := Lib.hid (HB2.out.trans (hb3.mono HB2.out.size))); clear hb3))
  go_ret
  exact ⟨rfl, HB3.out⟩

theorem walk {w : World} (A : Option Addr) (zs : List Int) (k : Nat) (hk : zs.length ≤ k) (hm : k ≤ maxLen) (hw : ∀ n ∈ zs, (Lit.int .u8 n).wf = true) (hr : Kit.Rd w w.heap.size A (zs.map (.int .u8)))
    (a : Int) (wa : (Lit.int .u16 a).wf = true) (b : Int) (wb : (Lit.int .u8 b).wf = true) (hT : TableIn w) :
    Calls Tryd.prog 5 #[.slice A zs.length k, .int .u16 a, .int .u8 b] w fun e w' => e = .returned (.bool true) ∧ Below w.heap.size w w' := by
  have hz := u8s_of hw
  obtain ⟨a0, a1⟩ := u16_bd wa
  obtain ⟨b0, b1⟩ := u8_bd wb
  by_cases hl : 2000 < zs.length ∨ zs.length = 0 ∨ b = 0
  · exact walk_long A _ k a b hl hT
  · exact walk_short A zs _ k rfl (by omega) (by omega) hz hr a b a0 a1 b0 b1 (by omega) hT
/-! ### the frame: written by program -/
theorem own : ownKnob Tryd.prog.godebug = none := by kernel_rfl
theorem laid : laidOutB Tryd.prog = true := by kernel_rfl
theorem contract {H : Type} {enc : TypeId × Value → H} {W : World} {base : Nat} {args : Array Value} {ds gs : List (DataW H)} {before : List MemPlace}
    (hval0 : ∀ (j : Nat) t v, Tryd.f5.params[j]? = some t → args[j]? = some v → Value.okWide Tryd.prog W .any base t v)
    (hW : DataW.Whole enc Tryd.prog Tryd.f5.params.toList Rows.crcTellsSpec.vars false W args.toList ds gs before)
    (hL : laidMetH Tryd.prog [("stepwell/crc.halves", Rows.laid_stepwell_crc_halves)] W) :
    Calls Tryd.prog 5 args W fun e W' => e = .returned (.bool true) ∧ Below W.heap.size W W' := by
  have hval : ∀ (j : Nat) t v, Tryd.f5.params[j]? = some t → args[j]? = some v → Value.okWide Tryd.prog W .any base t v := hval0
  obtain ⟨p, q, hA0, hV, rfl, hfz, hnd⟩ := hW
  have hA : DataW.TrodAll enc Tryd.prog W 0 (fun _ => true) true Tryd.f5.params.toList args.toList ds p := hA0
  rw [Tryd.params5] at hA hval
  obtain ⟨v0, vs0, d0, ds0, p0, q0, hargs, rfl, rfl, h0, r0⟩ := trodAll_cons hA
  obtain ⟨v1, vs1, d1, ds1, p1, q1, rfl, rfl, rfl, h1, r1⟩ := trodAll_cons r0
  obtain ⟨v2, vs2, d2, ds2, p2, q2, rfl, rfl, rfl, h2, r2⟩ := trodAll_cons r1
  obtain ⟨rfl, rfl, rfl⟩ := trodAll_nil r2
  obtain rfl : args = #[v0, v1, v2] := by cases args; simp_all
  clear hA0 hval0
  obtain ⟨A0, z0, c0, rfl, hc0, hm0, hw0, hr0⟩ := Kit.open_islice Tryd.underlying22 Tryd.underlying5 (by kernel_rfl) (hval 0 22 v0 rfl rfl) h0
  obtain ⟨a1, rfl, rfl, rfl, w1⟩ := open_int Tryd.underlying34 (hval 1 34 v1 rfl rfl) h1
  obtain ⟨a2, rfl, rfl, rfl, w2⟩ := open_int Tryd.underlying5 (hval 2 5 v2 rfl rfl) h2
  exact walk (w := W) A0 z0 c0 hc0 hm0 hw0 hr0 a1 w1 a2 w2 (of_laid hL)
theorem fnIs {H : Type} : ∀ ds : List (DataW H), ds.length = Tryd.f5.params.toList.length → Rows.crcTellsSpec.fn H ds = { results := [.lit (.bool true)], args := ds } := by
  intro ds h
  rw [Tryd.params5] at h
  match ds, h with
  | [d1, d2, d3], _ => rfl
theorem door_met (os : Os) (args : Array Value) : laidMetH Tryd.prog [("stepwell/crc.halves", Rows.laid_stepwell_crc_halves)] ((World.doorLaid Tryd.prog 400 os).forCall (fun _ _ => 0) ⟨#[], args, []⟩).memory :=
  laidMetH_of_parts3 (fuel := 8) (laidMet_of_run' 8 (by kernel_rfl) (by kernel_rfl)) (by kernel_rfl) (by kernel_rfl)
set_option maxRecDepth 100000 in
theorem lifted (os : Os) (started : os.Started) (H : Type) (enc : TypeId × Value → H) :
    ReturnsInHanded {} Tryd.checked os 5 .any (fun w args => (Rows.crcTellsSpec.pre enc Tryd.prog Tryd.f5 [] false w args ∧ laidMetH Tryd.prog [("stepwell/crc.halves", Rows.laid_stepwell_crc_halves)] w) ∧ sizedMet enc Tryd.prog Tryd.f5 (OpenSpec.ofChange Rows.crcTellsSpec) false w args) (Rows.crcTellsSpec.post enc Tryd.prog Tryd.f5 false true false false) := by
  refine returnsInHanded_of_change_and (C := Tryd.checked) (X := fun w _ => laidMetH Tryd.prog [("stepwell/crc.halves", Rows.laid_stepwell_crc_halves)] w) (fun _ _ _ hh h => h.of_heap hh) own started (by kernel_rfl) Tryd.func5
    (ChangeSpec.witness_shaped (enc := enc) (C := Tryd.checked) (os := os) (X := fun w _ => laidMetH Tryd.prog [("stepwell/crc.halves", Rows.laid_stepwell_crc_halves)] w) false (World.doorLaid Tryd.prog 400 os) #[.slice none 0 0, .int .u16 0, .int .u8 0] 8 rfl (World.shaped_of_RefB (by kernel_rfl) (by kernel_rfl)) (by kernel_rfl) (by kernel_rfl) (by kernel_rfl) (door_met os _)) ?_
  intro W base args ds gs before hval hW _ _ hL _
  refine (contract hval hW hL).mono fun e W' ⟨he, hg⟩ => ?_
  subst he
  exact ⟨_, rfl, Kit.law_post (tb := 4) laid (by kernel_rfl) rfl (by kernel_rfl) Tryd.underlying4 fnIs hW hg⟩
theorem over : Rows.crcTellsRow.holds Tryd.pinned (OpenSpec.ofChange Rows.crcTellsSpec) :=
  OpenClaim.holds_of_wide 5 Tryd.f5 rfl rfl rfl rfl rfl rfl rfl ⟨rfl, rfl, rfl, rfl, rfl⟩ rfl rfl rfl rfl rfl (by kernel_rfl) Tryd.func5 (by kernel_rfl)
    (of_decide_eq_true (by kernel_rfl)) (by unfold Func.isWrapper; first | (rw [if_pos (by decide +kernel)]; kernel_rfl) | (rw [if_neg (by decide +kernel)]; exact ⟨rfl, rfl⟩))
    (fun os started H enc _ => lifted os started H enc)
/-- the statement: the tied card. -/
theorem proved : Rows.CrcTellsCardSaid :=
  Claim7.holds_tied_plain_at .later [] [.data] true (true, "cc1aa0af790ce9d662431d2fdb6e0a78ef731d51b922f8385f18042b2450aa1f") false
    over (fun _ h => by cases h) (by kernel_rfl) (fun _ h => by cases h) crcTells_row_tie rfl ⟨rfl, rfl⟩ (by kernel_rfl) rfl
    (fun f fn hf hfn => by
      obtain rfl : f = 5 := Option.some.inj ((show Tryd.prog.funcNamed "stepwell/stepwelllaw07.CrcTells" = some 5 by kernel_rfl).symm.trans hf) |>.symm
      obtain rfl : fn = Tryd.f5 := (Option.some.inj (Tryd.func5.symm.trans hfn)).symm
      exact ⟨by kernel_rfl, fun j t ht => by
        rw [Tryd.params5] at ht
        have hm : t ∈ [22, 34, 5] := by simpa using Array.mem_of_getElem? ht
        have hall : ([22, 34, 5].all fun u => !Tryd.prog.wantsStandIn u) = true := by kernel_rfl
        exact (show Tryd.prog.wantsStandIn t = false by simpa using List.all_eq_true.1 hall t hm)⟩)
    (by kernel_rfl)
end Go.Proofs.YtkmcmaickopobabDoor.lawCrcTells
