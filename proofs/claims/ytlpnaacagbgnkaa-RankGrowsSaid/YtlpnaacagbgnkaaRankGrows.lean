/- RankGrows: numbers that all grow by as much keep their best, their margin and their order, as long as none passes its limit; the call returns true and leaves its arguments as they were. No condition. -/
import Derived.Test.YtlpnaacagbgnkaaRankLaw
namespace Go.Proofs.Ytlpnaacagbgnkaa.lawRankGrows
open Go Go.ChangeShapes Go.WideShapes Go.ChangeAt Go.RowKit
open Plain CRank
set_option linter.unusedVariables false

def upF (G : Nat → Int) (b : Int) (n i : Nat) : Int := if i < n then G i + b else 0
theorem up_at {G : Nat → Int} {b : Int} {n i : Nat} (h : i < n) : upF G b n i = G i + b := by unfold upF; rw [if_pos h]
theorem up_gr (G : Nat → Int) (b O : Int) (n : Nat) : grF (upF G b n) O n = grF G O n :=
  grF_congr (fun i j hi hj => by rw [up_at hi, up_at hj]; omega) n (Nat.le_refl _)
theorem up_marg (G : Nat → Int) (b : Int) (n : Nat) : margF (upF G b n) n = margF G n := by
  rcases Nat.lt_or_ge n 2 with h | h
  · rw [margF_few h, margF_few h]
  · obtain ⟨m, rfl⟩ : ∃ m, n = m + 1 := ⟨n - 1, by omega⟩
    obtain ⟨p, hp, hg, -⟩ := grF_best G m
    obtain ⟨q, hq, hgq⟩ := grF_second G (b := p) h
    rw [margF_yes hg hgq, margF_yes ((up_gr G b _ _).trans hg) ((up_gr G b _ _).trans hgq), up_at (by omega), up_at (by omega)]
    omega
theorem up_ord (G : Nat → Int) (b : Int) (n : Nat) : orderL (upF G b n) n = orderL G n :=
  orderL_congr fun i j hi hj => by
    unfold ahd
    rw [up_at hi, up_at hj]
    have e1 : (G j + b < G i + b) = (G j < G i) := propext (by omega)
    have e2 : (G i + b = G j + b) = (G i = G j) := propext (by omega)
    simp only [e1, e2]
theorem row32_succ (G : Nat → Int) (b : Int) {n k : Nat} (x : Int) (h : upF G b n k = x) : I32v (rowL (upF G b n) k) ++ [.int .i32 x] = I32v (rowL (upF G b n) (k + 1)) := by
  simp [I32v, rowL, List.range_succ, h]
theorem info_32 : (Try.prog.info? 21).map (fun i => (i.zero, i.size, i.bytes)) = some (some (.int .i32 0), 1, 4) := by kernel_rfl
set_option maxRecDepth 100000 in
set_option maxHeartbeats 4000000 in
theorem walk_no {w : World} (A : Option Addr) (n c : Nat) (b : Int) (hfew : ¬ n ≤ 60) :
    Calls Try.prog 5 #[.slice A n c, .int .u16 b] w fun e w' => e = .returned (.bool true) ∧ Below w.heap.size w w' := by
  have h3 : (n : Int) > 60 := by omega
  go_enter Try.func5, Try.ntmps5
  go_wp2_with (go_at_call 6; (refine (known22 _).mono ?_); rintro e w4 ⟨rfl, hb4⟩)
  go_ret
  exact ⟨rfl, hb4⟩
set_option maxRecDepth 100000 in
set_option maxHeartbeats 8000000 in
theorem walk_yes {w : World} (G : Nat → Int) (hg : I32b G) (A : Option Addr) (n c : Nat) (b : Int) (b0 : 0 ≤ b) (b1 : b ≤ 65535) (hf : n ≤ 60) (hr : Kit.Rd w w.heap.size A (I32v (rowL G n))) :
    Calls Try.prog 5 #[.slice A n c, .int .u16 b] w fun e w' => e = .returned (.bool true) ∧ Below w.heap.size w w' := by
  have HR := Lib.hid hr
  have HG := Lib.hid hg
  have h1 : ¬ (n : Int) > 60 := by omega
  obtain ⟨i0, hi0, hi1, hi2, hi3⟩ := info_parts info_32
  have HI := Lib.hid (And.intro hi0 (And.intro hi1 (And.intro hi2 hi3)))
  clear hr hg hi0 hi1 hi2 hi3
  go_enter Try.func5, Try.ntmps5
  go_wp2_with fail
  clear h1
  go_loopw [5, 6] (fun v u wr => ∃ k : Nat, k ≤ n ∧ u = .int .i64 k ∧ Hid (∀ j, j < k → G j + b ≤ 2147483647) ∧ Hid (wr.ownsRow w.heap.size 21 1 v k (I32v (rowL (upF G b n) k))) ∧ Hid (Below w.heap.size w wr)) (fun _ u _ => n - (intOf u).toNat)
  case atStart => exact ⟨0, Nat.zero_le _, rfl, Lib.hid (fun j hj => by omega), Lib.hid ⟨rfl, .inl ⟨rfl, rfl⟩⟩, Lib.hid (Below.refl _ _)⟩
  case round =>
    obtain ⟨k, hk, rfl, HL, HO, HB⟩ := hrel
    by_cases hlt : k < n
    · obtain ⟨b9, o9, rfl, hb9, hc9⟩ := rd32 HR.out (by omega)
      have hck := (HB.out.cell (p := ⟨b9, o9 + k, none⟩) hb9).trans (hc9 k hlt)
      have k0 : (0 : Int) ≤ (k : Int) := by omega
      have k1 : (k : Int) < (n : Int) := by omega
      obtain ⟨x1, x2⟩ := HG.out k
      have hup := up_at (G := G) (b := b) hlt
      have hle := fun h => (show ∀ j, j < k + 1 → G j + b ≤ 2147483647 from fun j hj => by
        rcases Nat.lt_or_ge j k with h9 | h9
        · exact HL.out j h9
        · obtain rfl : j = k := by omega
          exact h)
      have HLE := Lib.hid hle
      generalize G k = x at hck x1 x2 hup HLE
      have HUP := Lib.hid hup
      have e0 : IntKind.i32.wrap b = b := IntWalk.i32_in _ (by omega)
      have e1 : IntKind.i32.wrap (2147483647 - b) = 2147483647 - b := IntWalk.i32_in _ (by omega)
      clear hup hc9 hle
      by_cases hx : 2147483647 - b < x
      · go_wp2_with (go_at_call 6; (refine (known22 _).mono ?_); rintro e w4 ⟨rfl, hb4⟩)
        go_ret
        exact ⟨rfl, HB.out.trans (hb4.mono HB.out.size)⟩
      · have hx2 : x + b ≤ 2147483647 := by omega
        have e2 : IntKind.i32.wrap (x + b) = x + b := IntWalk.i32_in _ (by omega)
        have hx3 : ¬ x > 2147483647 - b := hx
        go_wp2_with (at_builtin; refine Kit.wpList_append_rd _ rfl (.tmp 26) (.tmp 34) _ rfl w.heap.size 21 i0 (.int .i32 0) 1 4 Try.underlying22 HI.out.1 HI.out.2.1 HI.out.2.2.1 HI.out.2.2.2 rfl (by decide) _ k (I32v (rowL (upF G b n) k)) rfl (Kit.own_below HO.out ((Below.refl _ _).alloc (Nat.le_refl _) _)) _ _ 1 1 [.int .i32 (x + b)] rfl rfl (Kit.Rd.new _ _ _ (Nat.lt_succ_self _)) ?_ ?_ ?_ ?_ ?_; (exact Kit.ints_one .i32 [x + b]); (unfold maxLen; omega); (omega); (have := HB.out.size; simp; omega); (intro u1 w5 hown5 hg5 hat5); (rw [row32_succ G b (x + b) HUP.out] at hown5); (have P1 := Lib.hid hown5); (have B5 := Lib.hid ((HB.out.alloc HB.out.size _).grown hg5 (by have := HB.out.size; simp; omega) (fun q hq => Kit.own_block_ge HO.out q hq))); clear hown5 hg5 hat5)
        go_roundw
        case rel => exact ⟨k + 1, by omega, by go_num, Lib.hid (HLE.out hx2), P1, B5⟩
        case measure => simp [intOf]; omega
    · obtain rfl : k = n := by omega
      obtain ⟨Av, cv, rfl, hcv, -, hrv⟩ := Kit.own_rd HO.out
      have RM2 := Lib.hid hrv
      have HR2 := Lib.hid ((HR.out.below HB.out).more HB.out.size)
      have HE1 := Lib.hid (up_gr G b (-1) k)
      have HE2 := Lib.hid (up_marg G b k)
      have HE3 := Lib.hid (up_ord G b k)
      have HUB : Hid (I32b (upF G b k)) := Lib.hid (fun i => by
        unfold upF
        split
        · rename_i h9
          have := HL.out i h9
          have := HG.out i
          omega
        · omega)
      clear HO HL HR hrv
      go_wp2_with (first
      | (go_at_call 7
         have hchk := w1
         clear hchk
         have hal : Below w1.heap.size w1 w1 := Below.refl _ _
         refine (same_b (best_to G k hf A c _ rfl _ HR2.out)).mono ?_
         rintro e w2 ⟨rfl, hb⟩
         have hh : Below w1.heap.size w1 w2 := hal.trans (hb.mono hal.size)
         replace HR2 := Lib.hid ((HR2.out.below hh).more hh.size)
         replace RM2 := Lib.hid ((RM2.out.below hh).more hh.size)
         replace HBW := Lib.hid (HBW.out.trans (hh.mono HBW.out.size))
         clear hb hh hal)
      | (go_at_call 7
         have hal : Below wr.heap.size wr wr := Below.refl _ _
         refine (same_b (best_to (upF G b k) k hf Av cv _ HE1.out _ RM2.out)).mono ?_
         rintro e w1 ⟨rfl, hb⟩
         have hh : Below wr.heap.size wr w1 := hal.trans (hb.mono hal.size)
         replace HR2 := Lib.hid ((HR2.out.below hh).more hh.size)
         replace RM2 := Lib.hid ((RM2.out.below hh).more hh.size)
         have HBW : Hid (Below wr.heap.size wr w1) := Lib.hid hh
         clear hb hh hal)
      | (go_at_call 9
         have hchk := w3
         clear hchk
         have hal : Below w3.heap.size w3 w3 := Below.refl _ _
         refine (quiet_b (margin_to G HG.out k hf A c _ rfl _ HR2.out)).mono ?_
         rintro e w4 ⟨rfl, hb⟩
         have hh : Below w3.heap.size w3 w4 := hal.trans (hb.mono hal.size)
         replace HR2 := Lib.hid ((HR2.out.below hh).more hh.size)
         replace RM2 := Lib.hid ((RM2.out.below hh).more hh.size)
         replace HBW := Lib.hid (HBW.out.trans (hh.mono HBW.out.size))
         clear hb hh hal)
      | (go_at_call 9
         have hal : Below w2.heap.size w2 w2 := Below.refl _ _
         refine (quiet_b (margin_to (upF G b k) HUB.out k hf Av cv _ HE2.out _ RM2.out)).mono ?_
         rintro e w3 ⟨rfl, hb⟩
         have hh : Below w2.heap.size w2 w3 := hal.trans (hb.mono hal.size)
         replace HR2 := Lib.hid ((HR2.out.below hh).more hh.size)
         replace RM2 := Lib.hid ((RM2.out.below hh).more hh.size)
         replace HBW := Lib.hid (HBW.out.trans (hh.mono HBW.out.size))
         clear hb hh hal)
      | (go_at_call 15
         have hchk := RA5
         clear hchk
         have hal : Below w5.heap.size w5 w5 := Below.refl _ _
         refine (order_to G k hf A c _ HR2.out).mono ?_
         rintro e w6 ⟨v6, rfl, ho6, hb⟩
         have hh : Below w5.heap.size w5 w6 := hal.trans (hb.mono hal.size)
         replace HR2 := Lib.hid ((HR2.out.below hh).more hh.size)
         replace RM2 := Lib.hid ((RM2.out.below hh).more hh.size)
         replace RA5 := Lib.hid ((RA5.out.below hh).more hh.size)
         replace HBW := Lib.hid (HBW.out.trans (hh.mono HBW.out.size))
         obtain ⟨A6, c6, rfl, hc6, -, hrd6⟩ := Kit.own_rd ho6
         have RA6 := Lib.hid hrd6
         clear ho6 hrd6
         clear hb hh hal)
      | (go_at_call 15
         have hal : Below w4.heap.size w4 w4 := Below.refl _ _
         refine (order_to (upF G b k) k hf Av cv _ RM2.out).mono ?_
         rintro e w5 ⟨v5, rfl, ho5, hb⟩
         have hh : Below w4.heap.size w4 w5 := hal.trans (hb.mono hal.size)
         replace HR2 := Lib.hid ((HR2.out.below hh).more hh.size)
         replace RM2 := Lib.hid ((RM2.out.below hh).more hh.size)
         replace HBW := Lib.hid (HBW.out.trans (hh.mono HBW.out.size))
         rw [HE3.out] at ho5
         obtain ⟨A5, c5, rfl, hc5, -, hrd5⟩ := Kit.own_rd ho5
         have RA5 := Lib.hid hrd5
         clear ho5 hrd5
         clear hb hh hal)
      | (go_at_call 14
         have hal : Below w6.heap.size w6 w6 := Below.refl _ _
         refine (quiet_b (rsame_yes (orderL G k) k (orderL_len G k) (by omega) A5 A6 c5 c6 _ RA5.out RA6.out)).mono ?_
         rintro e w7 ⟨rfl, hb⟩
         have hh : Below w6.heap.size w6 w7 := hal.trans (hb.mono hal.size)
         replace HR2 := Lib.hid ((HR2.out.below hh).more hh.size)
         replace RM2 := Lib.hid ((RM2.out.below hh).more hh.size)
         replace RA5 := Lib.hid ((RA5.out.below hh).more hh.size)
         replace RA6 := Lib.hid ((RA6.out.below hh).more hh.size)
         replace HBW := Lib.hid (HBW.out.trans (hh.mono HBW.out.size))
         clear hb hh hal)
      | (go_at_call 6
         have hal : Below w7.heap.size w7 w7 := Below.refl _ _
         refine (known22 _).mono ?_
         rintro e w8 ⟨rfl, hb⟩
         have hh : Below w7.heap.size w7 w8 := hal.trans (hb.mono hal.size)
         replace HR2 := Lib.hid ((HR2.out.below hh).more hh.size)
         replace RM2 := Lib.hid ((RM2.out.below hh).more hh.size)
         replace RA5 := Lib.hid ((RA5.out.below hh).more hh.size)
         replace RA6 := Lib.hid ((RA6.out.below hh).more hh.size)
         replace HBW := Lib.hid (HBW.out.trans (hh.mono HBW.out.size))
         clear hb hh hal))
      go_ret
      exact ⟨rfl, HB.out.trans (HBW.out.mono HB.out.size)⟩
theorem walk {w : World} (A : Option Addr) (zs : List Int) (c : Nat) (hc : zs.length ≤ c) (hm : c ≤ maxLen) (hw : ∀ n ∈ zs, (Lit.int .i32 n).wf = true) (hr : Kit.Rd w w.heap.size A (zs.map (.int .i32))) (b : Int) (wb : (Lit.int .u16 b).wf = true) :
    Calls Try.prog 5 #[.slice A zs.length c, .int .u16 b] w fun e w' => e = .returned (.bool true) ∧ Below w.heap.size w w' := by
  by_cases hf : zs.length ≤ 60
  · have hr2 : Kit.Rd w w.heap.size A (I32v (rowL (fun i => zs.getD i 0) zs.length)) := by rw [rowL_self]; exact hr
    have ⟨q1, q2⟩ : 0 ≤ b ∧ b ≤ 65535 := by simpa [Lit.wf, IntKind.min, IntKind.max, IntKind.signed, IntKind.bits] using wb
    exact walk_yes (fun i => zs.getD i 0) (i32b_of hw) A _ c b q1 q2 hf hr2
  · exact walk_no A _ c b hf
/-! ### the frame: written by program -/
theorem own : ownKnob Try.prog.godebug = none := by kernel_rfl
theorem laid : laidOutB Try.prog = true := by kernel_rfl
theorem contract {H : Type} {enc : TypeId × Value → H} {W : World} {base : Nat} {args : Array Value} {ds gs : List (DataW H)} {before : List MemPlace}
    (hval0 : ∀ (j : Nat) t v, Try.f5.params[j]? = some t → args[j]? = some v → Value.okWide Try.prog W .any base t v)
    (hW : DataW.Whole enc Try.prog Try.f5.params.toList Rows.rankGrowsSpec.vars false W args.toList ds gs before) :
    Calls Try.prog 5 args W fun e W' => e = .returned (.bool true) ∧ Below W.heap.size W W' := by
  have hval : ∀ (j : Nat) t v, Try.f5.params[j]? = some t → args[j]? = some v → Value.okWide Try.prog W .any base t v := hval0
  obtain ⟨p, q, hA0, hV, rfl, hfz, hnd⟩ := hW
  have hA : DataW.TrodAll enc Try.prog W 0 (fun _ => true) true Try.f5.params.toList args.toList ds p := hA0
  rw [Try.params5] at hA hval
  obtain ⟨v0, vs0, d0, ds0, p0, q0, hargs, rfl, rfl, h0, r0⟩ := trodAll_cons hA
  obtain ⟨v1, vs1, d1, ds1, p1, q1, rfl, rfl, rfl, h1, r1⟩ := trodAll_cons r0
  obtain ⟨rfl, rfl, rfl⟩ := trodAll_nil r1
  obtain rfl : args = #[v0, v1] := by cases args; simp_all
  clear hA0 hval0
  obtain ⟨A0, z0, c0, rfl, hc0, hm0, hw0, hr0⟩ := Kit.open_islice Try.underlying22 Try.underlying21 (by kernel_rfl) (hval 0 22 v0 rfl rfl) h0
  obtain ⟨a1, rfl, rfl, rfl, w1⟩ := open_int Try.underlying31 (hval 1 31 v1 rfl rfl) h1
  exact walk (w := W) A0 z0 c0 hc0 hm0 hw0 hr0 a1 w1
theorem fnIs {H : Type} : ∀ ds : List (DataW H), ds.length = Try.f5.params.toList.length → Rows.rankGrowsSpec.fn H ds = { results := [.lit (.bool true)], args := ds } := by
  intro ds h
  rw [Try.params5] at h
  match ds, h with
  | [d1, d2], _ => rfl
set_option maxRecDepth 100000 in
theorem lifted (os : Os) (started : os.Started) (H : Type) (enc : TypeId × Value → H) :
    ReturnsInHanded {} Try.checked os 5 .any (Rows.rankGrowsSpec.pre6 enc Try.prog Try.f5 Rows.rankGrowsRow.domain false) (Rows.rankGrowsSpec.post enc Try.prog Try.f5 false true false false) := by
  refine returnsInHanded_of_change (C := Try.checked) own started (by kernel_rfl) Try.func5
    (ChangeSpec.witness6 (enc := enc) (C := Try.checked) false ⟨#[], #[.slice none 0 0, .int .u16 0], []⟩ 8 (by kernel_rfl) (by kernel_rfl) (by kernel_rfl) (by kernel_rfl)) ?_
  intro W base args ds gs before hval hW _ _
  refine (contract hval hW).mono fun e W' ⟨he, hg⟩ => ?_
  subst he
  exact ⟨_, rfl, Kit.law_post (tb := 4) laid (by kernel_rfl) rfl (by kernel_rfl) Try.underlying4 fnIs hW hg⟩
theorem over : Rows.rankGrowsRow.holds Try.pinned (OpenSpec.ofChange Rows.rankGrowsSpec) :=
  OpenClaim.holds_of_wide 5 Try.f5 rfl rfl rfl rfl rfl rfl rfl ⟨rfl, rfl, rfl, rfl, rfl⟩ rfl rfl rfl rfl rfl (by kernel_rfl) Try.func5 (by kernel_rfl)
    (of_decide_eq_true (by kernel_rfl)) (by unfold Func.isWrapper; first | (rw [if_pos (by decide +kernel)]; kernel_rfl) | (rw [if_neg (by decide +kernel)]; exact ⟨rfl, rfl⟩))
    (fun os started H enc _ => lifted os started H enc)
/-- the statement. -/
theorem proved : Rows.RankGrowsSaid :=
  over
end Go.Proofs.Ytlpnaacagbgnkaa.lawRankGrows
