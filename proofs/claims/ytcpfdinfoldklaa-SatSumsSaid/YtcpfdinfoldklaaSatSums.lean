/- SatSums: any numbers together, or that they do not fit, is that of the document; taken in two parts it is the same; the call returns true and leaves its arguments as they were. No condition. -/
import Derived.Test.YtcpfdinfoldklaaSatKnown
namespace Go.Proofs.Ytcpfdinfoldklaa.lawSatSums
open Go Go.ChangeShapes Go.WideShapes Go.ChangeAt Go.RowKit
open Plain CSat
set_option linter.unusedVariables false

theorem sumL (A : Option Addr) (zs : List Int) (m c : Nat) (r : Option Int) (hm : m = zs.length) (hl : zs.length ≤ 9223372036854775807) (hz : I64s zs) (w : World) {B : Nat} (hr : Kit.Rd w B A (zs.map (.int .i64))) (h : sumO 0 zs = r) :
    Calls Try.prog 23 #[.slice A m c] w fun e w' => e = .returned (.tuple #[.int .i64 (r.getD 0), .bool r.isSome]) ∧ w = w' := by
  subst hm h; exact sum A zs c hl hz w hr
theorem refSumL (A : Option Addr) (zs : List Int) (m c : Nat) (r : Option Int) (hm : m = zs.length) (hl : zs.length ≤ 9223372036854775807) (hz : I64s zs) (w : World) {B : Nat} (hr : Kit.Rd w B A (zs.map (.int .i64))) (h : sumO 0 zs = r) :
    Calls Try.prog 24 #[.slice A m c] w fun e w' => e = .returned (.tuple #[.int .i64 (r.getD 0), .bool r.isSome]) ∧ w = w' := by
  subst hm h; exact refSum A zs c hl hz w hr
theorem sumL_some (A : Option Addr) (zs : List Int) (m c : Nat) (r : Int) (hm : m = zs.length) (hl : zs.length ≤ 9223372036854775807) (hz : I64s zs) (w : World) {B : Nat} (hr : Kit.Rd w B A (zs.map (.int .i64))) (h : sumO 0 zs = some r) :
    Calls Try.prog 23 #[.slice A m c] w fun e w' => e = .returned (.tuple #[.int .i64 r, .bool true]) ∧ w = w' := sumL A zs m c (some r) hm hl hz w hr h
theorem sumL_none (A : Option Addr) (zs : List Int) (m c : Nat) (hm : m = zs.length) (hl : zs.length ≤ 9223372036854775807) (hz : I64s zs) (w : World) {B : Nat} (hr : Kit.Rd w B A (zs.map (.int .i64))) (h : sumO 0 zs = none) :
    Calls Try.prog 23 #[.slice A m c] w fun e w' => e = .returned (.tuple #[.int .i64 0, .bool false]) ∧ w = w' := sumL A zs m c none hm hl hz w hr h
theorem refSumL_none (A : Option Addr) (zs : List Int) (m c : Nat) (hm : m = zs.length) (hl : zs.length ≤ 9223372036854775807) (hz : I64s zs) (w : World) {B : Nat} (hr : Kit.Rd w B A (zs.map (.int .i64))) (h : sumO 0 zs = none) :
    Calls Try.prog 24 #[.slice A m c] w fun e w' => e = .returned (.tuple #[.int .i64 0, .bool false]) ∧ w = w' := refSumL A zs m c none hm hl hz w hr h
theorem I64s.take {zs : List Int} (h : I64s zs) (k : Nat) : I64s (zs.take k) := fun z hz => h z (List.mem_of_mem_take hz)
theorem I64s.drop {zs : List Int} (h : I64s zs) (k : Nat) : I64s (zs.drop k) := fun z hz => h z (List.mem_of_mem_drop hz)
theorem info3 : (Try.prog.info? 3).map (fun i => (i.zero, i.size, i.bytes)) = some (some (.int .i64 0), 1, 8) := by kernel_rfl

theorem walk (A : Option Addr) (zs : List Int) (c : Nat) (hc : zs.length ≤ c) (hm : c ≤ maxLen) (hw : ∀ n ∈ zs, (Lit.int .i64 n).wf = true) (w : World) (hr : Kit.Rd w w.heap.size A (zs.map (.int .i64))) (at_ : Int) (wat : (Lit.int .u8 at_).wf = true) :
    Calls Try.prog 6 #[.slice A zs.length c, .int .u8 at_] w fun e w' => e = .returned (.bool true) ∧ Below w.heap.size w w' := by
  obtain ⟨hat1, hat2⟩ := u8_bd wat
  obtain ⟨n, rfl⟩ := Int.eq_ofNat_of_zero_le hat1
  have hz : I64s zs := fun z h => i64_bd (hw z h)
  unfold maxLen at hm
  by_cases hl : zs.length > 200
  · go_enter Try.func6, Try.ntmps6
    go_wp2_with (go_at_call 17; refine (known _).mono ?_; rintro e w' ⟨rfl, hb⟩)
    go_ret
    exact ⟨rfl, hb⟩
  · obtain ⟨k, hk⟩ : ∃ k, k = n % (zs.length + 1) := ⟨_, rfl⟩
    have hkl : k ≤ zs.length := by have := Nat.mod_lt n (show 0 < zs.length + 1 by omega); omega
    have hki : (n : Int) % ((zs.length : Int) + 1) = (k : Int) := by subst hk; simp
    have hcond : 0 ≤ (n : Int) % ((zs.length : Int) + 1) ∧ (n : Int) % ((zs.length : Int) + 1) ≤ (c : Int) := by rw [hki]; omega
    have hcond2 : 0 ≤ (n : Int) % ((zs.length : Int) + 1) ∧ (n : Int) % ((zs.length : Int) + 1) ≤ (zs.length : Int) := by rw [hki]; omega
    clear hki
    have hsplit : sumO 0 zs = (sumO 0 (zs.take k)).bind fun s => sumO s (zs.drop k) := by rw [← sumO_append, List.take_append_drop]
    have hlt : (zs.take k).length = k := by rw [List.length_take]; omega
    have hrt : Kit.Rd w w.heap.size A ((zs.take k).map (.int .i64)) := by rw [List.map_take]; exact hr.take k
    have HKE := Lib.hid hk
    have HLM := Lib.hid (show n % (zs.length + 1) = (zs.take k).length by rw [hlt, hk])
    have hlt2 : (zs.take k).length ≤ 9223372036854775807 := by omega
    have HLT2 := Lib.hid hlt2
    have hzl : zs.length ≤ 9223372036854775807 := by omega
    have HLT := Lib.hid hlt
    have hzt := I64s.take hz k
    have HZT := Lib.hid hzt
    have HRT := Lib.hid hrt
    have HS := Lib.hid hsplit
    have HZ := Lib.hid hz
    have HR := Lib.hid hr
    clear hr hz hw hlt hrt hsplit hk hlt2 hzt
    rcases hp : sumO 0 (zs.take k) with _ | a
    · have hall : sumO 0 zs = none := by rw [HS.out, hp]; rfl
      have HP := Lib.hid hp
      have HA := Lib.hid hall
      clear hp hall
      go_enter Try.func6, Try.ntmps6
      go_wp2_with (first
        | (go_at_call 23; with_reducible refine (sumL_none A zs zs.length c rfl hzl HZ.out _ HR.out HA.out).mono ?_; rintro e w' ⟨rfl, rfl⟩)
        | (go_at_call 24; refine (refSumL_none A zs zs.length c rfl hzl HZ.out _ HR.out HA.out).mono ?_; rintro e w' ⟨rfl, rfl⟩)
        | (go_at_call 23; with_reducible refine (sumL_none A (zs.take k) _ c HLM.out HLT2.out HZT.out _ HRT.out HP.out).mono ?_; rintro e w' ⟨rfl, rfl⟩)
        | (go_at_call 17; refine (known _).mono ?_; rintro e w' ⟨rfl, hb⟩))
      go_ret
      exact ⟨rfl, hb⟩
    · obtain ⟨r, hall⟩ : ∃ r, sumO 0 zs = r := ⟨_, rfl⟩
      obtain ⟨hab1, hab2⟩ := sumO_bd (by omega) hp
      have hd : sumO 0 (a :: zs.drop k) = r := by
        simp only [sumO, Int.zero_add]
        rw [fits_yes hab1 hab2, if_pos rfl, ← hall, HS.out, hp]; rfl
      have hrd : Kit.Rd w w.heap.size (if c = k then A else A.map (·.add k)) ((zs.drop k).map (.int .i64)) := by
        rw [List.map_drop]; exact HR.out.cut (by simpa using hc)
      have hzd : I64s (a :: zs.drop k) := by
        intro z h
        rcases List.mem_cons.1 h with rfl | h
        · omega
        · exact I64s.drop HZ.out k z h
      have hdl : (a :: zs.drop k).length ≤ 9223372036854775807 := by simp; omega
      have hdm : 1 + (zs.length - k) = (a :: zs.drop k).length := by simp; omega
      have hdn : ((zs.drop k).map (Value.int .i64)).length = (zs.length - k) * 1 := by simp
      have h63 : 1 + (zs.length - k) ≤ maxLen := by unfold maxLen; omega
      have h47 : (1 + (zs.length - k)) * 8 ≤ 140737488355328 := by omega
      have hone := Kit.ints_one .i64 (zs.drop k)
      rw [HKE.out] at hd hrd hzd hdl hdm hdn h63 h47 hone
      have HA := Lib.hid hall
      have HP := Lib.hid hp
      have HD := Lib.hid hd
      have HRD := Lib.hid hrd
      have HZD := Lib.hid hzd
      have HDL := Lib.hid hdl
      have HDM := Lib.hid hdm
      have HDN := Lib.hid hdn
      have H63 := Lib.hid h63
      have H47 := Lib.hid h47
      have HONE := Lib.hid hone
      clear hall hp hd hrd hzd hdl hdm hdn h63 h47 hone
      obtain ⟨i0, hi0, hz0, hz1, hz2⟩ := info_parts info3
      go_enter Try.func6, Try.ntmps6
      go_wp2_with (first
        | (at_builtin; refine Kit.wpList_append_rd _ rfl (.tmp 58) (.tmp 61) _ rfl w.heap.size 3 i0 (.int .i64 0) 1 8 Try.underlying33 hi0 hz0 hz1 hz2 rfl (by decide) (.slice (some ⟨w.heap.size, 0, none⟩) 1 1) 1 [.int .i64 a] rfl (World.ownsRow_lit w #[.int .i64 a] 1 (Nat.le_refl _) (by unfold maxLen; omega) rfl) w.heap.size _ _ _ _ rfl HDN.out (HRD.out.alloc (Nat.le_refl _) _) HONE.out H63.out H47.out (by simp) ?_; intro v1 w1 hown1 hg1 hat1; clear hat1; obtain ⟨g, cap, rfl, hgb, hgc, hgm, hrd1⟩ := Kit.own_form hown1 (by omega); have hbel : Below w.heap.size w w1 := ((Below.refl _ _).alloc (Nat.le_refl _) _).grown hg1 (by simp) (fun q hq => by simp [Value.ownBlock] at hq; omega); have HRE := Lib.hid hrd1; have HBE := Lib.hid hbel; clear hown1 hg1 hrd1 hbel hgb hgc hgm)
        | (go_at_call 23; with_reducible refine (sumL A zs zs.length c r rfl hzl HZ.out _ HR.out HA.out).mono ?_; rintro e w' ⟨rfl, rfl⟩)
        | (go_at_call 24; refine (refSumL A zs zs.length c r rfl hzl HZ.out _ HR.out HA.out).mono ?_; rintro e w' ⟨rfl, rfl⟩)
        | (go_at_call 23; with_reducible refine (sumL_some A (zs.take k) _ c a HLM.out HLT2.out HZT.out _ HRT.out HP.out).mono ?_; rintro e w' ⟨rfl, rfl⟩)
        | (go_at_call 23; with_reducible refine (sumL _ (a :: zs.drop (n % (zs.length + 1))) _ cap r HDM.out HDL.out HZD.out _ HRE.out HD.out).mono ?_; rintro e w' ⟨rfl, rfl⟩)
        | (go_at_call 17; refine (known _).mono ?_; rintro e w' ⟨rfl, hb⟩))
      all_goals
        have hsz := HBE.out.size
        go_ret
        exact ⟨rfl, HBE.out.trans (hb.mono hsz)⟩

/-! ### the frame: written by program -/
theorem own : ownKnob Try.prog.godebug = none := by kernel_rfl
theorem laid : laidOutB Try.prog = true := by kernel_rfl
theorem contract {H : Type} {enc : TypeId × Value → H} {W : World} {base : Nat} {args : Array Value} {ds gs : List (DataW H)} {before : List MemPlace}
    (hval0 : ∀ (j : Nat) t v, Try.f6.params[j]? = some t → args[j]? = some v → Value.okWide Try.prog W .any base t v)
    (hW : DataW.Whole enc Try.prog Try.f6.params.toList Rows.satSumsSpec.vars false W args.toList ds gs before) :
    Calls Try.prog 6 args W fun e W' => e = .returned (.bool true) ∧ Below W.heap.size W W' := by
  have hval : ∀ (j : Nat) t v, Try.f6.params[j]? = some t → args[j]? = some v → Value.okWide Try.prog W .any base t v := hval0
  obtain ⟨p, q, hA0, hV, rfl, hfz, hnd⟩ := hW
  have hA : DataW.TrodAll enc Try.prog W 0 (fun _ => true) true Try.f6.params.toList args.toList ds p := hA0
  rw [Try.params6] at hA hval
  obtain ⟨v0, vs0, d0, ds0, p0, q0, hargs, rfl, rfl, h0, r0⟩ := trodAll_cons hA
  obtain ⟨v1, vs1, d1, ds1, p1, q1, rfl, rfl, rfl, h1, r1⟩ := trodAll_cons r0
  obtain ⟨rfl, rfl, rfl⟩ := trodAll_nil r1
  obtain rfl : args = #[v0, v1] := by cases args; simp_all
  clear hA0 hval0
  obtain ⟨A0, z0, c0, rfl, hc0, hm0, hw0, hr0⟩ := Kit.open_islice Try.underlying33 Try.underlying3 (by kernel_rfl) (hval 0 33 v0 rfl rfl) h0
  obtain ⟨a1, rfl, rfl, rfl, w1⟩ := open_int Try.underlying5 (hval 1 5 v1 rfl rfl) h1
  exact walk (w := W) A0 z0 c0 hc0 hm0 hw0 hr0 a1 w1
theorem fnIs {H : Type} : ∀ ds : List (DataW H), ds.length = Try.f6.params.toList.length → Rows.satSumsSpec.fn H ds = { results := [.lit (.bool true)], args := ds } := by
  intro ds h
  rw [Try.params6] at h
  match ds, h with
  | [d1, d2], _ => rfl
set_option maxRecDepth 100000 in
theorem lifted (os : Os) (started : os.Started) (H : Type) (enc : TypeId × Value → H) :
    ReturnsInHanded {} Try.checked os 6 .any (Rows.satSumsSpec.pre6 enc Try.prog Try.f6 Rows.satSumsRow.domain false) (Rows.satSumsSpec.post enc Try.prog Try.f6 false true false false) := by
  refine returnsInHanded_of_change (C := Try.checked) own started (by kernel_rfl) Try.func6
    (ChangeSpec.witness6 (enc := enc) (C := Try.checked) false ⟨#[], #[.slice none 0 0, .int .u8 0], []⟩ 8 (by kernel_rfl) (by kernel_rfl) (by kernel_rfl) (by kernel_rfl)) ?_
  intro W base args ds gs before hval hW _ _
  refine (contract hval hW).mono fun e W' ⟨he, hg⟩ => ?_
  subst he
  exact ⟨_, rfl, Kit.law_post (tb := 4) laid (by kernel_rfl) rfl (by kernel_rfl) Try.underlying4 fnIs hW hg⟩
theorem over : Rows.satSumsRow.holds Try.pinned (OpenSpec.ofChange Rows.satSumsSpec) :=
  OpenClaim.holds_of_wide 6 Try.f6 rfl rfl rfl rfl rfl rfl rfl ⟨rfl, rfl, rfl, rfl, rfl⟩ rfl rfl rfl rfl rfl (by kernel_rfl) Try.func6 (by kernel_rfl)
    (of_decide_eq_true (by kernel_rfl)) (by unfold Func.isWrapper; first | (rw [if_pos (by decide +kernel)]; kernel_rfl) | (rw [if_neg (by decide +kernel)]; exact ⟨rfl, rfl⟩))
    (fun os started H enc _ => lifted os started H enc)
/-- the statement. -/
theorem proved : Rows.SatSumsSaid :=
  over
end Go.Proofs.Ytcpfdinfoldklaa.lawSatSums
