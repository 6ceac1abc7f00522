/- LebPuts: any number's bytes, without a sign and with one, and how many they are, are those of the document; the call returns true and leaves its arguments as they were. No condition. -/
import Derived.Test.YtikendjjolpnoaaLebRefTwo
namespace Go.Proofs.Ytikendjjolpnoaa.lawLebPuts
open Go Go.ChangeShapes Go.WideShapes Go.ChangeAt Go.RowKit
open LebNum CLeb
set_option linter.unusedVariables false

theorem walk (n : Int) (wn : (Lit.int .u64 n).wf = true) (v : Int) (wv : (Lit.int .i64 v).wf = true) (w : World) :
    Calls Try.prog 6 #[.int .u64 n, .int .i64 v] w fun e w' => e = .returned (.bool true) ∧ Below w.heap.size w w' := by
  obtain ⟨n1, n2⟩ := bounds_u64 wn
  obtain ⟨v1, v2⟩ := bounds_i64 wv
  clear wn wv
  have n3 : n ≤ 18446744073709551615 := by omega
  have v3 : v ≤ 9223372036854775807 := by omega
  obtain ⟨f1, f2⟩ := foldZ_bd v1 v3
  obtain ⟨l1, l2⟩ := digZ_len n1 n3
  obtain ⟨m1, m2⟩ := digZ_len f1 f2
  obtain ⟨f, hf⟩ : ∃ f, foldZ v = f := ⟨_, rfl⟩
  rw [hf] at f1 f2 m1 m2
  have HD2 := Lib.hid (congrArg digZ hf)
  obtain ⟨ds, hd⟩ : ∃ ds, digZ n = ds := ⟨_, rfl⟩
  obtain ⟨es, he⟩ : ∃ es, digZ f = es := ⟨_, rfl⟩
  rw [hd] at l1 l2
  rw [he] at m1 m2
  obtain ⟨L, hL⟩ : ∃ L, ds.length = L := ⟨_, rfl⟩
  obtain ⟨M, hM⟩ : ∃ M, es.length = M := ⟨_, rfl⟩
  rw [hL] at l1 l2
  rw [hM] at m1 m2
  have hsz : (digZ n).length = L := by rw [hd, hL]
  have HF := Lib.hid hf
  have HD := Lib.hid hd
  have HE := Lib.hid he
  have HL := Lib.hid hL
  have HM := Lib.hid hM
  have HS := Lib.hid hsz
  have HI := Lib.hid (HD2.out.trans he)
  have hL6 : L ≤ 1000000 := by omega
  have hM6 : M ≤ 1000000 := by omega
  clear hf hd he hL hM hsz HD2
  have HB := Lib.hid (Below.refl w.heap.size w)
  go_enter Try.func6, Try.ntmps6
  go_wp2_with (first
    | (go_at_call 29; ((with_reducible refine (put_to n n1 n3 ds L HD.out HL.out _).mono ?_); (rintro e w1 ⟨A1, c1, rfl, _, _, hr1, hb1⟩; have RA := Lib.hid hr1; replace HB := Lib.hid (HB.out.trans (hb1.mono HB.out.size)); clear hr1 hb1)))
    | (go_at_call 30; ((with_reducible refine (refPut_to n n1 n3 ds L HD.out HL.out _).mono ?_); (rintro e w2 ⟨A2, c2, rfl, _, _, hr2, hb2⟩; (try replace RA := Lib.hid (RA.out.below hb2)); have RB := Lib.hid hr2; replace HB := Lib.hid (HB.out.trans (hb2.mono HB.out.size)); clear hr2 hb2)))
    | (go_at_call 28; ((with_reducible refine (same_yes _ _ ds L _ _ HL.out hL6 _ RA.out RB.out).mono ?_); (rintro e w3 ⟨rfl, m3, rfl⟩; replace HB := Lib.hid (Kit.below_drewN HB.out m3); clear RA RB)))
    | (go_at_call 31; ((with_reducible refine (size_to n n1 n3 L HS.out _).mono ?_); (rintro e w4 ⟨rfl, rfl⟩)))
    | (go_at_call 32; ((with_reducible refine (putInt_to v v1 v3 es M HI.out HM.out _).mono ?_); (rintro e w5 ⟨A5, c5, rfl, _, _, hr5, hb5⟩; have RC := Lib.hid hr5; replace HB := Lib.hid (HB.out.trans (hb5.mono HB.out.size)); clear hr5 hb5)))
    | (go_at_call 33; ((with_reducible refine (fold_to v f v1 v3 HF.out _).mono ?_); (rintro e w6 ⟨rfl, rfl⟩)))
    | (go_at_call 30; ((with_reducible refine (refPut_to f f1 f2 es M HE.out HM.out _).mono ?_); (rintro e w7 ⟨A7, c7, rfl, _, _, hr7, hb7⟩; replace RC := Lib.hid (RC.out.below hb7); have RD := Lib.hid hr7; replace HB := Lib.hid (HB.out.trans (hb7.mono HB.out.size)); clear hr7 hb7)))
    | (go_at_call 28; ((with_reducible refine (same_yes _ _ es M _ _ HM.out hM6 _ RC.out RD.out).mono ?_); (rintro e w8 ⟨rfl, m8, rfl⟩; replace HB := Lib.hid (Kit.below_drewN HB.out m8); clear RC RD)))
    | (go_at_call 34; refine (known06 _).mono ?_; rintro e w' ⟨rfl, hb⟩; replace HB := Lib.hid (HB.out.trans (hb.mono HB.out.size)); clear hb))
  go_ret
  exact ⟨rfl, HB.out⟩
/-! ### the frame: written by program -/
theorem own : ownKnob Try.prog.godebug = none := by kernel_rfl
theorem laid : laidOutB Try.prog = true := by kernel_rfl
theorem contract {H : Type} {enc : TypeId × Value → H} {W : World} {base : Nat} {args : Array Value} {ds gs : List (DataW H)} {before : List MemPlace}
    (hval0 : ∀ (j : Nat) t v, Try.f6.params[j]? = some t → args[j]? = some v → Value.okWide Try.prog W .any base t v)
    (hW : DataW.Whole enc Try.prog Try.f6.params.toList Rows.lebPutsSpec.vars false W args.toList ds gs before) :
    Calls Try.prog 6 args W fun e W' => e = .returned (.bool true) ∧ Below W.heap.size W W' := by
  have hval : ∀ (j : Nat) t v, Try.f6.params[j]? = some t → args[j]? = some v → Value.okWide Try.prog W .any base t v := hval0
  obtain ⟨p, q, hA0, hV, rfl, hfz, hnd⟩ := hW
  have hA : DataW.TrodAll enc Try.prog W 0 (fun _ => true) true Try.f6.params.toList args.toList ds p := hA0
  rw [Try.params6] at hA hval
  obtain ⟨v0, vs0, d0, ds0, p0, q0, hargs, rfl, rfl, h0, r0⟩ := trodAll_cons hA
  obtain ⟨v1, vs1, d1, ds1, p1, q1, rfl, rfl, rfl, h1, r1⟩ := trodAll_cons r0
  obtain ⟨rfl, rfl, rfl⟩ := trodAll_nil r1
  obtain rfl : args = #[v0, v1] := by cases args; simp_all
  clear hA0 hval0
  obtain ⟨a0, rfl, rfl, rfl, w0⟩ := open_int Try.underlying55 (hval 0 55 v0 rfl rfl) h0
  obtain ⟨a1, rfl, rfl, rfl, w1⟩ := open_int Try.underlying2 (hval 1 2 v1 rfl rfl) h1
  exact walk (w := W) a0 w0 a1 w1
theorem fnIs {H : Type} : ∀ ds : List (DataW H), ds.length = Try.f6.params.toList.length → Rows.lebPutsSpec.fn H ds = { results := [.lit (.bool true)], args := ds } := by
  intro ds h
  rw [Try.params6] at h
  match ds, h with
  | [d1, d2], _ => rfl
set_option maxRecDepth 100000 in
theorem lifted (os : Os) (started : os.Started) (H : Type) (enc : TypeId × Value → H) :
    ReturnsInHanded {} Try.checked os 6 .any (Rows.lebPutsSpec.pre6 enc Try.prog Try.f6 Rows.lebPutsRow.domain false) (Rows.lebPutsSpec.post enc Try.prog Try.f6 false true false false) := by
  refine returnsInHanded_of_change (C := Try.checked) own started (by kernel_rfl) Try.func6
    (ChangeSpec.witness6 (enc := enc) (C := Try.checked) false ⟨#[], #[.int .u64 0, .int .i64 0], []⟩ 8 (by kernel_rfl) (by kernel_rfl) (by kernel_rfl) (by kernel_rfl)) ?_
  intro W base args ds gs before hval hW _ _
  refine (contract hval hW).mono fun e W' ⟨he, hg⟩ => ?_
  subst he
  exact ⟨_, rfl, Kit.law_post (tb := 4) laid (by kernel_rfl) rfl (by kernel_rfl) Try.underlying4 fnIs hW hg⟩
theorem over : Rows.lebPutsRow.holds Try.pinned (OpenSpec.ofChange Rows.lebPutsSpec) :=
  OpenClaim.holds_of_wide 6 Try.f6 rfl rfl rfl rfl rfl rfl rfl ⟨rfl, rfl, rfl, rfl, rfl⟩ rfl rfl rfl rfl rfl (by kernel_rfl) Try.func6 (by kernel_rfl)
    (of_decide_eq_true (by kernel_rfl)) (by unfold Func.isWrapper; first | (rw [if_pos (by decide +kernel)]; kernel_rfl) | (rw [if_neg (by decide +kernel)]; exact ⟨rfl, rfl⟩))
    (fun os started H enc _ => lifted os started H enc)
/-- the statement. -/
theorem proved : Rows.LebPutsSaid :=
  over
end Go.Proofs.Ytikendjjolpnoaa.lawLebPuts
