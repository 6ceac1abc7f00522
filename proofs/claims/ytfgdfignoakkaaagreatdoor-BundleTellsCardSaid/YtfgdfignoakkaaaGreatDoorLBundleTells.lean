/- Layer 35 (bundle), BundleTells: with one byte that is another one no bundle is decoded: whatever the bundle, the place and the change; the call returns true and leaves its arguments as they were. Conditions: the tables that the card lists, as the program's text lays them. -/
import Derived.Test.YtfgdfignoakkaaaGreatDoorTie
import Derived.Test.YtfgdfignoakkaaaGreatDoorCards
import Derived.Test.YtfgdfignoakkaaaGreatDoorGBT50
namespace Go.Proofs.YtfgdfignoakkaaaGreatDoor.CBunM
end Go.Proofs.YtfgdfignoakkaaaGreatDoor.CBunM
namespace Go.Proofs.YtfgdfignoakkaaaGreatDoor.CKind
end Go.Proofs.YtfgdfignoakkaaaGreatDoor.CKind
namespace Go.Proofs.YtfgdfignoakkaaaGreatDoor.Kit
end Go.Proofs.YtfgdfignoakkaaaGreatDoor.Kit
namespace Go.Proofs.YtfgdfignoakkaaaGreatDoor.lawBundleTells
open Go Go.ChangeShapes Go.WideShapes Go.ChangeAt Go.RowKit Go.Deep
open Kit LebNum CrcNum CCrc CKind CBund CBunM CBunL CBunO CValid
set_option maxRecDepth 100000
set_option linter.unusedVariables false
set_option linter.unusedSimpArgs false
def zu : Bu := ⟨0, 0, 0, 0, none, 0, 0, fun _ => md0⟩
def zp : PU := ⟨0, 0, 0, 0, 0, fun _ => ⟨0, fun _ => ⟨0, fun _ => ⟨CGraph.nd0, [], []⟩, false, 0, [], []⟩⟩⟩
theorem zin (w : World) : BuIn false w 0 w.heap.size zu zp := ⟨⟨rfl, rfl, rfl, rfl⟩, rfl, ⟨Nat.le_refl _, Nat.zero_le _⟩, fun j hj => absurd hj (Nat.not_lt_zero _), fun j hj => absurd hj (Nat.not_lt_zero _)⟩
theorem zfew : zp.few := ⟨Nat.zero_le _, fun j hj => absurd hj (Nat.not_lt_zero _)⟩
theorem zsame (w : World) : Calls Tryz.prog 14 #[.agg #[.int .i64 0, .int .i64 0, .int .i64 0, .int .i64 0, .slice none 0 0], .agg #[.int .i64 0, .int .i64 0, .int .i64 0, .int .i64 0, .slice none 0 0]] w fun e w' => e = .returned (.bool true) ∧ Below w.heap.size w w' :=
  sbun_yes zu zu zp zfew w (zin w) (zin w) (Nat.le_refl _) (Nat.le_refl _)
def EncN (w : World) (e : Ending) (w' : World) : Prop :=
  ((∃ er : Int, er ≠ 0 ∧ e = .returned (.tuple #[.slice none 0 0, .int .i64 er])) ∨
    (∃ A c n ys, ys.length + 4 = n ∧ e = .returned (.tuple #[.slice A n c, .int .i64 0]) ∧ n ≤ c ∧ c ≤ maxLen ∧ n ≤ 1048576 ∧ 4 ≤ ys.length ∧ ys.take 4 = magicZ ∧ U8s ys ∧ RdX true w' w.heap.size w'.heap.size A ((sealZ ys).map (.int .u8)))) ∧ Below w.heap.size w w'
theorem encN {w w' : World} {e : Ending} (h : EncW w e w') : EncN w e w' := by
  obtain ⟨h1 | ⟨A, c, ys, h2, h3⟩, hb⟩ := h
  · exact ⟨.inl h1, hb⟩
  · exact ⟨.inr ⟨A, c, _, ys, rfl, h2, h3⟩, hb⟩
def FewIs2 (b : Bool) (p : Prop) : Prop := b = true → p
set_option maxHeartbeats 16000000 in
theorem walk {w : World} (u : Bu) (hu : BuOk w w.heap.size u) (pa : Int) (wpa : (Lit.int .u16 pa).wf = true) (b : Int) (wb : (Lit.int .u8 b).wf = true) (hT : za5 w ∧ zad w) :
    Calls Tryz.prog 7 #[.agg u.val.toArray, .int .u16 pa, .int .u8 b] w fun e w' => e = .returned (.bool true) ∧ Below w.heap.size w w' := by
  have hp := u16_bd wpa
  have hb := u8_bd wb
  have CF : Hid (∀ wx, Below w.heap.size w wx → Calls Tryz.prog 8 #[.agg u.val.toArray] wx fun e w' => ∃ b, e = .returned (.bool b) ∧ (b = true → FewBu u) ∧ Below wx.heap.size wx w') :=
    Lib.hid (fun wx hx => rfew33_to u wx ((hu.below hx).more hx.size))
  have CK : Hid (∀ wx, Below w.heap.size w wx → Calls Tryz.prog 9 #[] wx fun e w' => e = .returned (.bool true) ∧ Below wx.heap.size wx w') :=
    Lib.hid (fun wx hx => known35 wx (hT.1.below hx hT.1.size))
  have CE : Hid (∀ (hf : FewBu u) wx, Below w.heap.size w wx → Calls Tryz.prog 10 #[.agg u.val.toArray] wx (EncW wx)) :=
    Lib.hid (fun hf wx hx => enc_few u ((hu.below hx).more hx.size) hf ⟨hT.1.below hx hT.1.size, hT.2.grown hx⟩)
  have HT := Lib.hid hT
  have HB0 := Lib.hid ((Below.refl w.heap.size w).alloc (Nat.le_refl _) (.cells u.val.toArray 26))
  have HBX := Lib.hid (CBox.new u.val 26 w)
  have HSZ : Hid (w.heap.size < (w.alloc (.cells u.val.toArray 26)).heap.size) := Lib.hid (by simp)
  have HPB := Lib.hid (And.intro hp hb)
  clear hu hT hp hb wpa wb
  by_cases hb0 : b = 0
  · subst hb0
    go_enter Tryz.func7, Tryz.ntmps7
    go_upto_region 1 with fail
    generalize w.alloc (.cells u.val.toArray 26) = W0 at HB0 HBX HSZ ⊢
    go_wp2_with (first
      | (refine bu_load rfl _ rfl w.heap.size u rfl HBX.out.1 ?_)
      | (go_at_call 8
         refine (CF.out _ HB0.out).mono ?_
         rintro e w1 ⟨bf, rfl, hfew, hb⟩
         have HB1 := Lib.hid (HB0.out.trans (hb.mono HB0.out.size))
         clear hfew hb
         rcases bf with _ | _)
      | (go_at_call 9
         refine (CK.out _ HB1.out).mono ?_
         rintro e w2 ⟨rfl, hb⟩
         have HB2 := Lib.hid (HB1.out.trans (hb.mono HB1.out.size))
         clear hb))
    all_goals go_ret
    all_goals exact ⟨rfl, HB2.out⟩
  have hb1 : (b == 0) = false := by simpa using hb0
  have HBN := Lib.hid hb0
  clear hb0
  go_enter Tryz.func7, Tryz.ntmps7
  go_upto_region 1 with fail
  generalize w.alloc (.cells u.val.toArray 26) = W0 at HB0 HBX HSZ ⊢
  go_upto_region 3 with (first
    | (refine bu_load rfl _ rfl w.heap.size u rfl HBX.out.1 ?_)
    | (go_at_call 8
       refine (CF.out _ HB0.out).mono ?_
       rintro e w1 ⟨bf, rfl, hfew, hb⟩
       have HB1 := Lib.hid (HB0.out.trans (hb.mono HB0.out.size))
       have HBX1 := Lib.hid (HBX.out.below HSZ.out hb)
       have HFW : Hid (FewIs2 bf (FewBu u)) := Lib.hid hfew
       clear hfew hb
       rcases bf with _ | _)
    | (go_at_call 9
       refine (CK.out _ HB1.out).mono ?_
       rintro e w2 ⟨rfl, hb⟩
       have HB2 := Lib.hid (HB1.out.trans (hb.mono HB1.out.size))
       clear hb))
  · go_ret
    exact ⟨rfl, HB2.out⟩
  have CE1 := Lib.hid ((CE.out (HFW.out rfl) w1 HB1.out).mono (fun _ _ h => encN h))
  clear HB0 HBX HSZ HFW CE hb1
  unfold EncN at CE1
  go_upto_region 4 with (first
    | (refine bu_load rfl _ rfl w.heap.size u rfl HBX1.out.1 ?_)
    | (go_at_call 10
       refine CE1.out.mono ?_
       rintro e w2 ⟨hres, hb⟩
       have HB2 := Lib.hid (HB1.out.trans (hb.mono HB1.out.size))
       have HRES := Lib.hid hres
       clear hb
       rcases hres with ⟨er, her, rfl⟩ | ⟨A, c, n, ys, hn, rfl, r1, r2, r3, r4, r5, r6, r7⟩))
  · have h1 : (er != 0) = true := by simpa using her
    clear her HRES
    go_wp2_with (first
      | (go_at_call 9
         refine (CK.out _ HB2.out).mono ?_
         rintro e w3 ⟨rfl, hb⟩
         have HB3 := Lib.hid (HB2.out.trans (hb.mono HB2.out.size))
         clear hb))
    go_ret
    exact ⟨rfl, HB3.out⟩
  clear HRES
  have hzl := sealZ_len ys
  rw [hn] at hzl
  obtain ⟨zs, hzs⟩ : ∃ zs, sealZ ys = zs := ⟨_, rfl⟩
  rw [hzs] at hzl
  obtain ⟨g, o, rfl, g1, g2, _⟩ := r7 0 _ (List.getElem?_eq_getElem (by simp [sealZ_len]))
  obtain ⟨⟨p0, p1⟩, b0, b1⟩ := HPB.out
  obtain ⟨p, rfl⟩ : ∃ p : Nat, pa = (p : Int) := ⟨pa.toNat, by omega⟩
  have hn8 : 8 ≤ n := by omega
  obtain ⟨q, hq⟩ : ∃ q, p % n = q := ⟨_, rfl⟩
  have hqn : q < n := by rw [← hq]; exact Nat.mod_lt _ (by omega)
  have hqz : q < zs.length := by omega
  obtain ⟨x, hx⟩ : ∃ x, zs[q]'hqz = x := ⟨_, rfl⟩
  have hxq : zs[q]? = some x := by rw [List.getElem?_eq_getElem hqz, hx]
  have hu8 : U8s zs := by rw [← hzs]; exact seal_u8 r6
  have hxb := hu8 x (hx ▸ List.getElem_mem hqz)
  obtain ⟨y, hy, y0, y1, hxy⟩ := xor_u8B x b hxb.1 hxb.2 b0 b1 HBN.out
  have hcells : ∀ (j : Nat) (v : Int), zs[j]? = some v → w2.cell? ⟨g, o + j, none⟩ = some (.int .u8 v) ∧ w2.frozen? ⟨g, o + j, none⟩ = false := fun j v hj => by
    obtain ⟨g', o', e', _, _, h3, h4⟩ := r7 j (.int .u8 v) (by rw [hzs, List.getElem?_map, hj]; rfl)
    simp only [Option.some.injEq, Addr.mk.injEq] at e'
    obtain ⟨rfl, rfl, _⟩ := e'
    exact ⟨h3, h4 rfl⟩
  obtain ⟨cq, fq⟩ := hcells q x hxq
  have hbad := bad_set r4 r5 r6 (by rw [hzs]; exact hxq) ⟨y0, y1⟩ hxy
  rw [hzs] at hbad
  have hrd' : Kit.Rd (w2.setCell ⟨g, o + q, none⟩ (.int .u8 y)) w2.heap.size (some ⟨g, o, none⟩) ((zs.set q y).map (.int .u8)) := fun j v hj => by
    refine ⟨_, rfl, g2, ?_⟩
    rw [Go.WideShapes.add_plain]
    rw [List.getElem?_map, List.getElem?_set] at hj
    by_cases e : q = j
    · subst e
      rw [if_pos rfl, if_pos hqz] at hj
      simp at hj
      subst hj
      exact World.cell?_setCell_same' _ _ _ (by rw [cq]; rfl)
    · rw [if_neg e] at hj
      obtain ⟨v0, hv0, rfl⟩ := Option.map_eq_some_iff.1 hj
      rw [World.cell?_setCell_other _ _ _ _ (fun hh => by injection hh with q1 q2; omega)]
      exact (hcells j v0 hv0).1
  have hbs : Below w.heap.size w (w2.setCell ⟨g, o + q, none⟩ (.int .u8 y)) := HB2.out.setCell (p := ⟨g, o + q, none⟩) (Nat.le_trans HB1.out.size g1) _
  have CD := Lib.hid (decode_bad (some ⟨g, o, none⟩) (zs.set q y) n c ys.length (by rw [List.length_set]; exact hzl) hn.symm r4 r1 r3 (set_u8 hu8 ⟨y0, y1⟩) (w2.setCell ⟨g, o + q, none⟩ (.int .u8 y)) (HT.out.1.below hbs HT.out.1.size) (B := w2.heap.size) (by simp [World.setCell]) hrd' hbad)
  have HBS := Lib.hid hbs
  have e1 : ((n : Int) == 0) = false := by simp; omega
  have e2 : ¬ (n : Int) = 0 := by omega
  have e3 : ((p : Int)).tmod (n : Int) = (q : Int) := by rw [← hq]; exact (Int.ofNat_tmod p n).symm
  have e3b : ((p : Int)) % (n : Int) = (q : Int) := by rw [← hq]; rfl
  have e4 : (0 : Int) ≤ (q : Int) := by omega
  have e5 : (q : Int) < (n : Int) := by omega
  have ww : IntKind.i64.wrap (p : Int) = (p : Int) := IntWalk.i64_in _ (by omega)
  have wq : IntKind.i64.wrap (q : Int) = (q : Int) := IntWalk.i64_in _ (by omega)
  clear r1 r2 r3 r4 r5 r6 r7 hzl hn hzs hxq hx hu8 hcells hbad hrd' hbs hq hqz hxb g1 hxy HPB CE1
  go_upto_region 7 with fail
  generalize w2.setCell ⟨g, o + q, none⟩ (.int .u8 y) = w3 at CD HBS ⊢
  clear cq fq e1 e2 e3 e3b e4 e5 ww wq hy b0 b1 p0 p1
  go_upto_region 8 with (first
    | (go_at_call 18
       refine CD.out.mono ?_
       rintro e w4 ⟨er, her, rfl, hb⟩
       have HB4 := Lib.hid (HBS.out.trans (hb.mono HBS.out.size))
       clear hb)
    | (refine bu_store rfl _ _ rfl w4.heap.size [.int .i64 0, .int .i64 0, .int .i64 0, .int .i64 0, .slice none 0 0] zu rfl rfl (CBox.new [.int .i64 0, .int .i64 0, .int .i64 0, .int .i64 0, .slice none 0 0] _ w4) ?_
       intro w5 g1 g2 g3 g4
       have HCB := Lib.hid g1
       have HB5 := Lib.hid (HB4.out.trans ((show Below w4.heap.size w4 w5 from ((Below.refl _ _).alloc (Nat.le_refl _) _).trans g2).mono HB4.out.size))
       clear g1 g2 g3 g4))
  have z0 : w5.cell? ⟨w4.heap.size, 0, none⟩ = some (.int .i64 0) := HCB.out.at 0 _ rfl
  have z1 : w5.cell? ⟨w4.heap.size, 1, none⟩ = some (.int .i64 0) := HCB.out.at 1 _ rfl
  have z2 : w5.cell? ⟨w4.heap.size, 2, none⟩ = some (.int .i64 0) := HCB.out.at 2 _ rfl
  have z3 : w5.cell? ⟨w4.heap.size, 3, none⟩ = some (.int .i64 0) := HCB.out.at 3 _ rfl
  have z4 : w5.cell? ⟨w4.heap.size, 4, none⟩ = some (.slice none 0 0) := HCB.out.at 4 _ rfl
  rcases her with rfl | rfl
  all_goals
    go_wp2_with (first
      | (go_at_call 14
         refine (zsame _).mono ?_
         rintro e w6 ⟨rfl, hb⟩
         have HB6 := Lib.hid (HB5.out.trans (hb.mono HB5.out.size))
         clear hb)
      | (go_at_call 9
         refine (CK.out _ HB6.out).mono ?_
         rintro e w7 ⟨rfl, hb⟩
         have HB7 := Lib.hid (HB6.out.trans (hb.mono HB6.out.size))
         clear hb))
    go_ret
    exact ⟨rfl, HB7.out⟩
/-! ### the frame: written by program -/
theorem own : ownKnob Tryz.prog.godebug = none := by kernel_rfl
theorem laid : laidOutB Tryz.prog = true := by kernel_rfl
theorem contract {H : Type} {enc : TypeId × Value → H} {W : World} {base : Nat} {args : Array Value} {ds gs : List (DataW H)} {before : List MemPlace}
    (hval0 : ∀ (j : Nat) t v, Tryz.f7.params[j]? = some t → args[j]? = some v → Value.okWide Tryz.prog W .any base t v)
    (hW : DataW.Whole enc Tryz.prog Tryz.f7.params.toList Rows.bundleTellsSpec.vars false W args.toList ds gs before)
    (hL : laidMetH Tryz.prog [("stepwell/crc.halves", Rows.laid_stepwell_crc_halves), ("stepwell/kinds.names", Rows.laid_stepwell_kinds_names)] W) :
    Calls Tryz.prog 7 args W fun e W' => e = .returned (.bool true) ∧ Below W.heap.size W W' := by
  have hval : ∀ (j : Nat) t v, Tryz.f7.params[j]? = some t → args[j]? = some v → Value.okWide Tryz.prog W .any base t v := hval0
  obtain ⟨p, q, hA0, hV, rfl, hfz, hnd⟩ := hW
  have hA : DataW.TrodAll enc Tryz.prog W 0 (fun _ => true) true Tryz.f7.params.toList args.toList ds p := hA0
  rw [Tryz.params7] at hA hval
  obtain ⟨v0, vs0, d0, ds0, p0, q0, hargs, rfl, rfl, h0, r0⟩ := trodAll_cons hA
  obtain ⟨v1, vs1, d1, ds1, p1, q1, rfl, rfl, rfl, h1, r1⟩ := trodAll_cons r0
  obtain ⟨v2, vs2, d2, ds2, p2, q2, rfl, rfl, rfl, h2, r2⟩ := trodAll_cons r1
  obtain ⟨rfl, rfl, rfl⟩ := trodAll_nil r2
  obtain rfl : args = #[v0, v1, v2] := by cases args; simp_all
  clear hA0 hval0
  obtain ⟨u0, rfl, hu0⟩ := CBund.open_bundle (hval 0 26 v0 rfl rfl) h0
  obtain ⟨a1, rfl, rfl, rfl, w1⟩ := open_int Tryz.underlying61 (hval 1 61 v1 rfl rfl) h1
  obtain ⟨a2, rfl, rfl, rfl, w2⟩ := open_int Tryz.underlying5 (hval 2 5 v2 rfl rfl) h2
  exact walk (w := W) u0 hu0 a1 w1 a2 w2 (of_laid hL)
theorem fnIs {H : Type} : ∀ ds : List (DataW H), ds.length = Tryz.f7.params.toList.length → Rows.bundleTellsSpec.fn H ds = { results := [.lit (.bool true)], args := ds } := by
  intro ds h
  rw [Tryz.params7] at h
  match ds, h with
  | [d1, d2, d3], _ => rfl
theorem door_met (os : Os) (args : Array Value) : laidMetH Tryz.prog [("stepwell/crc.halves", Rows.laid_stepwell_crc_halves), ("stepwell/kinds.names", Rows.laid_stepwell_kinds_names)] ((World.doorLaid Tryz.prog 400 os).forCall (fun _ _ => 0) ⟨#[], args, []⟩).memory :=
  laidMetH_of_parts3 (fuel := 8) (laidMet_of_run' 8 (by kernel_rfl) (by kernel_rfl)) (by kernel_rfl) (by kernel_rfl)
set_option maxRecDepth 100000 in
theorem lifted (os : Os) (started : os.Started) (H : Type) (enc : TypeId × Value → H) :
    ReturnsInHanded {} Tryz.checked os 7 .any (fun w args => (Rows.bundleTellsSpec.pre enc Tryz.prog Tryz.f7 [] false w args ∧ laidMetH Tryz.prog [("stepwell/crc.halves", Rows.laid_stepwell_crc_halves), ("stepwell/kinds.names", Rows.laid_stepwell_kinds_names)] w) ∧ sizedMet enc Tryz.prog Tryz.f7 (OpenSpec.ofChange Rows.bundleTellsSpec) false w args) (Rows.bundleTellsSpec.post enc Tryz.prog Tryz.f7 false true false false) := by
  refine returnsInHanded_of_change_and (C := Tryz.checked) (X := fun w _ => laidMetH Tryz.prog [("stepwell/crc.halves", Rows.laid_stepwell_crc_halves), ("stepwell/kinds.names", Rows.laid_stepwell_kinds_names)] w) (fun _ _ _ hh h => h.of_heap hh) own started (by kernel_rfl) Tryz.func7
    (ChangeSpec.witness_shaped (enc := enc) (C := Tryz.checked) (os := os) (X := fun w _ => laidMetH Tryz.prog [("stepwell/crc.halves", Rows.laid_stepwell_crc_halves), ("stepwell/kinds.names", Rows.laid_stepwell_kinds_names)] w) false (World.doorLaid Tryz.prog 400 os) #[.agg #[.int .i64 0, .int .i64 0, .int .i64 0, .int .i64 0, .slice none 0 0], .int .u16 0, .int .u8 0] 8 rfl (World.shaped_of_RefB (by kernel_rfl) (by kernel_rfl)) (by kernel_rfl) (by kernel_rfl) (by kernel_rfl) (door_met os _)) ?_
  intro W base args ds gs before hval hW _ _ hL _
  refine (contract hval hW hL).mono fun e W' ⟨he, hg⟩ => ?_
  subst he
  exact ⟨_, rfl, Kit.law_post (tb := 4) laid (by kernel_rfl) rfl (by kernel_rfl) Tryz.underlying4 fnIs hW hg⟩
theorem over : Rows.bundleTellsRow.holds Tryz.pinned (OpenSpec.ofChange Rows.bundleTellsSpec) :=
  OpenClaim.holds_of_wide 7 Tryz.f7 rfl rfl rfl rfl rfl rfl rfl ⟨rfl, rfl, rfl, rfl, rfl⟩ rfl rfl rfl rfl rfl (by kernel_rfl) Tryz.func7 (by kernel_rfl)
    (of_decide_eq_true (by kernel_rfl)) (by unfold Func.isWrapper; first | (rw [if_pos (by decide +kernel)]; kernel_rfl) | (rw [if_neg (by decide +kernel)]; exact ⟨rfl, rfl⟩))
    (fun os started H enc _ => lifted os started H enc)
/-- the statement: the tied card. -/
theorem proved : Rows.BundleTellsCardSaid :=
  Claim7.holds_tied_plain_at .later [] [.data, .data] true (true, "a357efcdb0ce870a3bbef2c2d839d233a0bc6a52ef18e0c6a0e4abea7aac9e90") false
    over (fun _ h => by cases h) (by kernel_rfl) (fun _ h => by cases h) bundleTells_row_tie rfl ⟨rfl, rfl⟩ (by kernel_rfl) rfl
    (fun f fn hf hfn => by
      obtain rfl : f = 7 := Option.some.inj ((show Tryz.prog.funcNamed "stepwell/stepwelllaw35.BundleTells" = some 7 by kernel_rfl).symm.trans hf) |>.symm
      obtain rfl : fn = Tryz.f7 := (Option.some.inj (Tryz.func7.symm.trans hfn)).symm
      exact ⟨by kernel_rfl, fun j t ht => by
        rw [Tryz.params7] at ht
        have hm : t ∈ [26, 61, 5] := by simpa using Array.mem_of_getElem? ht
        have hall : ([26, 61, 5].all fun u => !Tryz.prog.wantsStandIn u) = true := by kernel_rfl
        exact (show Tryz.prog.wantsStandIn t = false by simpa using List.all_eq_true.1 hall t hm)⟩)
    (by kernel_rfl)
end Go.Proofs.YtfgdfignoakkaaaGreatDoor.lawBundleTells
