/- Texts of this seat, one behind the other: LaneWts. -/
import Derived.Test.YtoghpoopgkahiaaGreatDoorGA7
import Derived.Test.YtoghpoopgkahiaaGreatDoorGA17
section
namespace Go.Proofs.YtoghpoopgkahiaaGreatDoor.CLane
open Go Go.ChangeShapes Go.WideShapes Go.ChangeAt Go.RowKit
open Plain CSat CShape CTensor CConv FloatNum CFour CWheel
set_option linter.unusedVariables false
/-- the first k weights of three, one behind the other, as a list of cells. -/
def W3 (W : Nat → Nat → Int) (k : Nat) (F : List Value) : Prop :=
  F.length = k * 3 ∧ ∀ j i, j < k → i < 3 → F[j * 3 + i]? = some (.int .i8 (W j i))
theorem W3.start (W : Nat → Nat → Int) : W3 W 0 [] := ⟨rfl, fun j i hj => by omega⟩
theorem W3.step {W : Nat → Nat → Int} {k : Nat} {F : List Value} (h : W3 W k F) {a b c : Int} (ha : W k 0 = a) (hb : W k 1 = b) (hc : W k 2 = c) : W3 W (k + 1) (F ++ [.int .i8 a, .int .i8 b, .int .i8 c]) := by
  obtain ⟨h1, h3⟩ := h
  refine ⟨by simp [h1]; omega, fun j i hj hi => ?_⟩
  rcases Nat.lt_or_ge j k with hjk | hjk
  · rw [List.getElem?_append_left (by rw [h1]; omega)]
    exact h3 j i hjk hi
  · obtain rfl : j = k := by omega
    rw [List.getElem?_append_right (by rw [h1]; omega), h1, show j * 3 + i - j * 3 = i by omega]
    obtain rfl | rfl | rfl : i = 0 ∨ i = 1 ∨ i = 2 := by omega
    · rw [ha]; rfl
    · rw [hb]; rfl
    · rw [hc]; rfl
theorem wts_of {w : World} {base n : Nat} {e : TypeId} {v : Value} {W : Nat → Nat → Int} {F : List Value} (hF : W3 W n F) (ho : w.ownsRow base e 3 v n F) : ∃ A c, v = .slice A n c ∧ Wts w w.heap.size A n W := by
  rcases Nat.eq_zero_or_pos n with h0 | h0
  · obtain ⟨A, c, e, -, -, -⟩ := Kit.own_rd ho
    exact ⟨A, c, e, fun k hk => by omega⟩
  · obtain ⟨g, cap, rfl, _, _, _, hr⟩ := Kit.own_form ho h0
    refine ⟨_, _, rfl, fun k hk => ⟨g, 0, rfl, Kit.block_lt_of_own ho, fun j v hj => ?_⟩⟩
    have hj3 : j < 3 := by
      rcases Nat.lt_or_ge j 3 with h | h
      · exact h
      · rw [List.getElem?_eq_none (by simpa using h)] at hj; cases hj
    obtain ⟨ad, e, _, hc⟩ := hr (k * 3 + j) _ (hF.2 k j hk hj3)
    cases e
    rw [Go.WideShapes.add_plain] at hc
    rw [show 0 + k * 3 + j = 0 + (k * 3 + j) by omega, hc]
    obtain rfl | rfl | rfl : j = 0 ∨ j = 1 ∨ j = 2 := by omega
    · simpa using hj
    · simpa using hj
    · simpa using hj
theorem one_w3 (a b c : Int) : ∀ u ∈ [Value.int .i8 a, .int .i8 b, .int .i8 c], u.oneCell' = true := by intro v hv; simp at hv; rcases hv with rfl | rfl | rfl <;> rfl
theorem info_w3 : (Tryz.prog.info? 154).map (fun i => (i.zero, i.size, i.bytes)) = some (some (.agg #[.int .i8 0, .int .i8 0, .int .i8 0]), 3, 3) := by kernel_rfl
set_option maxRecDepth 100000 in
set_option maxHeartbeats 8000000 in
theorem weights_to (A1 : Option Addr) (n1 c1 : Nat) (AP : Option Addr) (nP cP : Nat) (ps : List Int) (hpl : ps.length = nP) (hnP : nP ≤ 100000) (x0 x1 x2 x8 x11 x12 x13 x14 x15 x16 x17 x18 : Value) (K S P O Z : Int) (WA BA : Option Addr) (nW cW nB cB : Nat) (ws : List Int) (hws : ws.length = nW) (hwc : nW ≤ cW) (hcm : cW ≤ maxLen) (hwb : I8b ws)
    (d o oo : Nat) (hd1 : 1 ≤ d) (hd2 : d ≤ 1024) (ho : o < oo) (hnW : oo * 3 * 3 * d = nW) (hn16 : nW ≤ 16384) (hps : ∀ q, q < nP → 0 ≤ ps.getD q 0 ∧ ps.getD q 0 + 2 * d < 9 * d)
    (w : World) (hrp : Kit.Rd w w.heap.size AP (I64v ps)) (hrw : Kit.Rd w w.heap.size WA (I8s ws)) :
    Calls Tryz.prog 83 #[.agg #[.slice A1 n1 c1, .slice AP nP cP], .agg #[x0, x1, x2, .int .i64 K, .int .i64 S, .int .i64 P, .int .i64 O, .int .i8 Z, x8, .slice WA nW cW, .slice BA nB cB, x11, x12, x13, x14, x15, x16, x17, x18], .int .i64 (d : Int), .int .i64 (o : Int)] w fun e w' => ∃ AW cV, e = .returned (.slice AW nP cV) ∧ Wts w' w'.heap.size AW nP (Wl ws (o * 3 * 3 * d) d ps) ∧ Below w.heap.size w w' := by
  have hle := place_le (a := oo) (b := 1) (c := 1) (d := 9 * d) ho (show 0 < 1 by omega) (show 0 < 1 by omega)
  have hb9 : o * 3 * 3 * d + 9 * d ≤ nW := by
    have e1 : ((o * 1 + 0) * 1 + 0) * (9 * d) = o * 3 * 3 * d := by simp only [Nat.mul_one, Nat.add_zero]; rw [← Nat.mul_assoc, Nat.mul_assoc o 3 3]
    have e2 : oo * 1 * 1 * (9 * d) = oo * 3 * 3 * d := by simp only [Nat.mul_one]; rw [← Nat.mul_assoc, Nat.mul_assoc oo 3 3]
    rw [e1, e2, hnW] at hle
    exact hle
  have hob : o ≤ 16384 := by
    have h1 : o * 1 ≤ o * (3 * 3 * d) := Nat.mul_le_mul_left _ (by omega)
    rw [← Nat.mul_assoc, ← Nat.mul_assoc] at h1
    omega
  obtain ⟨bs, hbs⟩ : ∃ bs, o * 3 * 3 * d = bs := ⟨_, rfl⟩
  rw [hbs] at hb9 ⊢
  have m1 : IntKind.i64.wrap ((o : Int) * 3) = ((o * 3 : Nat) : Int) := by rw [IntWalk.i64_in _ (by omega)]; omega
  have m2 : IntKind.i64.wrap (((o * 3 : Nat) : Int) * 3) = ((o * 3 * 3 : Nat) : Int) := by rw [IntWalk.i64_in _ (by omega)]; omega
  have m3 : IntKind.i64.wrap (((o * 3 * 3 : Nat) : Int) * (d : Int)) = (bs : Int) := by rw [← Int.natCast_mul, hbs]; exact IntWalk.i64_in _ (by omega)
  generalize o * 3 * 3 = o9 at m2 m3 hbs
  generalize o * 3 = o3 at m1 m2
  obtain ⟨bw, ow, rfl, hbw, hcw⟩ := ints_getD hrw (j := bs) (by omega)
  have s1 : (0 : Int) ≤ (bs : Int) := by omega
  have s2 : (bs : Int) ≤ (nW : Int) := by omega
  have s3 : bs ≤ nW := by omega
  have s4 : ¬ cW = bs := by omega
  obtain ⟨mW, hmW⟩ : ∃ mW, nW - bs = mW := ⟨_, rfl⟩
  have hm9 : 9 * d ≤ mW := by omega
  obtain ⟨i3, hc0, hc1, hc2, hc3⟩ := info_parts info_w3
  have HPL := Lib.hid hpl
  have HPS := Lib.hid hps
  have HCW := Lib.hid hcw
  have HB9 := Lib.hid hb9
  have HRP := Lib.hid hrp
  have HWS := Lib.hid hws
  have HWB := Lib.hid hwb
  clear hpl hps hcw hb9 hrp hrw hws hwb hle hnW hbs ho
  go_enter Tryz.func83, Tryz.ntmps83
  go_upto_region 2 with fail
  have hNd : NodeAt (w.heap.size + 1) x0 x1 x2 x8 x11 x12 x13 x14 x15 x16 x17 x18 K S P O Z (some ⟨bw, ow, none⟩) BA nW cW nB cB ((w.alloc (.cells #[.slice A1 n1 c1, .slice AP nP cP] 108)).alloc (.cells #[x0, x1, x2, .int .i64 K, .int .i64 S, .int .i64 P, .int .i64 O, .int .i8 Z, x8, .slice (some ⟨bw, ow, none⟩) nW cW, .slice BA nB cB, x11, x12, x13, x14, x15, x16, x17, x18] 28)) := by
    have h9 := NodeAt.new x0 x1 x2 x8 x11 x12 x13 x14 x15 x16 x17 x18 K S P O Z (some ⟨bw, ow, none⟩) BA nW cW nB cB 28 (w.alloc (.cells #[.slice A1 n1 c1, .slice AP nP cP] 108))
    simpa using h9
  have hL1 : ((w.alloc (.cells #[.slice A1 n1 c1, .slice AP nP cP] 108)).alloc (.cells #[x0, x1, x2, .int .i64 K, .int .i64 S, .int .i64 P, .int .i64 O, .int .i8 Z, x8, .slice (some ⟨bw, ow, none⟩) nW cW, .slice BA nB cB, x11, x12, x13, x14, x15, x16, x17, x18] 28)).cell? ⟨w.heap.size, 1, none⟩ = some (.slice AP nP cP) := by go_cell
  have hB : Below w.heap.size w ((w.alloc (.cells #[.slice A1 n1 c1, .slice AP nP cP] 108)).alloc (.cells #[x0, x1, x2, .int .i64 K, .int .i64 S, .int .i64 P, .int .i64 O, .int .i8 Z, x8, .slice (some ⟨bw, ow, none⟩) nW cW, .slice BA nB cB, x11, x12, x13, x14, x15, x16, x17, x18] 28)) := ((Below.refl _ _).alloc (Nat.le_refl _) _).alloc (by simp) _
  have n9 := hNd.at 9 _ rfl
  clear hNd
  generalize ((w.alloc (.cells #[.slice A1 n1 c1, .slice AP nP cP] 108)).alloc (.cells #[x0, x1, x2, .int .i64 K, .int .i64 S, .int .i64 P, .int .i64 O, .int .i8 Z, x8, .slice (some ⟨bw, ow, none⟩) nW cW, .slice BA nB cB, x11, x12, x13, x14, x15, x16, x17, x18] 28)) = w0 at n9 hL1 hB ⊢
  have HB := Lib.hid hB
  clear hB
  go_upto_region 3 with fail
  go_upto_region 4 with fail
  try rw [hmW]
  clear m1 m2 m3 n9 hL1 hmW
  have HF0 := Lib.hid (W3.start (Wl ws bs d ps))
  have HO0 := Lib.hid (own_nil w0 w.heap.size 154 3)
  go_loopw [9, 24] (fun v u wr => ∃ (k : Nat) (F : List Value), k ≤ nP ∧ u = .int .i64 k ∧ Hid (W3 (Wl ws bs d ps) k F) ∧ Hid (wr.ownsRow w.heap.size 154 3 v k F) ∧ Hid (Below w.heap.size w wr)) (fun _ u _ => nP - (intOf u).toNat)
  case atStart => exact ⟨0, _, Nat.zero_le _, rfl, HF0, HO0, HB⟩
  case round =>
    clear HF0 HO0 HB
    obtain ⟨k, F, hk, rfl, HF, HOW, HB⟩ := hrel
    obtain ⟨Av, cv, rfl, -, -, -⟩ := Kit.own_rd HOW.out
    by_cases hlt : k < nP
    · have hki : (k : Int) < (nP : Int) := by omega
      have hk0 : (0 : Int) ≤ (k : Int) := by omega
      obtain ⟨bp, op, rfl, hbp, hcp⟩ := ints_getD (HRP.out.below HB.out) (j := k) (by have := HPL.out; omega)
      have hcx := hcp k (by have := HPL.out; omega)
      obtain ⟨y1, y2⟩ := HPS.out k hlt
      have hW := fun j => show Wl ws bs d ps k j = ws.getD (bs + (ps.getD k 0).toNat + j * d) 0 from rfl
      generalize ps.getD k 0 = p at hcx y1 y2 hW
      obtain ⟨pn, rfl⟩ : ∃ pn : Nat, p = (pn : Int) := ⟨p.toNat, by omega⟩
      rw [Int.toNat_natCast] at hW
      obtain ⟨q1, hq1⟩ : ∃ q1, pn + d = q1 := ⟨_, rfl⟩
      obtain ⟨d2, hd2'⟩ : ∃ d2, 2 * d = d2 := ⟨_, rfl⟩
      obtain ⟨q2, hq2⟩ : ∃ q2, pn + d2 = q2 := ⟨_, rfl⟩
      have e1 : IntKind.i64.wrap ((pn : Int) + (d : Int)) = (q1 : Int) := by rw [IntWalk.i64_in _ (by omega)]; omega
      have e2 : IntKind.i64.wrap (2 * (d : Int)) = (d2 : Int) := by rw [IntWalk.i64_in _ (by omega)]; omega
      have e3 : IntKind.i64.wrap ((pn : Int) + (d2 : Int)) = (q2 : Int) := by rw [IntWalk.i64_in _ (by omega)]; omega
      have g0 : (0 : Int) ≤ (pn : Int) := by omega
      have g1 : (pn : Int) < (mW : Int) := by omega
      have g2 : (0 : Int) ≤ (q1 : Int) := by omega
      have g3 : (q1 : Int) < (mW : Int) := by omega
      have g4 : (0 : Int) ≤ (q2 : Int) := by omega
      have g5 : (q2 : Int) < (mW : Int) := by omega
      have hcell : ∀ t, t < 9 * d → wr.cell? ⟨bw, ow + bs + t, none⟩ = some (.int .i8 (ws.getD (bs + t) 0)) := fun t ht => by
        rw [Nat.add_assoc]
        exact (HB.out.cell (p := ⟨bw, ow + (bs + t), none⟩) hbw).trans (HCW.out (bs + t) (by have := HWS.out; have := HB9.out; omega))
      have h0 := hcell pn (by omega)
      have h1 := hcell q1 (by omega)
      have h2 := hcell q2 (by omega)
      have hF2 := HF.out.step (a := ws.getD (bs + pn) 0) (b := ws.getD (bs + q1) 0) (c := ws.getD (bs + q2) 0) (by rw [hW]; congr 1; omega) (by rw [hW]; congr 1; omega) (by rw [hW]; congr 1; omega)
      generalize ws.getD (bs + pn) 0 = a0 at h0 hF2
      generalize ws.getD (bs + q1) 0 = a1 at h1 hF2
      generalize ws.getD (bs + q2) 0 = a2 at h2 hF2
      have HF2 := Lib.hid hF2
      have HBS := Lib.hid hbw
      clear hW hcell hF2 hq1 hd2' hq2 hcp y1 y2
      go_upto_region 6 with fail
      refine wp_region_held_drew (S := fun w' => w'.cell? ⟨bw, ow + bs + pn, none⟩ = some (.int .i8 a0) ∧ w'.cell? ⟨bw, ow + bs + q1, none⟩ = some (.int .i8 a1) ∧ w'.cell? ⟨bw, ow + bs + q2, none⟩ = some (.int .i8 a2)) (by kernel_rfl) ⟨h0, h1, h2⟩ (fun hHeld => ?_)
      clear h0 h1 h2 s1 s2 s3
      replace HB := Lib.hid HB.out.drew
      have HOW2 : Hid (wr.drew.ownsRow w.heap.size 154 3 (.slice Av k cv) k F) := Lib.hid (Kit.own_below HOW.out (Below.refl _ _).drew)
      have hsz : w.heap.size ≤ wr.drew.heap.size := HB.out.size
      have hbz : bw < wr.drew.heap.size := by omega
      clear HOW
      generalize wr.drew = Wa at HB HOW2 hHeld hsz hbz ⊢
      refine Tk.x 0 rfl ?_
      try simp only [Tk.put]
      refine Tk.x 1 rfl ?_
      try simp only [Tk.put]
      refine Tk.x 2 rfl ?_
      try simp only [Tk.put]
      refine Tk.x 3 rfl ?_
      try simp only [Tk.put]
      refine Tk.y 4 (v := ?_) rfl ?_ ?_
      rotate_left
      · intro wS hSw
        obtain ⟨hq1, hq2, hq3⟩ := hSw
        first | (go_simp; done) | (go_simp; with_reducible rfl)
      try simp only [Tk.put]
      refine Tk.x 5 rfl ?_
      try simp only [Tk.put]
      refine Tk.x 6 rfl ?_
      try simp only [Tk.put]
      refine Tk.x 7 rfl ?_
      try simp only [Tk.put]
      refine Tk.x 8 rfl ?_
      try simp only [Tk.put]
      refine Tk.x 9 rfl ?_
      try simp only [Tk.put]
      refine Tk.y 10 (v := ?_) rfl ?_ ?_
      rotate_left
      · intro wS hSw
        obtain ⟨hq1, hq2, hq3⟩ := hSw
        first | (go_simp; done) | (go_simp; with_reducible rfl)
      try simp only [Tk.put]
      refine Tk.x 11 rfl ?_
      try simp only [Tk.put]
      refine Tk.x 12 rfl ?_
      try simp only [Tk.put]
      refine Tk.x 13 rfl ?_
      try simp only [Tk.put]
      refine Tk.x 14 rfl ?_
      try simp only [Tk.put]
      refine Tk.x 15 rfl ?_
      try simp only [Tk.put]
      refine Tk.x 16 rfl ?_
      try simp only [Tk.put]
      refine Tk.y 17 (v := ?_) rfl ?_ ?_
      rotate_left
      · intro wS hSw
        obtain ⟨hq1, hq2, hq3⟩ := hSw
        first | (go_simp; done) | (go_simp; with_reducible rfl)
      try simp only [Tk.put]
      refine Tk.x 18 rfl ?_
      try simp only [Tk.put]
      refine Tk.s 19 rfl (fun Kq hK => ?_)
      go_simp
      refine hK.out _ _ ?_ (fun hHeld => ?_)
      · exact ⟨(((Below.refl Wa.heap.size Wa).alloc (Nat.le_refl _) (.cells #[.int .i8 a0, .int .i8 a1, .int .i8 a2] 154)).cell (p := ⟨bw, ow + bs + pn, none⟩) (by show bw < _; omega)).trans hHeld.1, (((Below.refl Wa.heap.size Wa).alloc (Nat.le_refl _) (.cells #[.int .i8 a0, .int .i8 a1, .int .i8 a2] 154)).cell (p := ⟨bw, ow + bs + q1, none⟩) (by show bw < _; omega)).trans hHeld.2.1, (((Below.refl Wa.heap.size Wa).alloc (Nat.le_refl _) (.cells #[.int .i8 a0, .int .i8 a1, .int .i8 a2] 154)).cell (p := ⟨bw, ow + bs + q2, none⟩) (by show bw < _; omega)).trans hHeld.2.2⟩
      clear hK Kq
      try simp only [Tk.put]
      replace HB := Lib.hid (HB.out.alloc HB.out.size (.cells #[.int .i8 a0, .int .i8 a1, .int .i8 a2] 154))
      replace HOW2 := Lib.hid (HOW2.out.alloc (.cells #[.int .i8 a0, .int .i8 a1, .int .i8 a2] 154))
      have HXR := Lib.hid (Kit.Rd.new Wa [.int .i8 a0, .int .i8 a1, .int .i8 a2] 154 (Nat.lt_succ_self _))
      replace hsz : w.heap.size ≤ (Wa.alloc (.cells #[.int .i8 a0, .int .i8 a1, .int .i8 a2] 154)).heap.size := by simp; omega
      replace hbz : bw < (Wa.alloc (.cells #[.int .i8 a0, .int .i8 a1, .int .i8 a2] 154)).heap.size := by simp; omega
      generalize Wa.alloc (.cells #[.int .i8 a0, .int .i8 a1, .int .i8 a2] 154) = Wc at HB HOW2 hHeld HXR hsz hbz ⊢
      refine Tk.s 20 rfl (fun Kq hK => ?_)
      refine Kit.step_append_rd _ rfl (.tmp 28) (.tmp 47) _ rfl w.heap.size 154 i3 (.agg #[.int .i8 0, .int .i8 0, .int .i8 0]) 3 3 Tryz.underlying112 hc0 hc1 hc2 hc3 rfl (by decide) _ k F rfl HOW2.out _ _ 1 1 [.int .i8 a0, .int .i8 a1, .int .i8 a2] rfl rfl HXR.out (one_w3 a0 a1 a2) (by unfold maxLen; omega) (by omega) hsz ?_
      intro v5 w5 hown5 hg5 _
      obtain ⟨A5, c5, rfl, -, -, -⟩ := Kit.own_rd hown5
      have hb5 : Below w.heap.size Wc w5 := (Below.refl _ _).grown hg5 hsz (Kit.own_block_ge HOW2.out)
      have hS1 : w5.cell? ⟨bw, ow + bs + pn, none⟩ = some (.int .i8 a0) ∧ w5.cell? ⟨bw, ow + bs + q1, none⟩ = some (.int .i8 a1) ∧ w5.cell? ⟨bw, ow + bs + q2, none⟩ = some (.int .i8 a2) := ⟨(hb5.cell (p := ⟨bw, ow + bs + pn, none⟩) hbw).trans hHeld.1, (hb5.cell (p := ⟨bw, ow + bs + q1, none⟩) hbw).trans hHeld.2.1, (hb5.cell (p := ⟨bw, ow + bs + q2, none⟩) hbw).trans hHeld.2.2⟩
      replace HB := Lib.hid (HB.out.trans hb5)
      replace HOW2 := Lib.hid hown5
      clear hown5 hg5 hb5 hHeld HXR
      dsimp only
      refine hK.out _ _ ?_ (fun hHeld => ?_)
      · exact hS1
      clear hK Kq
      try simp only [Tk.put]
      refine Tk.x 21 rfl ?_
      try simp only [Tk.put]
      refine wpAnyH_done (by kernel_rfl) ?_ _
      clear hHeld hsz hbz
      go_wp2_with fail
      go_roundw
      case rel => exact ⟨k + 1, _, by omega, by go_num, HF2, HOW2, HB⟩
      case measure => simp [intOf]; omega
    · obtain rfl : k = nP := by omega
      have hki : ¬ (k : Int) < (k : Int) := Int.lt_irrefl _
      obtain ⟨AW, cV, e9, hwt⟩ := wts_of HF.out HOW.out
      have HWT := Lib.hid hwt
      rw [e9]
      clear hwt HF HOW
      go_wp2_with fail
      go_ret
      exact ⟨_, ⟨_, rfl⟩, HWT.out, HB.out⟩
end Go.Proofs.YtoghpoopgkahiaaGreatDoor.CLane
end
