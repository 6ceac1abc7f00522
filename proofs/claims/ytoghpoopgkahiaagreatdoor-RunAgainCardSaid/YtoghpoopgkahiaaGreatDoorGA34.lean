/- Texts of this seat, one behind the other: PoolMax, JoinCode, PadRows. -/
import Derived.Test.YtoghpoopgkahiaaGreatDoorGA7
import Derived.Test.YtoghpoopgkahiaaGreatDoorGA21
import Derived.Test.YtoghpoopgkahiaaGreatDoorGA22
import Derived.Test.YtoghpoopgkahiaaGreatDoorGA25
import Derived.Test.YtoghpoopgkahiaaGreatDoorGA31
section
namespace Go.Proofs.YtoghpoopgkahiaaGreatDoor.CPool
open Go Go.ChangeShapes Go.WideShapes Go.ChangeAt Go.RowKit Go.Shelf
open Plain CSat CShape CTensor CConv
set_option linter.unusedVariables false
attribute [local go_sem] Oper.semAt_some
/-- the greatest of some numbers, and of -128. -/
def maxL (l : List Int) : Int := l.foldl (fun a x => if a < x then x else a) (-128)
theorem maxL_snoc (l : List Int) (x : Int) : maxL (l ++ [x]) = if maxL l < x then x else maxL l := by unfold maxL; rw [List.foldl_append]; rfl
set_option maxRecDepth 100000 in
set_option maxHeartbeats 4000000 in
theorem maxC_to (g b off : Nat) (H W C : Int) (N c kk o d : Nat) (top left : Int) (G : Nat → Int) (hbz : ∀ k, -128 ≤ G k ∧ G k ≤ 127) (ht : tensB H W C N = true) (hd : C = (d : Int)) (ho : o < d) (hk7 : kk ≤ 7)
    (t1 : -1000 ≤ top) (t2 : top ≤ 1000) (l1 : -1000 ≤ left) (l2 : left ≤ 1000) (R : Int) (hR : maxL ((rowsI H W C top left kk o kk).map G) = R)
    (w : World) (hg : g + 4 < w.heap.size) (hb : b < w.heap.size) (hcap : CapAt g H W C (some ⟨b, off, none⟩) N c (kk : Int) top left (o : Int) w) (hc : ∀ j, j < N → w.cell? ⟨b, off + j, none⟩ = some (.int .i8 (G j))) :
    Calls Tryz.prog 54 #[.func (.func 138) #[] #[.pointer (some ⟨g + 1, 0, none⟩), .pointer (some ⟨g, 0, none⟩), .pointer (some ⟨g + 2, 0, none⟩), .pointer (some ⟨g + 3, 0, none⟩), .pointer (some ⟨g + 4, 0, none⟩)]] w fun e w' => e = .returned (.int .i8 R) ∧ Below w.heap.size w w' := by
  have HR := Lib.hid hR
  clear hR
  refine (callsIn_wide (n := 5)).1 ?_
  refine callsIn_of_wp_marks Tryz.func54 rfl trivial ?_ rfl
  simp only [Tryz.ntmps54, List.size_toArray, List.length_cons, List.length_nil, Nat.reduceAdd, Nat.reduceSub, Array.replicate_succ, Array.replicate_zero, List.push_toArray, List.append_toArray, List.nil_append, List.cons_append]
  refine wpIn_wide.2 ?_
  go_wp2_with fail
  have bX := Boxed.new w 22 (.int .i8 (-128))
  have hbW : Below w.heap.size w (w.alloc (.cells #[.int .i8 (-128)] 22)) := (Below.refl _ _).alloc (Nat.le_refl _) _
  have hsW : (w.alloc (.cells #[.int .i8 (-128)] 22)).heap.size = w.heap.size + 1 := by simp
  generalize w.alloc (.cells #[.int .i8 (-128)] 22) = W1 at bX hbW hsW ⊢
  refine (wpIn_wide (n := 5)).1 ?_
  refine wpIn_rangeFunc_ownG (F := Fence.wide) (n := 5) rfl (by omega) (gf := 138) (lb := #[.pointer (some ⟨g + 1, 0, none⟩), .pointer (some ⟨g, 0, none⟩), .pointer (some ⟨g + 2, 0, none⟩), .pointer (some ⟨g + 3, 0, none⟩), .pointer (some ⟨g + 4, 0, none⟩)]) rfl trivial (enters_of Tryz.func138 (by kernel_rfl) rfl)
    (seq_window (5 - 1) (by omega) g w.heap.size b off H W C N c kk o d top left G ht hd ho hk7 t1 t2 l1 l2 hg hb W1 (by omega) (hcap.below hg hbW) (fun j hj => (hbW.cell (p := ⟨b, off + j, none⟩) hb).trans (hc j hj))) belowK_t (belowK_b (by omega)) (Below.refl _ _) (fun _ => rfl)
    (fun pre W => Boxed W w.heap.size 22 (.int .i8 (maxL (pre.map G))) ∧ Below w.heap.size w W)
    (fun _ _ _ => False)
    (OwnFrom.and (Own.from (boxed_own w.heap.size 22 (fun pre : List Nat => .int .i8 (maxL (pre.map G)))) _) (ownFrom_below (by omega) (by omega)))
    (fun _ _ _ _ _ hs _ _ => hs)
    ⟨bX, hbW⟩
    ?a1 ?assign ?body ?done ?stop
  case assign =>
    intro l x W K hK
    gi_wp2
    exact hK
  case body =>
    rintro l pre x W ⟨hX, hB⟩ _
    have hs := maxL_snoc (pre.map G) (G x)
    have hm : (pre ++ [x]).map G = pre.map G ++ [G x] := by simp
    rw [← hm] at hs
    clear hm
    obtain ⟨m0, hm0⟩ : ∃ m0, maxL (pre.map G) = m0 := ⟨_, rfl⟩
    rw [hm0] at hs hX
    generalize G x = y at hs ⊢
    have HS := Lib.hid hs
    have HX := Lib.hid hX
    have HB := Lib.hid hB
    have hcx := hX.cell
    have hfx := hX.frozen
    clear hs hX hB hm0 hbz bX hbW hcap hc ht
    by_cases hlt : m0 < y
    · have hmx : max m0 y = y := by omega
      gi_wp2
      exact ⟨(KeepsOthers.setCell _ _ _).from _, (Below.refl _ _).setCell (p := ⟨w.heap.size, 0, none⟩) (Nat.le_refl _) _, by rw [HS.out, if_pos (by omega)]; exact HX.out.set _, HB.out.setCell (p := ⟨w.heap.size, 0, none⟩) (Nat.le_refl _) _⟩
    · have hmx : max m0 y = m0 := by omega
      have hle : y ≤ m0 := by omega
      gi_wp2
      exact ⟨(KeepsOthers.setCell _ _ _).from _, (Below.refl _ _).setCell (p := ⟨w.heap.size, 0, none⟩) (Nat.le_refl _) _, by rw [HS.out, if_neg (by omega)]; exact HX.out.set _, HB.out.setCell (p := ⟨w.heap.size, 0, none⟩) (Nat.le_refl _) _⟩
  case done =>
    rintro D ls W hD rfl ⟨hX, hB⟩ hK
    rw [HR.out] at hX
    have hcx := hX.cell
    have HB := Lib.hid hB
    have HK := Lib.hid hK
    have HD := Lib.hid hD
    clear hX hB hK hD hbz bX hbW hcap hc ht
    go_wp2_with fail
    refine ⟨by simp, .inl ⟨_, _, rfl, run_takeDeferred HK.out, ?_⟩⟩
    refine ⟨.int .i8 R, ?_, rfl, HB.out.trans (belowK_b (w := w) (Nat.le_refl _) _ D _ _ (by have := HD.out; omega) HK.out rfl rfl)⟩
    simp [results, Tryz.f54, go_sem]
  case stop =>
    rintro D c pre W _ _ h _
    exact h.elim
end Go.Proofs.YtoghpoopgkahiaaGreatDoor.CPool
end
section
namespace Go.Proofs.YtoghpoopgkahiaaGreatDoor.CJoin
open Go Go.ChangeShapes Go.WideShapes Go.ChangeAt Go.RowKit Go.Deep
open Plain CSat CFix CShape CTensor CConv
set_option linter.unusedVariables false
set_option maxRecDepth 100000 in
set_option maxHeartbeats 4000000 in
theorem one_to (x y : Int) (hx1 : -128 ≤ x) (hx2 : x ≤ 127) (hy1 : -128 ≤ y) (hy2 : y ≤ 127) (x0 x1 x2 : Value) (K S P O Z Y : Int) (WA BA : Option Addr) (nW cW nB cB : Nat) (m1 s1 z1 m2 s2 z2 lo hi : Int) (hnb : NBd Z Y m1 z1 m2 z2 lo hi) (R : Int) (hR : oneZ x y Z Y m1 s1 z1 m2 s2 lo hi = R) (w : World) :
    Calls Tryz.prog 59 #[.int .i8 x, .int .i8 y, .agg #[x0, x1, x2, .int .i64 K, .int .i64 S, .int .i64 P, .int .i64 O, .int .i8 Z, .int .i8 Y, .slice WA nW cW, .slice BA nB cB, .int .i32 m1, .int .i64 s1, .int .i8 z1, .int .i32 m2, .int .i64 s2, .int .i8 z2, .int .i8 lo, .int .i8 hi]] w fun e w' => e = .returned (.int .i8 R) ∧ Below w.heap.size w w' := by
  obtain ⟨⟨hZ1, hZ2⟩, ⟨hY1, hY2⟩, ⟨hm3, hm1⟩, ⟨hz1, hz2⟩, ⟨hm4, hm2⟩, ⟨hz3, hz4⟩, ⟨hl1, hl2⟩, ⟨hh1, hh2⟩⟩ := hnb
  cases hh : (rightB m1 s1 && rightB m2 s2)
  · unfold oneZ at hR
    rw [hh, if_neg (by decide)] at hR
    subst hR
    have HH := Lib.hid hh
    clear hh
    go_enter Tryz.func59, Tryz.ntmps59
    go_wp2_with (first
    | (go_at_call 57
       have hal : Below w.heap.size w (w.alloc (.cells #[x0, x1, x2, .int .i64 K, .int .i64 S, .int .i64 P, .int .i64 O, .int .i8 Z, .int .i8 Y, .slice WA nW cW, .slice BA nB cB, .int .i32 m1, .int .i64 s1, .int .i8 z1, .int .i32 m2, .int .i64 s2, .int .i8 z2, .int .i8 lo, .int .i8 hi] 28)) := (Below.refl _ _).alloc (by first | exact Nat.le_refl _ | (simp; done) | (simp; omega)) _
       refine (scales_to x0 x1 x2 K S P O Z Y WA BA nW cW nB cB m1 s1 z1 m2 s2 z2 lo hi _).mono ?_
       rintro e w1 ⟨rfl, hb⟩
       have hh : Below w.heap.size w w1 := hal.trans (hb.mono hal.size)
       have qTN := (NodeAt.new x0 x1 x2 (.int .i8 Y) (.int .i32 m1) (.int .i64 s1) (.int .i8 z1) (.int .i32 m2) (.int .i64 s2) (.int .i8 z2) (.int .i8 lo) (.int .i8 hi) K S P O Z WA BA nW cW nB cB 28) w
       try simp only [World.size_alloc] at qTN
       have TN := Lib.hid (qTN.below (by first | (simp; done) | (simp; omega)) hb)
       have yTN : w.heap.size < w1.heap.size := by have := hb.size; simp at this; omega
       clear qTN
       have HBW : Hid (Below w.heap.size w w1) := Lib.hid hh
       rw [HH.out]
       clear hb hh hal)
    | (refine wpList_load_mid rfl 28 (.tmp 5) rfl (w.heap.size) 0 rfl [x0, x1, x2, .int .i64 K, .int .i64 S, .int .i64 P, .int .i64 O, .int .i8 Z, .int .i8 Y, .slice WA nW cW, .slice BA nB cB, .int .i32 m1, .int .i64 s1, .int .i8 z1, .int .i32 m2, .int .i64 s2, .int .i8 z2, .int .i8 lo, .int .i8 hi] _ (NodeAt.new x0 x1 x2 (.int .i8 Y) (.int .i32 m1) (.int .i64 s1) (.int .i8 z1) (.int .i32 m2) (.int .i64 s2) (.int .i8 z2) (.int .i8 lo) (.int .i8 hi) K S P O Z WA BA nW cW nB cB 28 w) Tryz.underlying28 rfl (by kernel_rfl) ?_))
    go_ret
    exact ⟨rfl, HBW.out⟩
  · obtain ⟨hr1, hr2⟩ : rightB m1 s1 = true ∧ rightB m2 s2 = true := by simpa using hh
    obtain ⟨b1, b2⟩ := round_term hx1 hx2 hZ1 hZ2 hm1 hr1
    obtain ⟨b3, b4⟩ := round_term hy1 hy2 hY1 hY2 hm2 hr2
    unfold oneZ at hR
    rw [hh, if_pos rfl] at hR
    obtain ⟨t1, ht1⟩ : ∃ t1, roundZ ((x - Z) * m1) s1.toNat = t1 := ⟨_, rfl⟩
    obtain ⟨t2, ht2⟩ : ∃ t2, roundZ ((y - Y) * m2) s2.toNat = t2 := ⟨_, rfl⟩
    rw [ht1] at b1 b2 hR
    rw [ht2] at b3 b4 hR
    have w1 : IntKind.i64.wrap (t1 + t2) = t1 + t2 := IntWalk.i64_in _ (by omega)
    have w2 : IntKind.i64.wrap (t1 + t2 + z1) = t1 + t2 + z1 := IntWalk.i64_in _ (by omega)
    have w3 : IntKind.i64.wrap z1 = z1 := IntWalk.i64_in _ (by omega)
    have HH := Lib.hid hh
    have HR1 := Lib.hid hr1
    have HR2 := Lib.hid hr2
    have HT1 := Lib.hid ht1
    have HT2 := Lib.hid ht2
    have HC := Lib.hid hR
    clear hh hr1 hr2 ht1 ht2 hR
    go_enter Tryz.func59, Tryz.ntmps59
    go_wp2_with (first
    | (go_at_call 57
       have hal : Below w.heap.size w (w.alloc (.cells #[x0, x1, x2, .int .i64 K, .int .i64 S, .int .i64 P, .int .i64 O, .int .i8 Z, .int .i8 Y, .slice WA nW cW, .slice BA nB cB, .int .i32 m1, .int .i64 s1, .int .i8 z1, .int .i32 m2, .int .i64 s2, .int .i8 z2, .int .i8 lo, .int .i8 hi] 28)) := (Below.refl _ _).alloc (by first | exact Nat.le_refl _ | (simp; done) | (simp; omega)) _
       refine (scales_to x0 x1 x2 K S P O Z Y WA BA nW cW nB cB m1 s1 z1 m2 s2 z2 lo hi _).mono ?_
       rintro e w1 ⟨rfl, hb⟩
       have hh : Below w.heap.size w w1 := hal.trans (hb.mono hal.size)
       have qTN := (NodeAt.new x0 x1 x2 (.int .i8 Y) (.int .i32 m1) (.int .i64 s1) (.int .i8 z1) (.int .i32 m2) (.int .i64 s2) (.int .i8 z2) (.int .i8 lo) (.int .i8 hi) K S P O Z WA BA nW cW nB cB 28) w
       try simp only [World.size_alloc] at qTN
       have TN := Lib.hid (qTN.below (by first | (simp; done) | (simp; omega)) hb)
       have yTN : w.heap.size < w1.heap.size := by have := hb.size; simp at this; omega
       clear qTN
       have HBW : Hid (Below w.heap.size w w1) := Lib.hid hh
       rw [HH.out]
       clear hb hh hal)
    | (refine wpList_load_mid rfl 28 (.tmp 5) rfl (w.heap.size) 0 rfl [x0, x1, x2, .int .i64 K, .int .i64 S, .int .i64 P, .int .i64 O, .int .i8 Z, .int .i8 Y, .slice WA nW cW, .slice BA nB cB, .int .i32 m1, .int .i64 s1, .int .i8 z1, .int .i32 m2, .int .i64 s2, .int .i8 z2, .int .i8 lo, .int .i8 hi] _ (NodeAt.new x0 x1 x2 (.int .i8 Y) (.int .i32 m1) (.int .i64 s1) (.int .i8 z1) (.int .i32 m2) (.int .i64 s2) (.int .i8 z2) (.int .i8 lo) (.int .i8 hi) K S P O Z WA BA nW cW nB cB 28 w) Tryz.underlying28 rfl (by kernel_rfl) ?_))
    refine wp_region_held_drew (S := fun w' => NodeAt w.heap.size x0 x1 x2 (.int .i8 Y) (.int .i32 m1) (.int .i64 s1) (.int .i8 z1) (.int .i32 m2) (.int .i64 s2) (.int .i8 z2) (.int .i8 lo) (.int .i8 hi) K S P O Z WA BA nW cW nB cB w') (by kernel_rfl) TN.out (fun hHeld => ?_)
    replace HBW : Hid (Below w.heap.size w w1.drew) := Lib.hid HBW.out.drew
    clear TN
    replace yTN : w.heap.size < w1.drew.heap.size := yTN
    generalize w1.drew = W1 at HBW yTN hHeld ⊢
    refine Tk.x 0 rfl ?_
    try simp only [Tk.put]
    refine Tk.x 1 rfl ?_
    try simp only [Tk.put]
    refine Tk.y 2 (v := ?_) rfl ?_ ?_
    rotate_left
    · intro wS hSw
      have q7 := hSw.at 7 _ rfl
      clear hSw
      first | (go_simp; done) | (go_simp; with_reducible rfl)
    try simp only [Tk.put]
    refine Tk.x 3 rfl ?_
    try simp only [Tk.put]
    refine Tk.y 4 (v := ?_) rfl ?_ ?_
    rotate_left
    · intro wS hSw
      have q11 := hSw.at 11 _ rfl; have q12 := hSw.at 12 _ rfl; have q13 := hSw.at 13 _ rfl
      clear hSw
      first | (go_simp; done) | (go_simp; with_reducible rfl)
    try simp only [Tk.put]
    refine Tk.x 6 rfl ?_
    try simp only [Tk.put]
    refine Tk.x 7 rfl ?_
    try simp only [Tk.put]
    refine Tk.y 8 (v := ?_) rfl ?_ ?_
    rotate_left
    · intro wS hSw
      have q8 := hSw.at 8 _ rfl
      clear hSw
      first | (go_simp; done) | (go_simp; with_reducible rfl)
    try simp only [Tk.put]
    refine Tk.x 9 rfl ?_
    try simp only [Tk.put]
    refine Tk.y 10 (v := ?_) rfl ?_ ?_
    rotate_left
    · intro wS hSw
      have q14 := hSw.at 14 _ rfl; have q15 := hSw.at 15 _ rfl; have q16 := hSw.at 16 _ rfl
      clear hSw
      first | (go_simp; done) | (go_simp; with_reducible rfl)
    try simp only [Tk.put]
    refine Tk.x 13 rfl ?_
    try simp only [Tk.put]
    refine Tk.x 14 rfl ?_
    try simp only [Tk.put]
    refine Tk.y 15 (v := ?_) rfl ?_ ?_
    rotate_left
    · intro wS hSw
      have q13 := hSw.at 13 _ rfl
      clear hSw
      first | (go_simp; done) | (go_simp; with_reducible rfl)
    try simp only [Tk.put]
    refine Tk.x 16 rfl ?_
    try simp only [Tk.put]
    refine Tk.x 18 rfl ?_
    try simp only [Tk.put]
    refine Tk.y 19 (v := ?_) rfl ?_ ?_
    rotate_left
    · intro wS hSw
      have q17 := hSw.at 17 _ rfl
      clear hSw
      first | (go_simp; done) | (go_simp; with_reducible rfl)
    try simp only [Tk.put]
    refine Tk.x 20 rfl ?_
    try simp only [Tk.put]
    refine Tk.y 21 (v := ?_) rfl ?_ ?_
    rotate_left
    · intro wS hSw
      have q18 := hSw.at 18 _ rfl
      clear hSw
      first | (go_simp; done) | (go_simp; with_reducible rfl)
    try simp only [Tk.put]
    refine Tk.s 5 rfl (fun Kq hK => ?_)
    go_simp
    go_at_call 106
    refine (scaled_to x Z m1 s1 z1 t1 hx1 hx2 hZ1 hZ2 hm1 HR1.out HT1.out _).mono ?_
    rintro e W2 ⟨rfl, hb1⟩
    have hS1 : NodeAt w.heap.size x0 x1 x2 (.int .i8 Y) (.int .i32 m1) (.int .i64 s1) (.int .i8 z1) (.int .i32 m2) (.int .i64 s2) (.int .i8 z2) (.int .i8 lo) (.int .i8 hi) K S P O Z WA BA nW cW nB cB W2 := hHeld.below yTN hb1
    replace HBW := Lib.hid (HBW.out.trans (hb1.mono HBW.out.size))
    replace yTN := Nat.lt_of_lt_of_le yTN hb1.size
    clear hHeld hb1
    dsimp only
    refine hK.out _ _ ?_ (fun hHeld => ?_)
    · exact hS1
    clear hK Kq
    try simp only [Tk.put]
    refine Tk.s 11 rfl (fun Kq hK => ?_)
    go_simp
    go_at_call 106
    refine (scaled_to y Y m2 s2 z2 t2 hy1 hy2 hY1 hY2 hm2 HR2.out HT2.out _).mono ?_
    rintro e W3 ⟨rfl, hb1⟩
    have hS1 : NodeAt w.heap.size x0 x1 x2 (.int .i8 Y) (.int .i32 m1) (.int .i64 s1) (.int .i8 z1) (.int .i32 m2) (.int .i64 s2) (.int .i8 z2) (.int .i8 lo) (.int .i8 hi) K S P O Z WA BA nW cW nB cB W3 := hHeld.below yTN hb1
    replace HBW := Lib.hid (HBW.out.trans (hb1.mono HBW.out.size))
    replace yTN := Nat.lt_of_lt_of_le yTN hb1.size
    clear hHeld hb1
    dsimp only
    refine hK.out _ _ ?_ (fun hHeld => ?_)
    · exact hS1
    clear hK Kq
    try simp only [Tk.put]
    refine Tk.x 12 rfl ?_
    try simp only [Tk.put]
    refine Tk.x 17 rfl ?_
    try simp only [Tk.put]
    refine Tk.s 22 rfl (fun Kq hK => ?_)
    go_simp
    go_at_call 105
    refine (jclamp_to _ lo hi R HC.out hl1 hl2 hh1 hh2 _).mono ?_
    rintro e W4 ⟨rfl, rfl⟩
    dsimp only
    refine hK.out _ _ ?_ (fun hHeld => ?_)
    · exact hHeld
    clear hK Kq
    try simp only [Tk.put]
    refine Tk.x 23 rfl ?_
    try simp only [Tk.put]
    refine wpAnyH_done (by kernel_rfl) ?_ _
    go_wp2_with fail
    go_ret
    exact ⟨rfl, HBW.out⟩
end Go.Proofs.YtoghpoopgkahiaaGreatDoor.CJoin
end
section
namespace Go.Proofs.YtoghpoopgkahiaaGreatDoor.CPad
set_option maxRecDepth 100000
open Go Go.ChangeShapes Go.WideShapes Go.ChangeAt Go.RowKit
open Plain CSat CShape CTensor
set_option linter.unusedVariables false
/-- an owned row, and what lies behind it up to its block's end. -/
theorem own_heap {w : World} {base : Nat} {e : TypeId} {g n cap : Nat} {xs : List Value} (h : w.ownsRow base e 1 (.slice (some ⟨g, 0, none⟩) n cap) n xs) :
    ∃ rest : List Value, w.heap[g]? = some (.cells (xs ++ rest).toArray e (0, 0)) ∧ base ≤ g ∧ n ≤ cap ∧ cap ≤ maxLen ∧ (xs ++ rest).length = cap ∧ xs.length = n := by
  rcases h.2 with ⟨h', _⟩ | ⟨g', cap', cur, h', hb, hg, hnc, hcm, hcs, htake⟩
  · simp at h'
  · simp only [Value.slice.injEq, Option.some.injEq, Addr.mk.injEq, and_true, true_and] at h'
    obtain ⟨rfl, rfl⟩ := h'
    have hx : xs.length = n := by simpa using h.1
    refine ⟨cur.toList.drop n, ?_, hb, hnc, hcm, ?_, hx⟩
    · rw [Nat.mul_one] at htake
      rw [← htake, List.take_append_drop]; exact hg
    · rw [Nat.mul_one] at htake hcs
      rw [← htake, List.take_append_drop, Array.length_toList, hcs]
theorem own_of_heap {w : World} {base : Nat} {e : TypeId} {g n cap : Nat} {xs rest : List Value} (hg : w.heap[g]? = some (.cells (xs ++ rest).toArray e (0, 0))) (hb : base ≤ g) (hnc : n ≤ cap) (hcm : cap ≤ maxLen) (hl : (xs ++ rest).length = cap) (hx : xs.length = n) :
    w.ownsRow base e 1 (.slice (some ⟨g, 0, none⟩) n cap) n xs := by
  refine ⟨by simpa using hx, .inr ⟨g, cap, _, rfl, hb, hg, hnc, hcm, ?_, ?_⟩⟩
  · rw [Nat.mul_one, List.size_toArray]; exact hl
  · rw [Nat.mul_one]; show (xs ++ rest).take n = xs
    rw [← hx]; simp
theorem splice_front {xs rest cs : List Value} {o : Nat} (h : o + cs.length ≤ xs.length) : splice (xs ++ rest) o cs = splice xs o cs ++ rest := by
  unfold splice
  rw [List.take_append_of_le_length (by omega), List.drop_append_of_le_length h]
  simp
/-- q numbers, and zeros behind them. -/
def dataL (F : Nat → Int) (m q : Nat) : List Value := I8s (rowL F q) ++ List.replicate (m - q) (.int .i8 0)
theorem dataL_len (F : Nat → Int) {m q : Nat} (h : q ≤ m) : (dataL F m q).length = m := by simp [dataL, I8s, rowL]; omega
theorem dataL_zero (F : Nat → Int) (m : Nat) : dataL F m 0 = I8s (List.replicate m 0) := by simp [dataL, I8s, rowL]
theorem dataL_all (F : Nat → Int) (m : Nat) : dataL F m m = I8s (rowL F m) := by simp [dataL]
theorem rowL_add (F : Nat → Int) (q l : Nat) (ys : List Int) (hl : ys.length = l) (hy : ∀ j, j < l → ys[j]? = some (F (q + j))) : rowL F (q + l) = rowL F q ++ ys := by
  apply List.ext_getElem?
  intro j
  by_cases hj : j < q
  · rw [List.getElem?_append_left (by simpa [rowL] using hj)]
    simp [rowL, hj, show j < q + l by omega]
  · rw [List.getElem?_append_right (by simpa [rowL] using Nat.le_of_not_lt hj)]
    rw [show (rowL F q).length = q by simp [rowL]]
    by_cases h2 : j - q < l
    · rw [hy _ h2]
      simp [rowL, show j < q + l by omega, show q + (j - q) = j by omega]
    · have e1 : (rowL F (q + l))[j]? = none := by simp [rowL]; omega
      rw [e1, List.getElem?_eq_none (by omega)]
theorem dataL_splice (F : Nat → Int) {m q l : Nat} (ys : List Int) (hl : ys.length = l) (hy : ∀ j, j < l → ys[j]? = some (F (q + j))) (h : q + l ≤ m) : splice (dataL F m q) q (I8s ys) = dataL F m (q + l) := by
  unfold splice dataL
  rw [rowL_add F q l ys hl hy]
  rw [List.take_left' (by simp [I8s, rowL]), List.drop_append, List.drop_eq_nil_of_le (by simp [I8s, rowL])]
  simp only [I8s, List.length_map, List.map_append, List.append_assoc, List.nil_append]
  rw [show (rowL F q).length = q by simp [rowL], hl, List.drop_replicate]
  congr 3
  omega
/-- a line's numbers with one more. -/
theorem line_set {F : Nat → Int} {q l i : Nat} {ys : List Int} {x : Int} (hl : ys.length = l) (hy : ∀ j, j < i → ys[j]? = some (F (q + j))) (hi : i < l) (hx : F (q + i) = x) :
    (ys.set i x).length = l ∧ ∀ j, j < i + 1 → (ys.set i x)[j]? = some (F (q + j)) := by
  refine ⟨by simpa using hl, fun j hj => ?_⟩
  rw [List.getElem?_set]
  by_cases e : i = j
  · subst e
    rw [if_pos rfl, if_pos (by omega), hx]
  · rw [if_neg e]
    exact hy j (by omega)
theorem I8s_set (ys : List Int) (i : Nat) (x : Int) : (I8s ys).set i (.int .i8 x) = I8s (ys.set i x) := by simp [I8s, List.map_set]
theorem own_nonempty {w : World} {base : Nat} {e : TypeId} {n : Nat} {v : Value} {xs : List Value} (h : w.ownsRow base e 1 v n xs) (hn : 0 < n) : ∃ g cap, v = .slice (some ⟨g, 0, none⟩) n cap ∧ n ≤ cap ∧ cap ≤ maxLen ∧ base ≤ g ∧ g < w.heap.size := by
  rcases h.2 with ⟨_, h0⟩ | ⟨g, cap, cur, h', hb, hg, hnc, hcm, _, _⟩
  · omega
  · refine ⟨g, cap, h', hnc, hcm, hb, ?_⟩
    rcases Nat.lt_or_ge g w.heap.size with hlt | hge
    · exact hlt
    · rw [Array.getElem?_eq_none hge] at hg; cases hg
end Go.Proofs.YtoghpoopgkahiaaGreatDoor.CPad
end
