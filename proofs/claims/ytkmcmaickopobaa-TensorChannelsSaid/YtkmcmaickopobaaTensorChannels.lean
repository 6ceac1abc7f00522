/- TensorChannels: any channel's numbers, the least and the greatest of all, and whether two tensors are alike, are those of the document; all numbers come in order; the call returns true and leaves its arguments as they were. No condition. -/
import Derived.Test.YtkmcmaickopobaaTensorChanThree
import Derived.Test.YtkmcmaickopobaaTensorKnown
import Derived.Test.YtkmcmaickopobaaSeqAt
import Derived.Test.YtkmcmaickopobaaOpenTensor
namespace Go.Proofs.Ytkmcmaickopobaa.lawTensorChannels
open Go Go.ChangeShapes Go.WideShapes Go.ChangeAt Go.RowKit Go.Shelf
open Plain CSat CShape CSeq CTensor
set_option linter.unusedVariables false
attribute [local go_sem] Oper.semAt_some

/-- the three blocks of the law, in whatever world: both tensors' boxes, the result's cell. -/
def Three (g : Nat) (H W C : Int) (A : Option Addr) (n k : Nat) (H' W' C' : Int) (B : Option Addr) (m l : Nat) (wd : World) : Prop :=
  BoxAt g H W C A n k wd ∧ BoxAt (g + 1) H' W' C' B m l wd ∧ wd.cell? ⟨g + 2, 0, none⟩ = some (.bool false) ∧ wd.frozen? ⟨g + 2, 0, none⟩ = false
theorem Three.below {g N : Nat} {H W C : Int} {A : Option Addr} {n k : Nat} {H' W' C' : Int} {B : Option Addr} {m l : Nat} {w w' : World} (h : Three g H W C A n k H' W' C' B m l w) (hN : g + 2 < N) (hb : Below N w w') : Three g H W C A n k H' W' C' B m l w' :=
  ⟨h.1.below (by omega) hb, h.2.1.below (by omega) hb, (hb.cell (p := ⟨g + 2, 0, none⟩) hN).trans h.2.2.1, (hb.frozen (p := ⟨g + 2, 0, none⟩) hN).trans h.2.2.2⟩
theorem Three.new (H W C : Int) (A : Option Addr) (n k : Nat) (H' W' C' : Int) (B : Option Addr) (m l : Nat) (w : World) : Three w.heap.size H W C A n k H' W' C' B m l (((w.alloc (.cells #[.int .i64 H, .int .i64 W, .int .i64 C, .slice A n k] 28)).alloc (.cells #[.int .i64 H', .int .i64 W', .int .i64 C', .slice B m l] 28)).alloc (.cells #[.bool false] 4)) := by
  have e1 : (w.alloc (.cells #[.int .i64 H, .int .i64 W, .int .i64 C, .slice A n k] 28)).heap.size = w.heap.size + 1 := by simp
  have e2 : ((w.alloc (.cells #[.int .i64 H, .int .i64 W, .int .i64 C, .slice A n k] 28)).alloc (.cells #[.int .i64 H', .int .i64 W', .int .i64 C', .slice B m l] 28)).heap.size = w.heap.size + 2 := by simp
  have h1 : BoxAt w.heap.size H W C A n k (w.alloc (.cells #[.int .i64 H, .int .i64 W, .int .i64 C, .slice A n k] 28)) := BoxAt.new H W C A n k 28 w
  have h2 : BoxAt (w.heap.size + 1) H' W' C' B m l ((w.alloc (.cells #[.int .i64 H, .int .i64 W, .int .i64 C, .slice A n k] 28)).alloc (.cells #[.int .i64 H', .int .i64 W', .int .i64 C', .slice B m l] 28)) := by rw [← e1]; exact BoxAt.new H' W' C' B m l 28 (w.alloc (.cells #[.int .i64 H, .int .i64 W, .int .i64 C, .slice A n k] 28))
  have hb1 : Below (w.heap.size + 1) (w.alloc (.cells #[.int .i64 H, .int .i64 W, .int .i64 C, .slice A n k] 28)) ((w.alloc (.cells #[.int .i64 H, .int .i64 W, .int .i64 C, .slice A n k] 28)).alloc (.cells #[.int .i64 H', .int .i64 W', .int .i64 C', .slice B m l] 28)) := (Below.refl _ _).alloc (by omega) _
  have hb2 : Below (w.heap.size + 2) ((w.alloc (.cells #[.int .i64 H, .int .i64 W, .int .i64 C, .slice A n k] 28)).alloc (.cells #[.int .i64 H', .int .i64 W', .int .i64 C', .slice B m l] 28)) (((w.alloc (.cells #[.int .i64 H, .int .i64 W, .int .i64 C, .slice A n k] 28)).alloc (.cells #[.int .i64 H', .int .i64 W', .int .i64 C', .slice B m l] 28)).alloc (.cells #[.bool false] 4)) := (Below.refl _ _).alloc (by omega) _
  refine ⟨(h1.below (by omega) hb1).below (by omega) hb2, h2.below (by omega) hb2, ?_, ?_⟩
  · rw [← e2]; exact Kit.new_cell _ _ _ _
  · rw [← e2]; exact World.frozen?_alloc_at _ _ _ _ rfl
theorem eqIn_func_nil {P : Program} (w : World) (d : Nat) (t : TypeId) {a : Array TypeId} {b : Array TypeId} {c : Bool} (f : Fn) (x y : Array Value) (h : P.underlying t = some (.func a b c)) :
    (Op.equalIn (d + 1) t (.func f x y) .nilFunc).run P w = .ok false w := by
  simp [Op.equalIn, run_underlying h]
theorem func_nil (w : World) (b : Array Value) : (binOp .eql 50 (.func (.func 38) #[] b) .nilFunc).run Try.prog w = .ok (.bool false) w := by
  simp only [binOp]
  simp [Op.equal, Op.maxDepth, eqIn_func_nil w 9999 50 _ _ _ Try.underlying50]
theorem cells_lt {w : World} {b o : Nat} {v : Value} (h : w.cell? ⟨b, o, none⟩ = some v) : b < w.heap.size := by
  unfold World.cell? at h
  rcases Nat.lt_or_ge b w.heap.size with hlt | hge
  · exact hlt
  · rw [show w.heap[(⟨b, o, none⟩ : Addr).block]? = none from Array.getElem?_eq_none hge] at h
    cases h
theorem norm_to {Q : Exit → Act → World → Prop} : ∀ e a w, Round.Norm Q e a w → Q e a w
  | .normal, _, _, h => h
  | .ret, _, _, h => h.elim
  | .exit _, _, _, h => h.elim
  | .goto _, _, _, h => h.elim
  | .panic _, _, _, h => h.elim
  | .outgrown, _, _, h => h.elim
theorem boxed_own {β : Type} (B : Nat) (t : TypeId) (f : β → Value) : Own (fun (s : β) W => Boxed W B t (f s)) := by
  intro s X Y row hv hg hrow
  refine hv.kept hg (fun e' => ?_)
  obtain ⟨o, ho, hc⟩ := hrow B e'.symm
  rw [show X.heap[B]? = _ from hv] at ho; cases ho; cases hc
theorem no_prefix {zs : List Int} {pre : List (Nat × Int)} {x : Nat × Int} (hp : pre = pairs zs pre.length) (hk : pre.length < zs.length) (hx : x ≠ (pre.length, zs[pre.length])) : ¬ ∃ j, j ≤ zs.length ∧ pre ++ [x] = pairs zs j := by
  rintro ⟨j, hj, he⟩
  have hl := congrArg List.length he
  rw [pairs_len] at hl
  simp at hl
  subst hl
  rw [pairs_snoc hk] at he
  have := List.append_inj_right he (by rw [pairs_len])
  simp at this
  exact hx this
theorem prefix_snoc {zs : List Int} {pre : List (Nat × Int)} {x : Nat × Int} (hp : pre = pairs zs pre.length) (hk : pre.length < zs.length) (hx : x = (pre.length, zs[pre.length])) : pre ++ [x] = pairs zs (pre ++ [x]).length := by
  rw [List.length_append, List.length_singleton, pairs_snoc hk, ← hp, hx]
set_option maxRecDepth 100000 in
set_option maxHeartbeats 8000000 in
theorem walk_short {w : World} (H W C : Int) (A : Option Addr) (zs : List Int) (n k : Nat) (hn : zs.length = n) (hl : n ≤ 2000) (hr : Kit.Rd w w.heap.size A (zs.map (.int .i8)))
    (H' W' C' : Int) (B : Option Addr) (ys : List Int) (m l : Nat) (hm : ys.length = m) (hl2 : m ≤ 2000) (hs : Kit.Rd w w.heap.size B (ys.map (.int .i8))) (c : Int) :
    Calls Try.prog 5 #[.agg #[.int .i64 H, .int .i64 W, .int .i64 C, .slice A n k], .agg #[.int .i64 H', .int .i64 W', .int .i64 C', .slice B m l], .int .i64 c] w fun e w' => e = .returned (.bool true) ∧ Below w.heap.size w w' := by
  have hlI : (n : Int) ≤ 2000 := by omega
  have hlJ : (m : Int) ≤ 2000 := by omega
  have hn6 : n ≤ 1000000 := by omega
  obtain ⟨⟨lo, hi⟩, hlo⟩ : ∃ p, reachF (pairs zs n) = p := ⟨_, rfl⟩
  obtain ⟨xs, hxs⟩ : ∃ xs, chanOf H W C n c zs = xs := ⟨_, rfl⟩
  obtain ⟨L, hL⟩ : ∃ L, xs.length = L := ⟨_, rfl⟩
  have hL6 : L ≤ 1000000 := by
    rw [← hL, ← hxs]
    unfold chanOf
    split
    · exact Nat.le_trans (chan_len C c _) (by rw [pairs_len]; omega)
    · simp
  obtain ⟨b, hb⟩ : ∃ b, likeB H W C H' W' C' zs ys = b := ⟨_, rfl⟩
  have HN := Lib.hid hn
  have HM := Lib.hid hm
  have HR := Lib.hid hr
  have HS := Lib.hid hs
  have HLO := Lib.hid hlo
  have HXS := Lib.hid hxs
  have HL := Lib.hid hL
  have HBB := Lib.hid hb
  have HTH := Lib.hid (Three.new H W C A n k H' W' C' B m l w)
  have HB0 : Hid (Below w.heap.size w (((w.alloc (.cells #[.int .i64 H, .int .i64 W, .int .i64 C, .slice A n k] 28)).alloc (.cells #[.int .i64 H', .int .i64 W', .int .i64 C', .slice B m l] 28)).alloc (.cells #[.bool false] 4))) := Lib.hid ((((Below.refl _ _).alloc (Nat.le_refl _) _).alloc (by simp) _).alloc (by simp; omega) _)
  have hz0 : w.heap.size + 3 ≤ (((w.alloc (.cells #[.int .i64 H, .int .i64 W, .int .i64 C, .slice A n k] 28)).alloc (.cells #[.int .i64 H', .int .i64 W', .int .i64 C', .slice B m l] 28)).alloc (.cells #[.bool false] 4)).heap.size := by simp
  clear hn hm hr hs hlo hxs hL hb
  have hwide : ∀ f, Fence.wide.fn f := fun _ => trivial
  have qf := func_nil
  refine (callsIn_wide (n := 6)).1 ?_
  refine callsIn_of_wp_marks Try.func5 rfl trivial ?_ rfl
  simp only [Try.ntmps5, List.size_toArray, List.length_cons, List.length_nil, Nat.reduceAdd, Nat.reduceSub, Array.replicate_succ, Array.replicate_zero, List.push_toArray, List.append_toArray, List.nil_append, List.cons_append]
  gi_wp2_with (first
    | (gi_at_call 19
       refine (callsIn_wide.2 (reach_to H W C A zs n k HN.out hn6 lo hi HLO.out _ (HR.out.below HB0.out) (by omega))).mono ?_
       rintro e w1 ⟨rfl, hb1⟩
       have hTH1 := HTH.out.below (by omega) hb1
       have HB1 := Lib.hid (HB0.out.trans (hb1.mono (by omega)))
       have hz1 : w.heap.size + 3 ≤ w1.heap.size := Nat.le_trans hz0 hb1.size
       have HTH1 := Lib.hid hTH1
       clear hb1 hz0
       obtain ⟨⟨s1, s2, s3, s4⟩, -⟩ := hTH1)
    | (gi_at_call 20
       refine (callsIn_wide.2 (refReach_to A zs n k HN.out hn6 lo hi HLO.out _ (HR.out.below HB1.out))).mono ?_
       rintro e w2 ⟨rfl, q, hw2⟩
       have hTH2 : Three w.heap.size H W C A n k H' W' C' B m l w2 := by rw [hw2]; exact HTH1.out
       have HB2 : Hid (Below w.heap.size w w2) := by rw [hw2]; exact Lib.hid (Kit.below_drewN HB1.out q)
       have hz2 : w.heap.size + 3 ≤ w2.heap.size := by rw [hw2]; exact hz1
       have HTH2 := Lib.hid hTH2
       clear hw2 HTH1 HB1 hz1 s1 s2 s3 s4
       obtain ⟨⟨s1, s2, s3, s4⟩, -⟩ := hTH2
       have g0 : w.heap.size < w2.heap.size := (by omega)
       have g1 : w.heap.size + 1 < w2.heap.size := (by omega))
    | (gi_at_call 21
       refine (callsIn_wide.2 (each_to H W C A zs n k HN.out hn6 (B := w.heap.size) _ (by simp; omega) ((HR.out.below HB2.out).alloc (by omega) _))).mono ?_
       rintro e w4 ⟨w3, A1, c1, rfl, rfl, hr3, hb3, hg3⟩
       have HR3 := Lib.hid hr3
       have HB3 := Lib.hid hb3
       have HG3 := Lib.hid hg3
       clear hr3 hb3 hg3))
  have hbx : Boxed w3 w2.heap.size 3 (.int .i64 0) := (HB3.out.block w2.heap.size (by simp)).trans (Boxed.new w2 3 (.int .i64 0))
  have hB23 : Below w2.heap.size w2 w3 := ((Below.refl _ _).alloc (Nat.le_refl _) _).trans (HB3.out.mono (by simp))
  have hz3 : w2.heap.size < w3.heap.size := by have := HB3.out.size; simp at this; omega
  obtain ⟨bA, hbA1, hbA2, hbA3⟩ : ∃ bA : Nat, (zs ≠ [] → ∀ ad, A1 = some ad → ad.block = bA) ∧ bA < w3.heap.size ∧ bA ≠ w2.heap.size := by
    cases hzs : zs with
    | nil => exact ⟨w.heap.size, fun h => absurd rfl h, by omega, by omega⟩
    | cons z r =>
      have h0 := HR3.out
      rw [hzs] at h0
      obtain ⟨ad, hA, hlt, _⟩ := h0.at_ (j := 0) (by simp)
      refine ⟨ad.block, fun _ ad2 h2 => by rw [hA] at h2; cases h2; rfl, hlt, ?_⟩
      have := HG3.out ad hA
      simp at this; omega
  have hW0 : Below w2.heap.size w2 (w3.alloc (.cells #[.slice A1 n c1] 24)) := hB23.alloc (by omega) _
  refine wpIn_rangeFunc_ownG (F := Fence.wide) (n := 6) rfl (by omega) (gf := 38) (lb := #[.pointer (some ⟨w3.heap.size, 0, none⟩)]) rfl trivial (enters_of Try.func38 (by kernel_rfl) rfl)
    (each_stops_n Fence.wide (6 - 1) trivial rfl (by omega) w3.heap.size bA A1 c1 zs n HN.out (by omega) _ (by simp) hbA1 (Kit.new_cell _ _ _ _) ((HR3.out.alloc (Nat.le_refl _) _).more (by simp))) keepsAt_t (keepsAt_b (by simp; omega)) (Below.refl _ _) (fun _ => rfl)
    (fun pre W => pre = pairs zs pre.length ∧ Boxed W w2.heap.size 3 (.int .i64 (pre.length : Int)) ∧ Below w2.heap.size w2 W)
    (fun _ pre _ => ¬ ∃ j, j ≤ zs.length ∧ pre = pairs zs j)
    (OwnFrom.and (fun _ _ _ _ h _ _ => h) (OwnFrom.and (Own.from (boxed_own w2.heap.size 3 (fun pre : List (Nat × Int) => Value.int .i64 (pre.length : Int))) _) (ownFrom_below (Nat.le_refl _) (by simp; omega))))
    (fun _ _ _ _ _ hs _ _ => hs)
    ⟨rfl, (hbx.alloc _), hW0⟩
    ?a1 ?assign ?body ?done ?stop
  case assign =>
    intro l x W K hK
    gi_wp2
    exact hK
  case body =>
    rintro l pre ⟨i, v⟩ V ⟨hpre, hbox, hB⟩ hlt
    have hkz : pre.length < zs.length := by have := HN.out; omega
    obtain ⟨⟨t1, t2, t3, t4⟩, -, t6, t7⟩ := HTH2.out.below (show w.heap.size + 2 < w2.heap.size by omega) hB
    have hbc := hbox.cell
    have hbf := hbox.frozen
    obtain ⟨b1, off1, rfl, -, hcx⟩ := ((HR.out.below HB2.out).below (hB.mono (by omega))).ints hkz
    have HNP := Lib.hid (fun h => no_prefix (zs := zs) (pre := pre) (x := (i, v)) hpre hkz h)
    have HPS := Lib.hid (fun h => prefix_snoc (zs := zs) (pre := pre) (x := (i, v)) hpre hkz h)
    have HBX := Lib.hid hbox
    have HBV := Lib.hid hB
    have hki : (pre.length : Int) < (n : Int) := by omega
    have hki2 : ¬ (n : Int) ≤ (pre.length : Int) := by omega
    have hki3 : decide ((n : Int) ≤ (pre.length : Int)) = false := by simp; omega
    have hkj : (0 : Int) ≤ (pre.length : Int) := by omega
    have hx9 : off1 + pre.length = off1 + pre.length := rfl
    generalize hzk : zs[pre.length] = z at hcx HNP HPS
    generalize hpk : pre.length = kk at hbc hcx hki hki2 hki3 hkj HNP HPS
    have HPK := Lib.hid hpk
    clear hpre hbox hB hzk hbx hB23 hbA1 hW0 s1 s2 s3 s4 hpk hx9
    by_cases h1 : i = kk
    · subst h1
      by_cases h2 : v = z
      · subst h2
        have HPS2 := Lib.hid (HPS.out rfl)
        clear HNP HPS
        gi_wp2
        refine ⟨(KeepsOthers.setCell V ⟨w2.heap.size, 0, none⟩ _).from _, fun o => World.cell?_setCell_other _ _ _ _ (fun e => hbA3 (congrArg Addr.block e).symm), HPS2.out, ?_, HBV.out.setCell (p := ⟨w2.heap.size, 0, none⟩) (Nat.le_refl _) _⟩
        have := HBX.out.set (.int .i64 ((i : Int) + 1))
        have e : ((pre ++ [(i, v)]).length : Int) = (i : Int) + 1 := by rw [List.length_append, HPK.out]; simp
        rw [e]
        exact this
      · have hne : (v != z) = true := by simpa using h2
        have HNP2 := Lib.hid (HNP.out (fun e => h2 (by cases e; rfl)))
        clear HNP HPS h2
        gi_wp2
        exact ⟨(KeepsOthers.setCell V ⟨w.heap.size + 1 + 1, 0, none⟩ _).from _, fun j hj hp => HNP2.out ⟨j, hj, hp⟩⟩
    · have hne : ((i : Int) != (kk : Int)) = true := by simp; omega
      have HNP2 := Lib.hid (HNP.out (fun e => h1 (by cases e; rfl)))
      clear HNP HPS h1
      gi_wp2
      exact ⟨(KeepsOthers.setCell V ⟨w.heap.size + 1 + 1, 0, none⟩ _).from _, fun j hj hp => HNP2.out ⟨j, hj, hp⟩⟩
  case done =>
    rintro D ps V hD rfl ⟨-, hbox, hB⟩ hK
    rw [pairs_len] at hbox
    have hbc := hbox.cell
    have hTH := HTH2.out.below (show w.heap.size + 2 < w2.heap.size by omega) hB
    have HTH3 := Lib.hid hTH
    have HBV := Lib.hid (HB2.out.trans (hB.mono (by omega)))
    have HD := Lib.hid hD
    have HK := Lib.hid hK
    have hz4 : w2.heap.size < V.heap.size := by have := cells_lt hbc; exact this
    have hDlt : D < V.heap.size := (Array.getElem?_eq_some_iff.1 hK).1
    have HDL := Lib.hid hDlt
    clear hbox hB hD hK hbx hB23 hbA1 hW0 s1 s2 s3 s4 hDlt
    gi_wp2
    refine wpIn_wide.2 ?_
    refine Code.wp_mono (Q := Round.Norm _) norm_to ?_
    refine wp_region_held_drew (S := fun w' => w'.cell? ⟨w2.heap.size, 0, none⟩ = some (.int .i64 n) ∧ BoxAt w.heap.size H W C A n k w' ∧ BoxAt (w.heap.size + 1) H' W' C' B m l w') (by kernel_rfl) ⟨hbc, hTH.1, hTH.2.1⟩ (fun hHeld => ?_)
    try dsimp only at hHeld
    replace HTH3 : Hid (Three w.heap.size H W C A n k H' W' C' B m l V.drew) := HTH3
    replace HBV := Lib.hid HBV.out.drew
    replace HK : Hid (V.drew.heap[D]? = some (.deferred (some []))) := HK
    replace hz4 : w2.heap.size < V.drew.heap.size := hz4
    replace HDL : Hid (D < V.drew.heap.size) := HDL
    clear hTH hbc
    generalize V.drew = V5 at HTH3 HBV HK hz4 HDL hHeld ⊢
    have HH := Lib.hid (Below.refl V5.heap.size V5)
    have HRV := Lib.hid (HR.out.below HBV.out)
    have HSV := Lib.hid (HS.out.below HBV.out)
    have hgz : w.heap.size + 3 ≤ V5.heap.size := by omega
    refine wpAnyH_take (i := 0) (oi := ({ dst := some 65, op := Op.load 3 (Operand.tmp 11), type := 3, pos := "law.go:86", after := #[], guard := none } : Oper)) (v := ?_) rfl (by kernel_rfl) (by kernel_rfl) (by kernel_rfl) (fun _ _ _ h => h) (Or.inl ⟨by rfl, ?_⟩) (by assumption) ?_
    rotate_left
    · intro wS hSw
      obtain ⟨sn, ⟨s1, s2, s3, s4⟩, ⟨r1, r2, r3, r4⟩⟩ := hSw
      first
        | (go_simp; done)
        | (go_simp; with_reducible rfl)
    try simp only [Act.put, List.setIfInBounds_toArray, List.set_cons_zero, List.set_cons_succ]
    refine wpAnyH_take (i := 1) (oi := ({ dst := some 66, op := Op.fieldAddr 28 (Operand.tmp 3) 1, type := 0, pos := "law.go:86", after := #[], guard := none } : Oper)) (v := ?_) rfl (by kernel_rfl) (by kernel_rfl) (by kernel_rfl) (fun _ _ _ h => h) (Or.inl ⟨by rfl, ?_⟩) (by assumption) ?_
    rotate_left
    · intro wS hSw
      obtain ⟨sn, ⟨s1, s2, s3, s4⟩, ⟨r1, r2, r3, r4⟩⟩ := hSw
      first
        | (go_simp; done)
        | (go_simp; with_reducible rfl)
    try simp only [Act.put, List.setIfInBounds_toArray, List.set_cons_zero, List.set_cons_succ]
    refine wpAnyH_take (i := 2) (oi := ({ dst := some 67, op := Op.load 24 (Operand.tmp 66), type := 24, pos := "law.go:86", after := #[{ on := 1, ground := Ground.data }], guard := none } : Oper)) (v := ?_) rfl (by kernel_rfl) (by kernel_rfl) (by kernel_rfl) (fun _ _ _ h => h) (Or.inl ⟨by rfl, ?_⟩) (by assumption) ?_
    rotate_left
    · intro wS hSw
      obtain ⟨sn, ⟨s1, s2, s3, s4⟩, ⟨r1, r2, r3, r4⟩⟩ := hSw
      first
        | (go_simp; done)
        | (go_simp; with_reducible rfl)
    try simp only [Act.put, List.setIfInBounds_toArray, List.set_cons_zero, List.set_cons_succ]
    refine wpAnyH_take (i := 3) (oi := ({ dst := some 68, op := Op.call { callee := Callee.builtin Builtin.len, args := #[Operand.tmp 67], argTypes := #[24] }, type := 3, pos := "law.go:86", after := #[{ on := 2, ground := Ground.data }], guard := none } : Oper)) (v := ?_) rfl (by kernel_rfl) (by kernel_rfl) (by kernel_rfl) (fun _ _ _ h => h) (Or.inl ⟨by rfl, ?_⟩) (by assumption) ?_
    rotate_left
    · intro wS hSw
      obtain ⟨sn, ⟨s1, s2, s3, s4⟩, ⟨r1, r2, r3, r4⟩⟩ := hSw
      first
        | (go_simp; done)
        | (go_simp; with_reducible rfl)
    try simp only [Act.put, List.setIfInBounds_toArray, List.set_cons_zero, List.set_cons_succ]
    refine wpAnyH_take (i := 4) (oi := ({ dst := some 69, op := Op.binOp BinOp.eql 3 (Operand.tmp 65) (Operand.tmp 68) 3, type := 4, pos := "law.go:86", after := #[{ on := 0, ground := Ground.data }, { on := 3, ground := Ground.data }], guard := none } : Oper)) (v := ?_) rfl (by kernel_rfl) (by kernel_rfl) (by kernel_rfl) (fun _ _ _ h => h) (Or.inl ⟨by rfl, ?_⟩) (by assumption) ?_
    rotate_left
    · intro wS hSw
      obtain ⟨sn, ⟨s1, s2, s3, s4⟩, ⟨r1, r2, r3, r4⟩⟩ := hSw
      first
        | (go_simp; done)
        | (go_simp; with_reducible rfl)
    try simp only [Act.put, List.setIfInBounds_toArray, List.set_cons_zero, List.set_cons_succ]
    refine wpAnyH_take (i := 5) (oi := ({ dst := some 70, op := Op.move (Operand.tmp 69), type := 4, pos := "law.go:86", after := #[{ on := 4, ground := Ground.data }], guard := none } : Oper)) (v := ?_) rfl (by kernel_rfl) (by kernel_rfl) (by kernel_rfl) (fun _ _ _ h => h) (Or.inl ⟨by rfl, ?_⟩) (by assumption) ?_
    rotate_left
    · intro wS hSw
      obtain ⟨sn, ⟨s1, s2, s3, s4⟩, ⟨r1, r2, r3, r4⟩⟩ := hSw
      first
        | (go_simp; done)
        | (go_simp; with_reducible rfl)
    try simp only [Act.put, List.setIfInBounds_toArray, List.set_cons_zero, List.set_cons_succ]
    refine wpAnyH_take (i := 6) (oi := ({ dst := some 71, op := Op.move (Operand.tmp 7), type := 25, pos := "law.go:86", after := #[{ on := 5, ground := Ground.guard }], guard := some (5, true) } : Oper)) (v := ?_) rfl (by kernel_rfl) (by kernel_rfl) (by kernel_rfl) (fun _ _ _ h => h) (Or.inl ⟨by rfl, ?_⟩) (by assumption) ?_
    rotate_left
    · intro wS hSw
      obtain ⟨sn, ⟨s1, s2, s3, s4⟩, ⟨r1, r2, r3, r4⟩⟩ := hSw
      first
        | (go_simp; done)
        | (go_simp; with_reducible rfl)
    try simp only [Act.put, List.setIfInBounds_toArray, List.set_cons_zero, List.set_cons_succ]
    refine wpAnyH_take (i := 7) (oi := ({ dst := some 72, op := Op.move (Operand.tmp 9), type := 25, pos := "law.go:86", after := #[{ on := 5, ground := Ground.guard }], guard := some (5, true) } : Oper)) (v := ?_) rfl (by kernel_rfl) (by kernel_rfl) (by kernel_rfl) (fun _ _ _ h => h) (Or.inl ⟨by rfl, ?_⟩) (by assumption) ?_
    rotate_left
    · intro wS hSw
      obtain ⟨sn, ⟨s1, s2, s3, s4⟩, ⟨r1, r2, r3, r4⟩⟩ := hSw
      first
        | (go_simp; done)
        | (go_simp; with_reducible rfl)
    try simp only [Act.put, List.setIfInBounds_toArray, List.set_cons_zero, List.set_cons_succ]
    refine wpAnyH_take (i := 8) (oi := ({ dst := some 73, op := Op.binOp BinOp.eql 25 (Operand.tmp 71) (Operand.tmp 72) 25, type := 4, pos := "law.go:86", after := #[{ on := 6, ground := Ground.data }, { on := 7, ground := Ground.data }, { on := 5, ground := Ground.guard }], guard := some (5, true) } : Oper)) (v := ?_) rfl (by kernel_rfl) (by kernel_rfl) (by kernel_rfl) (fun _ _ _ h => h) (Or.inl ⟨by rfl, ?_⟩) (by assumption) ?_
    rotate_left
    · intro wS hSw
      obtain ⟨sn, ⟨s1, s2, s3, s4⟩, ⟨r1, r2, r3, r4⟩⟩ := hSw
      first
        | (go_simp; done)
        | (go_simp; with_reducible rfl)
    try simp only [Act.put, List.setIfInBounds_toArray, List.set_cons_zero, List.set_cons_succ]
    refine wpAnyH_take (i := 9) (oi := ({ dst := some 74, op := Op.pick (Operand.tmp 70) (Operand.tmp 73) (Operand.const (Value.bool false)), type := 4, pos := "law.go:86", after := #[{ on := 5, ground := Ground.data }, { on := 8, ground := Ground.data }], guard := none } : Oper)) (v := ?_) rfl (by kernel_rfl) (by kernel_rfl) (by kernel_rfl) (fun _ _ _ h => h) (Or.inl ⟨by rfl, ?_⟩) (by assumption) ?_
    rotate_left
    · intro wS hSw
      obtain ⟨sn, ⟨s1, s2, s3, s4⟩, ⟨r1, r2, r3, r4⟩⟩ := hSw
      first
        | (go_simp; done)
        | (go_simp; with_reducible rfl)
    try simp only [Act.put, List.setIfInBounds_toArray, List.set_cons_zero, List.set_cons_succ]
    refine wpAnyH_take (i := 10) (oi := ({ dst := some 75, op := Op.move (Operand.tmp 74), type := 4, pos := "law.go:86", after := #[{ on := 9, ground := Ground.data }, { on := 5, ground := Ground.chain }], guard := none } : Oper)) (v := ?_) rfl (by kernel_rfl) (by kernel_rfl) (by kernel_rfl) (fun _ _ _ h => h) (Or.inl ⟨by rfl, ?_⟩) (by assumption) ?_
    rotate_left
    · intro wS hSw
      obtain ⟨sn, ⟨s1, s2, s3, s4⟩, ⟨r1, r2, r3, r4⟩⟩ := hSw
      first
        | (go_simp; done)
        | (go_simp; with_reducible rfl)
    try simp only [Act.put, List.setIfInBounds_toArray, List.set_cons_zero, List.set_cons_succ]
    refine wpAnyH_take (i := 11) (oi := ({ dst := some 76, op := Op.move (Operand.tmp 8), type := 25, pos := "law.go:86", after := #[{ on := 10, ground := Ground.guard }], guard := some (10, true) } : Oper)) (v := ?_) rfl (by kernel_rfl) (by kernel_rfl) (by kernel_rfl) (fun _ _ _ h => h) (Or.inl ⟨by rfl, ?_⟩) (by assumption) ?_
    rotate_left
    · intro wS hSw
      obtain ⟨sn, ⟨s1, s2, s3, s4⟩, ⟨r1, r2, r3, r4⟩⟩ := hSw
      first
        | (go_simp; done)
        | (go_simp; with_reducible rfl)
    try simp only [Act.put, List.setIfInBounds_toArray, List.set_cons_zero, List.set_cons_succ]
    refine wpAnyH_take (i := 12) (oi := ({ dst := some 77, op := Op.move (Operand.tmp 10), type := 25, pos := "law.go:86", after := #[{ on := 10, ground := Ground.guard }], guard := some (10, true) } : Oper)) (v := ?_) rfl (by kernel_rfl) (by kernel_rfl) (by kernel_rfl) (fun _ _ _ h => h) (Or.inl ⟨by rfl, ?_⟩) (by assumption) ?_
    rotate_left
    · intro wS hSw
      obtain ⟨sn, ⟨s1, s2, s3, s4⟩, ⟨r1, r2, r3, r4⟩⟩ := hSw
      first
        | (go_simp; done)
        | (go_simp; with_reducible rfl)
    try simp only [Act.put, List.setIfInBounds_toArray, List.set_cons_zero, List.set_cons_succ]
    refine wpAnyH_take (i := 13) (oi := ({ dst := some 78, op := Op.binOp BinOp.eql 25 (Operand.tmp 76) (Operand.tmp 77) 25, type := 4, pos := "law.go:86", after := #[{ on := 11, ground := Ground.data }, { on := 12, ground := Ground.data }, { on := 10, ground := Ground.guard }], guard := some (10, true) } : Oper)) (v := ?_) rfl (by kernel_rfl) (by kernel_rfl) (by kernel_rfl) (fun _ _ _ h => h) (Or.inl ⟨by rfl, ?_⟩) (by assumption) ?_
    rotate_left
    · intro wS hSw
      obtain ⟨sn, ⟨s1, s2, s3, s4⟩, ⟨r1, r2, r3, r4⟩⟩ := hSw
      first
        | (go_simp; done)
        | (go_simp; with_reducible rfl)
    try simp only [Act.put, List.setIfInBounds_toArray, List.set_cons_zero, List.set_cons_succ]
    refine wpAnyH_take (i := 14) (oi := ({ dst := some 79, op := Op.pick (Operand.tmp 75) (Operand.tmp 78) (Operand.const (Value.bool false)), type := 4, pos := "law.go:86", after := #[{ on := 10, ground := Ground.data }, { on := 13, ground := Ground.data }], guard := none } : Oper)) (v := ?_) rfl (by kernel_rfl) (by kernel_rfl) (by kernel_rfl) (fun _ _ _ h => h) (Or.inl ⟨by rfl, ?_⟩) (by assumption) ?_
    rotate_left
    · intro wS hSw
      obtain ⟨sn, ⟨s1, s2, s3, s4⟩, ⟨r1, r2, r3, r4⟩⟩ := hSw
      first
        | (go_simp; done)
        | (go_simp; with_reducible rfl)
    try simp only [Act.put, List.setIfInBounds_toArray, List.set_cons_zero, List.set_cons_succ]
    refine wpAnyH_take (i := 15) (oi := ({ dst := some 80, op := Op.move (Operand.tmp 79), type := 4, pos := "law.go:86", after := #[{ on := 14, ground := Ground.data }, { on := 10, ground := Ground.chain }], guard := none } : Oper)) (v := ?_) rfl (by kernel_rfl) (by kernel_rfl) (by kernel_rfl) (fun _ _ _ h => h) (Or.inl ⟨by rfl, ?_⟩) (by assumption) ?_
    rotate_left
    · intro wS hSw
      obtain ⟨sn, ⟨s1, s2, s3, s4⟩, ⟨r1, r2, r3, r4⟩⟩ := hSw
      first
        | (go_simp; done)
        | (go_simp; with_reducible rfl)
    try simp only [Act.put, List.setIfInBounds_toArray, List.set_cons_zero, List.set_cons_succ]
    refine wpAnyH_take (i := 16) (oi := ({ dst := some 81, op := Op.load 28 (Operand.tmp 3), type := 28, pos := "law.go:86", after := #[{ on := 15, ground := Ground.guard }], guard := some (15, true) } : Oper)) (v := ?_) rfl (by kernel_rfl) (by kernel_rfl) (by kernel_rfl) (fun _ _ _ h => h) (Or.inl ⟨by rfl, ?_⟩) (by assumption) ?_
    rotate_left
    · intro wS hSw
      obtain ⟨sn, ⟨s1, s2, s3, s4⟩, ⟨r1, r2, r3, r4⟩⟩ := hSw
      first
        | (go_simp; done)
        | (go_simp; with_reducible rfl)
    try simp only [Act.put, List.setIfInBounds_toArray, List.set_cons_zero, List.set_cons_succ]
    refine wpAnyH_take (i := 17) (oi := ({ dst := some 82, op := Op.move (Operand.tmp 2), type := 3, pos := "law.go:86", after := #[{ on := 15, ground := Ground.guard }], guard := some (15, true) } : Oper)) (v := ?_) rfl (by kernel_rfl) (by kernel_rfl) (by kernel_rfl) (fun _ _ _ h => h) (Or.inl ⟨by rfl, ?_⟩) (by assumption) ?_
    rotate_left
    · intro wS hSw
      obtain ⟨sn, ⟨s1, s2, s3, s4⟩, ⟨r1, r2, r3, r4⟩⟩ := hSw
      first
        | (go_simp; done)
        | (go_simp; with_reducible rfl)
    try simp only [Act.put, List.setIfInBounds_toArray, List.set_cons_zero, List.set_cons_succ]
    refine wpAnyH_take (i := 19) (oi := ({ dst := some 84, op := Op.load 28 (Operand.tmp 3), type := 28, pos := "law.go:86", after := #[{ on := 15, ground := Ground.guard }], guard := some (15, true) } : Oper)) (v := ?_) rfl (by kernel_rfl) (by kernel_rfl) (by kernel_rfl) (fun _ _ _ h => h) (Or.inl ⟨by rfl, ?_⟩) (by assumption) ?_
    rotate_left
    · intro wS hSw
      obtain ⟨sn, ⟨s1, s2, s3, s4⟩, ⟨r1, r2, r3, r4⟩⟩ := hSw
      first
        | (go_simp; done)
        | (go_simp; with_reducible rfl)
    try simp only [Act.put, List.setIfInBounds_toArray, List.set_cons_zero, List.set_cons_succ]
    refine wpAnyH_take (i := 20) (oi := ({ dst := some 85, op := Op.move (Operand.tmp 2), type := 3, pos := "law.go:86", after := #[{ on := 15, ground := Ground.guard }], guard := some (15, true) } : Oper)) (v := ?_) rfl (by kernel_rfl) (by kernel_rfl) (by kernel_rfl) (fun _ _ _ h => h) (Or.inl ⟨by rfl, ?_⟩) (by assumption) ?_
    rotate_left
    · intro wS hSw
      obtain ⟨sn, ⟨s1, s2, s3, s4⟩, ⟨r1, r2, r3, r4⟩⟩ := hSw
      first
        | (go_simp; done)
        | (go_simp; with_reducible rfl)
    try simp only [Act.put, List.setIfInBounds_toArray, List.set_cons_zero, List.set_cons_succ]
    refine wpAnyH_ready (rs := [18]) (by kernel_rfl) (by simp) ?_
    refine AllReadyH.cons (o := ({ dst := some 83, op := Op.call { callee := Callee.value (Operand.func 23), args := #[Operand.tmp 81, Operand.tmp 82], argTypes := #[28, 3] }, type := 24, pos := "law.go:86", after := #[{ on := 16, ground := Ground.data }, { on := 17, ground := Ground.data }, { on := 15, ground := Ground.chain }, { on := 15, ground := Ground.guard }], guard := some (15, true) } : Oper)) rfl (fun K hK => ?_) (AllReadyH.nil)
    go_simp
    go_at_call 23
    refine (chan_to H W C c A zs n k HN.out hn6 xs HXS.out L HL.out _ (B := w.heap.size) (by have := HH.out.size; omega) HRV.out).mono ?_
    rintro e w6 ⟨A6, c6, rfl, hr6, hb⟩
    have hS : w6.cell? ⟨w2.heap.size, 0, none⟩ = some (.int .i64 n) ∧ BoxAt w.heap.size H W C A n k w6 ∧ BoxAt (w.heap.size + 1) H' W' C' B m l w6 := ⟨(hb.cell (p := ⟨w2.heap.size, 0, none⟩) (show w2.heap.size < _ by have := HH.out.size; omega)).trans hHeld.1, hHeld.2.1.below (by have := HH.out.size; omega) hb, hHeld.2.2.below (by have := HH.out.size; omega) hb⟩
    have RD6 := Lib.hid hr6
    clear hr6
    replace HRV := Lib.hid (HRV.out.below (hb.mono (by have := HH.out.size; omega)))
    replace HSV := Lib.hid (HSV.out.below (hb.mono (by have := HH.out.size; omega)))
    replace HH := Lib.hid (HH.out.trans (hb.mono HH.out.size))
    clear hb hHeld
    dsimp only
    refine hK.out _ _ ?_ (fun hHeld => ?_)
    · exact hS
    clear hK K
    try simp only [Act.put, List.setIfInBounds_toArray, List.set_cons_zero, List.set_cons_succ]
    refine wpAnyH_ready (rs := [21]) (by kernel_rfl) (by simp) ?_
    refine AllReadyH.cons (o := ({ dst := some 86, op := Op.call { callee := Callee.value (Operand.func 24), args := #[Operand.tmp 84, Operand.tmp 85], argTypes := #[28, 3] }, type := 24, pos := "law.go:86", after := #[{ on := 19, ground := Ground.data }, { on := 20, ground := Ground.data }, { on := 18, ground := Ground.chain }, { on := 15, ground := Ground.guard }], guard := some (15, true) } : Oper)) rfl (fun K hK => ?_) (AllReadyH.nil)
    go_simp
    go_at_call 24
    refine (refChan_to H W C c A zs n k HN.out hn6 xs HXS.out L HL.out _ (B := w.heap.size) (by have := HH.out.size; omega) HRV.out).mono ?_
    rintro e wv ⟨A7, c7, rfl, hr7, hb⟩
    have hS : wv.cell? ⟨w2.heap.size, 0, none⟩ = some (.int .i64 n) ∧ BoxAt w.heap.size H W C A n k wv ∧ BoxAt (w.heap.size + 1) H' W' C' B m l wv := ⟨(hb.cell (p := ⟨w2.heap.size, 0, none⟩) (show w2.heap.size < _ by have := HH.out.size; omega)).trans hHeld.1, hHeld.2.1.below (by have := HH.out.size; omega) hb, hHeld.2.2.below (by have := HH.out.size; omega) hb⟩
    have RD7 := Lib.hid hr7
    replace RD6 := Lib.hid (RD6.out.below hb)
    clear hr7
    replace HRV := Lib.hid (HRV.out.below (hb.mono (by have := HH.out.size; omega)))
    replace HSV := Lib.hid (HSV.out.below (hb.mono (by have := HH.out.size; omega)))
    replace HH := Lib.hid (HH.out.trans (hb.mono HH.out.size))
    clear hb hHeld
    dsimp only
    refine hK.out _ _ ?_ (fun hHeld => ?_)
    · exact hS
    clear hK K
    try simp only [Act.put, List.setIfInBounds_toArray, List.set_cons_zero, List.set_cons_succ]
    refine wpAnyH_ready (rs := [22]) (by kernel_rfl) (by simp) ?_
    refine AllReadyH.cons (o := ({ dst := some 87, op := Op.call { callee := Callee.value (Operand.func 22), args := #[Operand.tmp 83, Operand.tmp 86], argTypes := #[24, 24] }, type := 4, pos := "law.go:86", after := #[{ on := 18, ground := Ground.data }, { on := 21, ground := Ground.data }, { on := 21, ground := Ground.chain }, { on := 15, ground := Ground.guard }], guard := some (15, true) } : Oper)) rfl (fun K hK => ?_) (AllReadyH.nil)
    go_simp
    go_at_call 22
    refine (fsame_yes A6 A7 xs L c6 c7 HL.out.symm hL6 _ RD6.out RD7.out).mono ?_
    rintro e w8 ⟨rfl, q8, hw8⟩
    have hb := Kit.below_drewN (Below.refl wv.heap.size wv) q8
    rw [← hw8] at hb
    have hS : w8.cell? ⟨w2.heap.size, 0, none⟩ = some (.int .i64 n) ∧ BoxAt w.heap.size H W C A n k w8 ∧ BoxAt (w.heap.size + 1) H' W' C' B m l w8 := ⟨(hb.cell (p := ⟨w2.heap.size, 0, none⟩) (show w2.heap.size < _ by have := HH.out.size; omega)).trans hHeld.1, hHeld.2.1.below (by have := HH.out.size; omega) hb, hHeld.2.2.below (by have := HH.out.size; omega) hb⟩
    clear hw8
    replace HRV := Lib.hid (HRV.out.below (hb.mono (by have := HH.out.size; omega)))
    replace HSV := Lib.hid (HSV.out.below (hb.mono (by have := HH.out.size; omega)))
    replace HH := Lib.hid (HH.out.trans (hb.mono HH.out.size))
    clear hb hHeld
    dsimp only
    refine hK.out _ _ ?_ (fun hHeld => ?_)
    · exact hS
    clear hK K
    try simp only [Act.put, List.setIfInBounds_toArray, List.set_cons_zero, List.set_cons_succ]
    refine wpAnyH_take (i := 23) (oi := ({ dst := some 88, op := Op.pick (Operand.tmp 80) (Operand.tmp 87) (Operand.const (Value.bool false)), type := 4, pos := "law.go:86", after := #[{ on := 15, ground := Ground.data }, { on := 22, ground := Ground.data }], guard := none } : Oper)) (v := ?_) rfl (by kernel_rfl) (by kernel_rfl) (by kernel_rfl) (fun _ _ _ h => h) (Or.inl ⟨by rfl, ?_⟩) (by assumption) ?_
    rotate_left
    · intro wS hSw
      obtain ⟨sn, ⟨s1, s2, s3, s4⟩, ⟨r1, r2, r3, r4⟩⟩ := hSw
      first
        | (go_simp; done)
        | (go_simp; with_reducible rfl)
    try simp only [Act.put, List.setIfInBounds_toArray, List.set_cons_zero, List.set_cons_succ]
    refine wpAnyH_take (i := 24) (oi := ({ dst := some 89, op := Op.move (Operand.tmp 88), type := 4, pos := "law.go:86", after := #[{ on := 23, ground := Ground.data }, { on := 22, ground := Ground.chain }], guard := none } : Oper)) (v := ?_) rfl (by kernel_rfl) (by kernel_rfl) (by kernel_rfl) (fun _ _ _ h => h) (Or.inl ⟨by rfl, ?_⟩) (by assumption) ?_
    rotate_left
    · intro wS hSw
      obtain ⟨sn, ⟨s1, s2, s3, s4⟩, ⟨r1, r2, r3, r4⟩⟩ := hSw
      first
        | (go_simp; done)
        | (go_simp; with_reducible rfl)
    try simp only [Act.put, List.setIfInBounds_toArray, List.set_cons_zero, List.set_cons_succ]
    refine wpAnyH_take (i := 25) (oi := ({ dst := some 90, op := Op.load 28 (Operand.tmp 3), type := 28, pos := "law.go:86", after := #[{ on := 24, ground := Ground.guard }], guard := some (24, true) } : Oper)) (v := ?_) rfl (by kernel_rfl) (by kernel_rfl) (by kernel_rfl) (fun _ _ _ h => h) (Or.inl ⟨by rfl, ?_⟩) (by assumption) ?_
    rotate_left
    · intro wS hSw
      obtain ⟨sn, ⟨s1, s2, s3, s4⟩, ⟨r1, r2, r3, r4⟩⟩ := hSw
      first
        | (go_simp; done)
        | (go_simp; with_reducible rfl)
    try simp only [Act.put, List.setIfInBounds_toArray, List.set_cons_zero, List.set_cons_succ]
    refine wpAnyH_take (i := 26) (oi := ({ dst := some 91, op := Op.load 28 (Operand.tmp 4), type := 28, pos := "law.go:86", after := #[{ on := 24, ground := Ground.guard }], guard := some (24, true) } : Oper)) (v := ?_) rfl (by kernel_rfl) (by kernel_rfl) (by kernel_rfl) (fun _ _ _ h => h) (Or.inl ⟨by rfl, ?_⟩) (by assumption) ?_
    rotate_left
    · intro wS hSw
      obtain ⟨sn, ⟨s1, s2, s3, s4⟩, ⟨r1, r2, r3, r4⟩⟩ := hSw
      first
        | (go_simp; done)
        | (go_simp; with_reducible rfl)
    try simp only [Act.put, List.setIfInBounds_toArray, List.set_cons_zero, List.set_cons_succ]
    refine wpAnyH_take (i := 28) (oi := ({ dst := some 93, op := Op.load 28 (Operand.tmp 3), type := 28, pos := "law.go:86", after := #[{ on := 24, ground := Ground.guard }], guard := some (24, true) } : Oper)) (v := ?_) rfl (by kernel_rfl) (by kernel_rfl) (by kernel_rfl) (fun _ _ _ h => h) (Or.inl ⟨by rfl, ?_⟩) (by assumption) ?_
    rotate_left
    · intro wS hSw
      obtain ⟨sn, ⟨s1, s2, s3, s4⟩, ⟨r1, r2, r3, r4⟩⟩ := hSw
      first
        | (go_simp; done)
        | (go_simp; with_reducible rfl)
    try simp only [Act.put, List.setIfInBounds_toArray, List.set_cons_zero, List.set_cons_succ]
    refine wpAnyH_take (i := 29) (oi := ({ dst := some 94, op := Op.load 28 (Operand.tmp 4), type := 28, pos := "law.go:86", after := #[{ on := 24, ground := Ground.guard }], guard := some (24, true) } : Oper)) (v := ?_) rfl (by kernel_rfl) (by kernel_rfl) (by kernel_rfl) (fun _ _ _ h => h) (Or.inl ⟨by rfl, ?_⟩) (by assumption) ?_
    rotate_left
    · intro wS hSw
      obtain ⟨sn, ⟨s1, s2, s3, s4⟩, ⟨r1, r2, r3, r4⟩⟩ := hSw
      first
        | (go_simp; done)
        | (go_simp; with_reducible rfl)
    try simp only [Act.put, List.setIfInBounds_toArray, List.set_cons_zero, List.set_cons_succ]
    refine wpAnyH_ready (rs := [27]) (by kernel_rfl) (by simp) ?_
    refine AllReadyH.cons (o := ({ dst := some 92, op := Op.call { callee := Callee.value (Operand.func 18), args := #[Operand.tmp 90, Operand.tmp 91], argTypes := #[28, 28] }, type := 4, pos := "law.go:86", after := #[{ on := 25, ground := Ground.data }, { on := 26, ground := Ground.data }, { on := 24, ground := Ground.chain }, { on := 24, ground := Ground.guard }], guard := some (24, true) } : Oper)) rfl (fun K hK => ?_) (AllReadyH.nil)
    go_simp
    go_at_call 18
    refine (same_any H W C H' W' C' A B zs ys n m k l HN.out HM.out hn6 b HBB.out _ (B1 := w.heap.size) (B2 := w.heap.size) (by have := HH.out.size; omega) (by have := HH.out.size; omega) HRV.out HSV.out).mono ?_
    rintro e w9 ⟨rfl, hb⟩
    have hS : w9.cell? ⟨w2.heap.size, 0, none⟩ = some (.int .i64 n) ∧ BoxAt w.heap.size H W C A n k w9 ∧ BoxAt (w.heap.size + 1) H' W' C' B m l w9 := ⟨(hb.cell (p := ⟨w2.heap.size, 0, none⟩) (show w2.heap.size < _ by have := HH.out.size; omega)).trans hHeld.1, hHeld.2.1.below (by have := HH.out.size; omega) hb, hHeld.2.2.below (by have := HH.out.size; omega) hb⟩
    replace HRV := Lib.hid (HRV.out.below (hb.mono (by have := HH.out.size; omega)))
    replace HSV := Lib.hid (HSV.out.below (hb.mono (by have := HH.out.size; omega)))
    replace HH := Lib.hid (HH.out.trans (hb.mono HH.out.size))
    clear hb hHeld
    dsimp only
    refine hK.out _ _ ?_ (fun hHeld => ?_)
    · exact hS
    clear hK K
    try simp only [Act.put, List.setIfInBounds_toArray, List.set_cons_zero, List.set_cons_succ]
    refine wpAnyH_ready (rs := [30]) (by kernel_rfl) (by simp) ?_
    refine AllReadyH.cons (o := ({ dst := some 95, op := Op.call { callee := Callee.value (Operand.func 13), args := #[Operand.tmp 93, Operand.tmp 94], argTypes := #[28, 28] }, type := 4, pos := "law.go:86", after := #[{ on := 28, ground := Ground.data }, { on := 29, ground := Ground.data }, { on := 27, ground := Ground.chain }, { on := 24, ground := Ground.guard }], guard := some (24, true) } : Oper)) rfl (fun K hK => ?_) (AllReadyH.nil)
    go_simp
    go_at_call 13
    refine (refSame_any H W C H' W' C' A B zs ys n m k l HN.out HM.out hn6 b HBB.out _ (B1 := w.heap.size) (B2 := w.heap.size) (by have := HH.out.size; omega) (by have := HH.out.size; omega) HRV.out HSV.out).mono ?_
    rintro e w10 ⟨rfl, hb⟩
    have hS : w10.cell? ⟨w2.heap.size, 0, none⟩ = some (.int .i64 n) ∧ BoxAt w.heap.size H W C A n k w10 ∧ BoxAt (w.heap.size + 1) H' W' C' B m l w10 := ⟨(hb.cell (p := ⟨w2.heap.size, 0, none⟩) (show w2.heap.size < _ by have := HH.out.size; omega)).trans hHeld.1, hHeld.2.1.below (by have := HH.out.size; omega) hb, hHeld.2.2.below (by have := HH.out.size; omega) hb⟩
    replace HRV := Lib.hid (HRV.out.below (hb.mono (by have := HH.out.size; omega)))
    replace HSV := Lib.hid (HSV.out.below (hb.mono (by have := HH.out.size; omega)))
    replace HH := Lib.hid (HH.out.trans (hb.mono HH.out.size))
    clear hb hHeld
    dsimp only
    refine hK.out _ _ ?_ (fun hHeld => ?_)
    · exact hS
    clear hK K
    try simp only [Act.put, List.setIfInBounds_toArray, List.set_cons_zero, List.set_cons_succ]
    refine wpAnyH_take (i := 31) (oi := ({ dst := some 96, op := Op.binOp BinOp.eql 4 (Operand.tmp 92) (Operand.tmp 95) 4, type := 4, pos := "law.go:86", after := #[{ on := 27, ground := Ground.data }, { on := 30, ground := Ground.data }, { on := 24, ground := Ground.guard }], guard := some (24, true) } : Oper)) (v := ?_) rfl (by kernel_rfl) (by kernel_rfl) (by kernel_rfl) (fun _ _ _ h => h) (Or.inl ⟨by rfl, ?_⟩) (by assumption) ?_
    rotate_left
    · intro wS hSw
      obtain ⟨sn, ⟨s1, s2, s3, s4⟩, ⟨r1, r2, r3, r4⟩⟩ := hSw
      first
        | (go_simp; done)
        | (go_simp; with_reducible rfl)
    try simp only [Act.put, List.setIfInBounds_toArray, List.set_cons_zero, List.set_cons_succ]
    refine wpAnyH_take (i := 32) (oi := ({ dst := some 97, op := Op.pick (Operand.tmp 89) (Operand.tmp 96) (Operand.const (Value.bool false)), type := 4, pos := "law.go:86", after := #[{ on := 24, ground := Ground.data }, { on := 31, ground := Ground.data }], guard := none } : Oper)) (v := ?_) rfl (by kernel_rfl) (by kernel_rfl) (by kernel_rfl) (fun _ _ _ h => h) (Or.inl ⟨by rfl, ?_⟩) (by assumption) ?_
    rotate_left
    · intro wS hSw
      obtain ⟨sn, ⟨s1, s2, s3, s4⟩, ⟨r1, r2, r3, r4⟩⟩ := hSw
      first
        | (go_simp; done)
        | (go_simp; with_reducible rfl)
    try simp only [Act.put, List.setIfInBounds_toArray, List.set_cons_zero, List.set_cons_succ]
    refine wpAnyH_take (i := 33) (oi := ({ dst := some 98, op := Op.move (Operand.tmp 97), type := 4, pos := "law.go:86", after := #[{ on := 32, ground := Ground.data }, { on := 30, ground := Ground.chain }], guard := none } : Oper)) (v := ?_) rfl (by kernel_rfl) (by kernel_rfl) (by kernel_rfl) (fun _ _ _ h => h) (Or.inl ⟨by rfl, ?_⟩) (by assumption) ?_
    rotate_left
    · intro wS hSw
      obtain ⟨sn, ⟨s1, s2, s3, s4⟩, ⟨r1, r2, r3, r4⟩⟩ := hSw
      first
        | (go_simp; done)
        | (go_simp; with_reducible rfl)
    try simp only [Act.put, List.setIfInBounds_toArray, List.set_cons_zero, List.set_cons_succ]
    refine wpAnyH_ready (rs := [34]) (by kernel_rfl) (by simp) ?_
    refine AllReadyH.cons (o := ({ dst := some 99, op := Op.call { callee := Callee.value (Operand.func 6), args := #[], argTypes := #[] }, type := 4, pos := "law.go:86", after := #[{ on := 33, ground := Ground.chain }, { on := 33, ground := Ground.guard }], guard := some (33, true) } : Oper)) rfl (fun K hK => ?_) (AllReadyH.nil)
    go_simp
    go_at_call 6
    refine (known05 _).mono ?_
    rintro e w11 ⟨rfl, hb⟩
    have hS : w11.cell? ⟨w2.heap.size, 0, none⟩ = some (.int .i64 n) ∧ BoxAt w.heap.size H W C A n k w11 ∧ BoxAt (w.heap.size + 1) H' W' C' B m l w11 := ⟨(hb.cell (p := ⟨w2.heap.size, 0, none⟩) (show w2.heap.size < _ by have := HH.out.size; omega)).trans hHeld.1, hHeld.2.1.below (by have := HH.out.size; omega) hb, hHeld.2.2.below (by have := HH.out.size; omega) hb⟩
    replace HRV := Lib.hid (HRV.out.below (hb.mono (by have := HH.out.size; omega)))
    replace HSV := Lib.hid (HSV.out.below (hb.mono (by have := HH.out.size; omega)))
    replace HH := Lib.hid (HH.out.trans (hb.mono HH.out.size))
    clear hb hHeld
    have hTH9 := HTH3.out.below (by omega) HH.out
    obtain ⟨-, -, z6, z7⟩ := hTH9
    dsimp only
    refine hK.out _ _ ?_ (fun hHeld => ?_)
    · exact hS
    clear hK K
    try simp only [Act.put, List.setIfInBounds_toArray, List.set_cons_zero, List.set_cons_succ]
    refine wpAnyH_take (i := 35) (oi := ({ dst := some 100, op := Op.pick (Operand.tmp 98) (Operand.tmp 99) (Operand.const (Value.bool false)), type := 4, pos := "law.go:86", after := #[{ on := 33, ground := Ground.data }, { on := 34, ground := Ground.data }], guard := none } : Oper)) (v := ?_) rfl (by kernel_rfl) (by kernel_rfl) (by kernel_rfl) (fun _ _ _ h => h) (Or.inl ⟨by rfl, ?_⟩) (by assumption) ?_
    rotate_left
    · intro wS hSw
      obtain ⟨sn, ⟨s1, s2, s3, s4⟩, ⟨r1, r2, r3, r4⟩⟩ := hSw
      first
        | (go_simp; done)
        | (go_simp; with_reducible rfl)
    try simp only [Act.put, List.setIfInBounds_toArray, List.set_cons_zero, List.set_cons_succ]
    refine wpAnyH_ready (rs := [36]) (by kernel_rfl) (by simp) ?_
    refine AllReadyH.cons (o := ({ dst := none, op := Op.store 4 (Operand.tmp 6) (Operand.tmp 100), type := 0, pos := "law.go:86", after := #[{ on := 35, ground := Ground.data }, { on := 34, ground := Ground.chain }, { on := 0, ground := Ground.phase }, { on := 1, ground := Ground.phase }, { on := 2, ground := Ground.phase }, { on := 3, ground := Ground.phase }, { on := 4, ground := Ground.phase }, { on := 5, ground := Ground.phase }, { on := 6, ground := Ground.phase }, { on := 7, ground := Ground.phase }, { on := 8, ground := Ground.phase }, { on := 9, ground := Ground.phase }, { on := 10, ground := Ground.phase }, { on := 11, ground := Ground.phase }, { on := 12, ground := Ground.phase }, { on := 13, ground := Ground.phase }, { on := 14, ground := Ground.phase }, { on := 15, ground := Ground.phase }, { on := 16, ground := Ground.phase }, { on := 17, ground := Ground.phase }, { on := 18, ground := Ground.phase }, { on := 19, ground := Ground.phase }, { on := 20, ground := Ground.phase }, { on := 21, ground := Ground.phase }, { on := 22, ground := Ground.phase }, { on := 23, ground := Ground.phase }, { on := 24, ground := Ground.phase }, { on := 25, ground := Ground.phase }, { on := 26, ground := Ground.phase }, { on := 27, ground := Ground.phase }, { on := 28, ground := Ground.phase }, { on := 29, ground := Ground.phase }, { on := 30, ground := Ground.phase }, { on := 31, ground := Ground.phase }, { on := 32, ground := Ground.phase }, { on := 33, ground := Ground.phase }, { on := 34, ground := Ground.phase }, { on := 35, ground := Ground.phase }], guard := none } : Oper)) rfl (fun K hK => ?_) (AllReadyH.nil)
    go_simp
    refine hK.out _ _ ?_ (fun hHeld => ?_)
    · exact ⟨(World.cell?_setCell_other _ _ _ _ (fun e => by have := congrArg Addr.block e; simp at this; omega)).trans hHeld.1, hHeld.2.1.below (B' := w.heap.size + 2) (by omega) ((Below.refl _ _).setCell (p := ⟨w.heap.size + 1 + 1, 0, none⟩) (by simp) _), hHeld.2.2.below (B' := w.heap.size + 2) (by omega) ((Below.refl _ _).setCell (p := ⟨w.heap.size + 1 + 1, 0, none⟩) (by simp) _)⟩
    clear hK K
    try simp only [Act.put, List.setIfInBounds_toArray, List.set_cons_zero, List.set_cons_succ]
    refine wpAnyH_done (by kernel_rfl) ?_ _
    simp only [Round.Norm]
    have hk9 : (w11.setCell ⟨w.heap.size + 1 + 1, 0, none⟩ (.bool true)).heap[D]? = some (.deferred (some [])) := (Below.heap_setCell _ _ _ D (fun e => by have := HD.out; simp at this; simp at e; omega)).trans ((HH.out.block D HDL.out).trans HK.out)
    have hc6 : (w11.setCell ⟨w.heap.size + 1 + 1, 0, none⟩ (.bool true)).cell? ⟨w.heap.size + 1 + 1, 0, none⟩ = some (.bool true) := World.cell?_setCell_same _ _ _ z6
    gi_wp2
    refine ⟨by simp, .inl ⟨_, _, rfl, run_takeDeferred hk9, ?_⟩⟩
    have hc7 := cell_kept (W := (w11.setCell ⟨w.heap.size + 1 + 1, 0, none⟩ (.bool true))) hc6 (grownBy_putObj' _ D (.deferred none)) (fun r e => by cases e; exact ⟨_, hk9, rfl⟩)
    refine ⟨.bool true, ?_, rfl, ((HBV.out.trans (HH.out.mono (by omega))).setCell (p := ⟨w.heap.size + 1 + 1, 0, none⟩) (by simp; omega) _).trans (belowK_b (w := w) (Nat.le_refl _) _ D _ _ (by have := HD.out; simp at this; omega) hk9 rfl rfl)⟩
    simp [results, Try.f5, go_sem, hc7]
  case stop =>
    rintro D c pre W _ ⟨j, hj, hp⟩ h _
    exact absurd ⟨j, by rw [HN.out]; exact hj, hp⟩ h
theorem walk_long {w : World} (H W C : Int) (A : Option Addr) (n k : Nat) (H' W' C' : Int) (B : Option Addr) (m l : Nat) (hl : 2000 < n ∨ 2000 < m) (c : Int) :
    Calls Try.prog 5 #[.agg #[.int .i64 H, .int .i64 W, .int .i64 C, .slice A n k], .agg #[.int .i64 H', .int .i64 W', .int .i64 C', .slice B m l], .int .i64 c] w fun e w' => e = .returned (.bool true) ∧ Below w.heap.size w w' := by
  have HTH := Lib.hid (Three.new H W C A n k H' W' C' B m l w)
  have HB0 : Hid (Below w.heap.size w (((w.alloc (.cells #[.int .i64 H, .int .i64 W, .int .i64 C, .slice A n k] 28)).alloc (.cells #[.int .i64 H', .int .i64 W', .int .i64 C', .slice B m l] 28)).alloc (.cells #[.bool false] 4))) := Lib.hid ((((Below.refl _ _).alloc (Nat.le_refl _) _).alloc (by simp) _).alloc (by simp; omega) _)
  have hz0 : w.heap.size + 3 ≤ (((w.alloc (.cells #[.int .i64 H, .int .i64 W, .int .i64 C, .slice A n k] 28)).alloc (.cells #[.int .i64 H', .int .i64 W', .int .i64 C', .slice B m l] 28)).alloc (.cells #[.bool false] 4)).heap.size := by simp
  have hcase : (decide (2000 < (n : Int)) = true ∧ True) ∨ (decide (2000 < (n : Int)) = false ∧ decide (2000 < (m : Int)) = true) := by
    by_cases h : 2000 < n
    · exact .inl ⟨by simp; omega, trivial⟩
    · exact .inr ⟨by simp; omega, by simp; omega⟩
  clear hl
  rcases hcase with ⟨h1, -⟩ | ⟨h1, h2⟩
  all_goals
    go_enter Try.func5, Try.ntmps5
    go_wp2_with (
      go_at_call 6
      refine (known05 _).mono ?_
      rintro e w1 ⟨rfl, hb1⟩
      obtain ⟨-, -, z6, z7⟩ := HTH.out.below (by omega) hb1
      have HB := Lib.hid (HB0.out.trans (hb1.mono (by omega)))
      clear hb1)
    have hc7 := World.cell?_setCell_same w1 ⟨w.heap.size + 1 + 1, 0, none⟩ (.bool true) z6
    refine bodyPost_ret (v := .bool true) (by simp [results, Try.f5, go_sem, hc7]) rfl ?_
    exact ⟨rfl, HB.out.setCell (p := ⟨w.heap.size + 1 + 1, 0, none⟩) (by simp; omega) _⟩
theorem walk {w : World} (H : Int) (wH : (Lit.int .i64 H).wf = true) (W : Int) (wW : (Lit.int .i64 W).wf = true) (C : Int) (wC : (Lit.int .i64 C).wf = true) (A : Option Addr) (zs : List Int) (k : Nat) (hk : zs.length ≤ k) (hm : k ≤ maxLen) (hw : ∀ n ∈ zs, (Lit.int .i8 n).wf = true) (hr : Kit.Rd w w.heap.size A (zs.map (.int .i8)))
    (H' : Int) (wH' : (Lit.int .i64 H').wf = true) (W' : Int) (wW' : (Lit.int .i64 W').wf = true) (C' : Int) (wC' : (Lit.int .i64 C').wf = true) (B : Option Addr) (ys : List Int) (l : Nat) (hl : ys.length ≤ l) (hm' : l ≤ maxLen) (hw' : ∀ n ∈ ys, (Lit.int .i8 n).wf = true) (hs : Kit.Rd w w.heap.size B (ys.map (.int .i8)))
    (c : Int) (wc : (Lit.int .i64 c).wf = true) :
    Calls Try.prog 5 #[.agg #[.int .i64 H, .int .i64 W, .int .i64 C, .slice A zs.length k], .agg #[.int .i64 H', .int .i64 W', .int .i64 C', .slice B ys.length l], .int .i64 c] w fun e w' => e = .returned (.bool true) ∧ Below w.heap.size w w' := by
  by_cases h : 2000 < zs.length ∨ 2000 < ys.length
  · exact walk_long H W C A _ k H' W' C' B _ l h c
  · exact walk_short H W C A zs _ k rfl (by omega) hr H' W' C' B ys _ l rfl (by omega) hs c
/-! ### the frame: written by program -/
theorem own : ownKnob Try.prog.godebug = none := by kernel_rfl
theorem laid : laidOutB Try.prog = true := by kernel_rfl
theorem contract {H : Type} {enc : TypeId × Value → H} {W : World} {base : Nat} {args : Array Value} {ds gs : List (DataW H)} {before : List MemPlace}
    (hval0 : ∀ (j : Nat) t v, Try.f5.params[j]? = some t → args[j]? = some v → Value.okWide Try.prog W .any base t v)
    (hW : DataW.Whole enc Try.prog Try.f5.params.toList Rows.tensorChannelsSpec.vars false W args.toList ds gs before) :
    Calls Try.prog 5 args W fun e W' => e = .returned (.bool true) ∧ Below W.heap.size W W' := by
  have hval : ∀ (j : Nat) t v, Try.f5.params[j]? = some t → args[j]? = some v → Value.okWide Try.prog W .any base t v := hval0
  obtain ⟨p, q, hA0, hV, rfl, hfz, hnd⟩ := hW
  have hA : DataW.TrodAll enc Try.prog W 0 (fun _ => true) true Try.f5.params.toList args.toList ds p := hA0
  rw [Try.params5] at hA hval
  obtain ⟨v0, vs0, d0, ds0, p0, q0, hargs, rfl, rfl, h0, r0⟩ := trodAll_cons hA
  obtain ⟨v1, vs1, d1, ds1, p1, q1, rfl, rfl, rfl, h1, r1⟩ := trodAll_cons r0
  obtain ⟨v2, vs2, d2, ds2, p2, q2, rfl, rfl, rfl, h2, r2⟩ := trodAll_cons r1
  obtain ⟨rfl, rfl, rfl⟩ := trodAll_nil r2
  obtain rfl : args = #[v0, v1, v2] := by cases args; simp_all
  clear hA0 hval0
  obtain ⟨x0, y0, t0, A0, z0, c0, rfl, wx0, wy0, wt0, hc0, hm0, hw0, hr0⟩ := Kit.open_tensor (s := 23) (d := 24) (e := 25) (i := 3) Try.underlying28 Try.underlying23 Try.underlying24 Try.underlying25 Try.underlying3 (by kernel_rfl) (by kernel_rfl) (by kernel_rfl) (by kernel_rfl) (by kernel_rfl) ⟨rfl, rfl, rfl, rfl⟩ ⟨rfl, rfl, rfl, rfl, rfl, rfl⟩ (hval 0 28 v0 rfl rfl) h0
  obtain ⟨x1, y1, t1, A1, z1, c1, rfl, wx1, wy1, wt1, hc1, hm1, hw1, hr1⟩ := Kit.open_tensor (s := 23) (d := 24) (e := 25) (i := 3) Try.underlying28 Try.underlying23 Try.underlying24 Try.underlying25 Try.underlying3 (by kernel_rfl) (by kernel_rfl) (by kernel_rfl) (by kernel_rfl) (by kernel_rfl) ⟨rfl, rfl, rfl, rfl⟩ ⟨rfl, rfl, rfl, rfl, rfl, rfl⟩ (hval 1 28 v1 rfl rfl) h1
  obtain ⟨a2, rfl, rfl, rfl, w2⟩ := open_int Try.underlying3 (hval 2 3 v2 rfl rfl) h2
  exact walk (w := W) x0 wx0 y0 wy0 t0 wt0 A0 z0 c0 hc0 hm0 hw0 hr0 x1 wx1 y1 wy1 t1 wt1 A1 z1 c1 hc1 hm1 hw1 hr1 a2 w2
theorem fnIs {H : Type} : ∀ ds : List (DataW H), ds.length = Try.f5.params.toList.length → Rows.tensorChannelsSpec.fn H ds = { results := [.lit (.bool true)], args := ds } := by
  intro ds h
  rw [Try.params5] at h
  match ds, h with
  | [d1, d2, d3], _ => rfl
set_option maxRecDepth 100000 in
theorem lifted (os : Os) (started : os.Started) (H : Type) (enc : TypeId × Value → H) :
    ReturnsInHanded {} Try.checked os 5 .any (Rows.tensorChannelsSpec.pre6 enc Try.prog Try.f5 Rows.tensorChannelsRow.domain false) (Rows.tensorChannelsSpec.post enc Try.prog Try.f5 false true false false) := by
  refine returnsInHanded_of_change (C := Try.checked) own started (by kernel_rfl) Try.func5
    (ChangeSpec.witness6 (enc := enc) (C := Try.checked) false ⟨#[], #[.agg #[.int .i64 0, .int .i64 0, .int .i64 0, .slice none 0 0], .agg #[.int .i64 0, .int .i64 0, .int .i64 0, .slice none 0 0], .int .i64 0], []⟩ 8 (by kernel_rfl) (by kernel_rfl) (by kernel_rfl) (by kernel_rfl)) ?_
  intro W base args ds gs before hval hW _ _
  refine (contract hval hW).mono fun e W' ⟨he, hg⟩ => ?_
  subst he
  exact ⟨_, rfl, Kit.law_post (tb := 4) laid (by kernel_rfl) rfl (by kernel_rfl) Try.underlying4 fnIs hW hg⟩
theorem over : Rows.tensorChannelsRow.holds Try.pinned (OpenSpec.ofChange Rows.tensorChannelsSpec) :=
  OpenClaim.holds_of_wide 5 Try.f5 rfl rfl rfl rfl rfl rfl rfl ⟨rfl, rfl, rfl, rfl, rfl⟩ rfl rfl rfl rfl rfl (by kernel_rfl) Try.func5 (by kernel_rfl)
    (of_decide_eq_true (by kernel_rfl)) (by unfold Func.isWrapper; first | (rw [if_pos (by decide +kernel)]; kernel_rfl) | (rw [if_neg (by decide +kernel)]; exact ⟨rfl, rfl⟩))
    (fun os started H enc _ => lifted os started H enc)
/-- the statement. -/
theorem proved : Rows.TensorChannelsSaid :=
  over
end Go.Proofs.Ytkmcmaickopobaa.lawTensorChannels
