/- Layer 19 (pool): the mean of a window (code). -/
import Derived.Test.YtccngjgbhbeobaaPoolSeq
import Derived.Test.YtccngjgbhbeobaaPoolNearC
import Derived.Test.YtccngjgbhbeobaaPoolMean
namespace Go.Proofs.Ytccngjgbhbeobaa.CPool
open Go Go.ChangeShapes Go.WideShapes Go.ChangeAt Go.RowKit Go.Shelf
open Plain CSat CShape CTensor CConv
set_option linter.unusedVariables false
attribute [local go_sem] Oper.semAt_some

/-- the sum of some numbers. -/
def sumL (l : List Int) : Int := l.foldl (· + ·) 0
theorem sumL_snoc (l : List Int) (x : Int) : sumL (l ++ [x]) = sumL l + x := by simp [sumL]
theorem sumL_psum (l : List Int) : ∀ k, k ≤ l.length → sumL (l.take k) = psum (fun i => l.getD i 0) k
  | 0, _ => rfl
  | k + 1, h => by
    have e : l.take (k + 1) = l.take k ++ [l[k]] := by rw [List.take_add_one, List.getElem?_eq_getElem (by omega)]; rfl
    rw [e, sumL_snoc, sumL_psum l k (by omega)]
    show _ = psum (fun i => l.getD i 0) k + l.getD k 0
    rw [List.getD_eq_getElem?_getD, List.getElem?_eq_getElem (by omega)]; rfl
theorem sumL_bd (l : List Int) (h : ∀ x ∈ l, -128 ≤ x ∧ x ≤ 127) : -(128 * (l.length : Int)) ≤ sumL l ∧ sumL l ≤ 128 * (l.length : Int) := by
  have key : ∀ (l : List Int) (a : Int), (∀ x ∈ l, -128 ≤ x ∧ x ≤ 127) → a - 128 * (l.length : Int) ≤ l.foldl (· + ·) a ∧ l.foldl (· + ·) a ≤ a + 128 * (l.length : Int) := by
    intro l
    induction l with
    | nil => intro a _; simp
    | cons y l ih =>
      intro a h
      obtain ⟨y1, y2⟩ := h y (by simp)
      obtain ⟨i1, i2⟩ := ih (a + y) (fun x hx => h x (by simp [hx]))
      simp only [List.foldl_cons, List.length_cons]
      omega
  have := key l 0 h
  unfold sumL
  omega
theorem meanZ_sum (l : List Int) : meanZ l = IntKind.i8.wrap (nearZ (sumL l) l.length) := by
  unfold meanZ
  have h := sumL_psum l l.length (Nat.le_refl _)
  rw [List.take_length] at h
  rw [h]
set_option maxRecDepth 100000 in
set_option maxHeartbeats 4000000 in
theorem meanC_to (g b off : Nat) (H W C : Int) (N c kk o d : Nat) (top left : Int) (G : Nat → Int) (hbz : ∀ k, -128 ≤ G k ∧ G k ≤ 127) (ht : tensB H W C N = true) (hd : C = (d : Int)) (ho : o < d) (hk7 : kk ≤ 7)
    (t1 : -1000 ≤ top) (t2 : top ≤ 1000) (l1 : -1000 ≤ left) (l2 : left ≤ 1000) (R : Int) (hR : meanZ ((rowsI H W C top left kk o kk).map G) = R)
    (w : World) (hg : g + 4 < w.heap.size) (hb : b < w.heap.size) (hcap : CapAt g H W C (some ⟨b, off, none⟩) N c (kk : Int) top left (o : Int) w) (hc : ∀ j, j < N → w.cell? ⟨b, off + j, none⟩ = some (.int .i8 (G j))) :
    Calls Try.prog 20 #[.func (.func 35) #[] #[.pointer (some ⟨g + 1, 0, none⟩), .pointer (some ⟨g, 0, none⟩), .pointer (some ⟨g + 2, 0, none⟩), .pointer (some ⟨g + 3, 0, none⟩), .pointer (some ⟨g + 4, 0, none⟩)]] w fun e w' => e = .returned (.int .i8 R) ∧ Below w.heap.size w w' := by
  have hR2 : IntKind.i8.wrap (nearZ (sumL ((rowsI H W C top left kk o kk).map G)) ((rowsI H W C top left kk o kk).length : Int)) = R := by
    rw [← hR, meanZ_sum, List.length_map]
  have HR := Lib.hid hR2
  have HBZ := Lib.hid hbz
  have hlw := rowsI_len H W C top left kk o kk
  have hkk : kk * kk ≤ 49 := Nat.le_trans (Nat.mul_le_mul hk7 hk7) (by omega)
  have hll : (rowsI H W C top left kk o kk).length ≤ 49 := Nat.le_trans hlw hkk
  have hall : ∀ pre : List Nat, ∀ x ∈ pre.map G, -128 ≤ x ∧ x ≤ 127 := by
    intro pre x hx
    obtain ⟨k, -, rfl⟩ := List.mem_map.1 hx
    exact hbz k
  have HALL := Lib.hid hall
  clear hR hR2 hlw hkk hall
  refine (callsIn_wide (n := 5)).1 ?_
  refine callsIn_of_wp_marks Try.func20 rfl trivial ?_ rfl
  simp only [Try.ntmps20, List.size_toArray, List.length_cons, List.length_nil, Nat.reduceAdd, Nat.reduceSub, Array.replicate_succ, Array.replicate_zero, List.push_toArray, List.append_toArray, List.nil_append, List.cons_append]
  refine wpIn_wide.2 ?_
  go_wp2_with fail
  have bX := (Boxed.new w 3 (.int .i64 0)).alloc (.cells #[.int .i64 0] 3)
  have bM := Boxed.new (w.alloc (.cells #[.int .i64 0] 3)) 3 (.int .i64 0)
  rw [World.size_alloc] at bM
  have hbW : Below w.heap.size w ((w.alloc (.cells #[.int .i64 0] 3)).alloc (.cells #[.int .i64 0] 3)) := ((Below.refl _ _).alloc (Nat.le_refl _) _).alloc (by simp) _
  have hsW : ((w.alloc (.cells #[.int .i64 0] 3)).alloc (.cells #[.int .i64 0] 3)).heap.size = w.heap.size + 2 := by simp
  generalize (w.alloc (.cells #[.int .i64 0] 3)).alloc (.cells #[.int .i64 0] 3) = W1 at bX bM hbW hsW ⊢
  refine (wpIn_wide (n := 5)).1 ?_
  refine wpIn_rangeFunc_ownG (F := Fence.wide) (n := 5) rfl (by omega) (gf := 35) (lb := #[.pointer (some ⟨g + 1, 0, none⟩), .pointer (some ⟨g, 0, none⟩), .pointer (some ⟨g + 2, 0, none⟩), .pointer (some ⟨g + 3, 0, none⟩), .pointer (some ⟨g + 4, 0, none⟩)]) rfl trivial (enters_of Try.func35 (by kernel_rfl) rfl)
    (seq_window (5 - 1) (by omega) g w.heap.size b off H W C N c kk o d top left G ht hd ho hk7 t1 t2 l1 l2 hg hb W1 (by omega) (hcap.below hg hbW) (fun j hj => (hbW.cell (p := ⟨b, off + j, none⟩) hb).trans (hc j hj))) belowK_t (belowK_b (by omega)) (Below.refl _ _) (fun _ => rfl)
    (fun pre W => (Boxed W w.heap.size 3 (.int .i64 (sumL (pre.map G))) ∧ Boxed W (w.heap.size + 1) 3 (.int .i64 (pre.length : Int))) ∧ Below w.heap.size w W)
    (fun _ _ _ => False)
    (OwnFrom.and (OwnFrom.and (Own.from (boxed_own w.heap.size 3 (fun pre : List Nat => (.int .i64 (sumL (pre.map G))))) _) (Own.from (boxed_own (w.heap.size + 1) 3 (fun pre : List Nat => .int .i64 (pre.length : Int))) _)) (ownFrom_below (by omega) (by omega)))
    (fun _ _ _ _ _ hs _ _ => hs)
    ⟨⟨bX, bM⟩, hbW⟩
    ?a1 ?assign ?body ?done ?stop
  case assign =>
    intro l x W K hK
    gi_wp2
    exact hK
  case body =>
    rintro l pre x W ⟨⟨hX, hM⟩, hB⟩ hlt
    have hs := sumL_snoc (pre.map G) (G x)
    have hm : (pre ++ [x]).map G = pre.map G ++ [G x] := by simp
    have hbd := sumL_bd _ (HALL.out pre)
    rw [List.length_map] at hbd
    rw [← hm] at hs
    obtain ⟨y1, y2⟩ := HBZ.out x
    clear hm
    obtain ⟨m0, hm0⟩ : ∃ m0, sumL (pre.map G) = m0 := ⟨_, rfl⟩
    rw [hm0] at hs hX hbd
    generalize G x = y at hs y1 y2 ⊢
    have w1 : IntKind.i64.wrap y = y := IntWalk.i64_in _ (by omega)
    have w2 : IntKind.i64.wrap (m0 + y) = m0 + y := IntWalk.i64_in _ (by omega)
    have w3 : IntKind.i64.wrap ((pre.length : Int) + 1) = (pre.length : Int) + 1 := IntWalk.i64_in _ (by omega)
    have hpl : (((pre ++ [x]).length : Nat) : Int) = (pre.length : Int) + 1 := by simp
    have HPL := Lib.hid hpl
    generalize (pre.length : Int) = pl at w3 hM HPL ⊢
    have HS := Lib.hid hs
    have HX := Lib.hid hX
    have HM := Lib.hid hM
    have HB := Lib.hid hB
    have hcx := hX.cell
    have hfx := hX.frozen
    have hcm := hM.cell
    have hfm := hM.frozen
    clear hs hX hM hB hm0 hbz bX bM hbW hcap hc ht hpl hbd
    gi_wp2
    exact ⟨((KeepsOthers.setCell _ _ _).trans (KeepsOthers.setCell _ _ _)).from _, ((Below.refl _ _).setCell (p := ⟨w.heap.size, 0, none⟩) (Nat.le_refl _) _).setCell (p := ⟨w.heap.size + 1, 0, none⟩) (show w.heap.size ≤ w.heap.size + 1 by omega) _,
      ⟨by rw [HS.out]; exact (HX.out.set _).other (by omega) _, by rw [HPL.out]; exact (HM.out.other (by omega) _).set _⟩, (HB.out.setCell (p := ⟨w.heap.size, 0, none⟩) (Nat.le_refl _) _).setCell (p := ⟨w.heap.size + 1, 0, none⟩) (show w.heap.size ≤ w.heap.size + 1 by omega) _⟩
  case done =>
    rintro D ls Wd hD rfl ⟨⟨hX, hM⟩, hB⟩ hK
    have hbd := sumL_bd _ (HALL.out (rowsI H W C top left kk o kk))
    rw [List.length_map] at hbd
    obtain ⟨R0, hR0⟩ : ∃ R0, nearZ (sumL ((rowsI H W C top left kk o kk).map G)) ((rowsI H W C top left kk o kk).length : Int) = R0 := ⟨_, rfl⟩
    have hwr := HR.out
    rw [hR0] at hwr
    generalize sumL ((rowsI H W C top left kk o kk).map G) = s0 at hX hbd hR0
    generalize hml : ((rowsI H W C top left kk o kk).length : Int) = m0 at hM hbd hR0
    have hm9 : 0 ≤ m0 ∧ m0 ≤ 49 := by omega
    obtain ⟨hm1, hm2⟩ := hm9
    have hcx := hX.cell
    have hcm := hM.cell
    have HB := Lib.hid hB
    have HK := Lib.hid hK
    have HD := Lib.hid hD
    have HR0 := Lib.hid hR0
    have hs1 : -4611686018427387904 ≤ s0 := by omega
    have hs2 : s0 ≤ 4611686018427387904 := by omega
    have hm3 : m0 ≤ 9223372036854775807 := by omega
    clear hX hM hB hK hD hbz bX bM hbW hcap hc ht hml hbd hR0 hm1 hm2
    go_wp2_with (go_at_call 7; (refine (near_to s0 m0 hs1 hs2 hm3 R0 HR0.out _).mono ?_); rintro e w1 ⟨rfl, q1, rfl⟩)
    have HK2 : (Wd.drewN q1).heap[D]? = some (.deferred (some [])) := HK.out
    refine ⟨by simp, .inl ⟨_, _, rfl, run_takeDeferred HK2, ?_⟩⟩
    refine ⟨.int .i8 R, ?_, rfl, (Kit.below_drewN HB.out _).trans (belowK_b (w := w) (Nat.le_refl _) _ D _ _ (by have := HD.out; omega) HK2 rfl rfl)⟩
    simp [results, Try.f20, go_sem]
  case stop =>
    rintro D c pre W _ _ h _
    exact h.elim
end Go.Proofs.Ytccngjgbhbeobaa.CPool
