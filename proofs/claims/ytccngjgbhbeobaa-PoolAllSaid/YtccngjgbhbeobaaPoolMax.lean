/- Layer 19 (pool): the greatest number of a window (code). -/
import Derived.Test.YtccngjgbhbeobaaPoolSeq
namespace Go.Proofs.Ytccngjgbhbeobaa.CPool
open Go Go.ChangeShapes Go.WideShapes Go.ChangeAt Go.RowKit Go.Shelf
open Plain CSat CShape CTensor CConv
set_option linter.unusedVariables false
attribute [local go_sem] Oper.semAt_some

/-- the greatest of some numbers, and of -128. -/
def maxL (l : List Int) : Int := l.foldl (fun a x => if a < x then x else a) (-128)
theorem maxL_snoc (l : List Int) (x : Int) : maxL (l ++ [x]) = if maxL l < x then x else maxL l := by unfold maxL; rw [List.foldl_append]; rfl
set_option maxRecDepth 100000 in
set_option maxHeartbeats 4000000 in
theorem maxC_to (g b off : Nat) (H W C : Int) (N c kk o d : Nat) (top left : Int) (G : Nat → Int) (hbz : ∀ k, -128 ≤ G k ∧ G k ≤ 127) (ht : tensB H W C N = true) (hd : C = (d : Int)) (ho : o < d) (hk7 : kk ≤ 7)
    (t1 : -1000 ≤ top) (t2 : top ≤ 1000) (l1 : -1000 ≤ left) (l2 : left ≤ 1000) (R : Int) (hR : maxL ((rowsI H W C top left kk o kk).map G) = R)
    (w : World) (hg : g + 4 < w.heap.size) (hb : b < w.heap.size) (hcap : CapAt g H W C (some ⟨b, off, none⟩) N c (kk : Int) top left (o : Int) w) (hc : ∀ j, j < N → w.cell? ⟨b, off + j, none⟩ = some (.int .i8 (G j))) :
    Calls Try.prog 19 #[.func (.func 35) #[] #[.pointer (some ⟨g + 1, 0, none⟩), .pointer (some ⟨g, 0, none⟩), .pointer (some ⟨g + 2, 0, none⟩), .pointer (some ⟨g + 3, 0, none⟩), .pointer (some ⟨g + 4, 0, none⟩)]] w fun e w' => e = .returned (.int .i8 R) ∧ Below w.heap.size w w' := by
  have HR := Lib.hid hR
  clear hR
  refine (callsIn_wide (n := 5)).1 ?_
  refine callsIn_of_wp_marks Try.func19 rfl trivial ?_ rfl
  simp only [Try.ntmps19, List.size_toArray, List.length_cons, List.length_nil, Nat.reduceAdd, Nat.reduceSub, Array.replicate_succ, Array.replicate_zero, List.push_toArray, List.append_toArray, List.nil_append, List.cons_append]
  refine wpIn_wide.2 ?_
  go_wp2_with fail
  have bX := Boxed.new w 30 (.int .i8 (-128))
  have hbW : Below w.heap.size w (w.alloc (.cells #[.int .i8 (-128)] 30)) := (Below.refl _ _).alloc (Nat.le_refl _) _
  have hsW : (w.alloc (.cells #[.int .i8 (-128)] 30)).heap.size = w.heap.size + 1 := by simp
  generalize w.alloc (.cells #[.int .i8 (-128)] 30) = W1 at bX hbW hsW ⊢
  refine (wpIn_wide (n := 5)).1 ?_
  refine wpIn_rangeFunc_ownG (F := Fence.wide) (n := 5) rfl (by omega) (gf := 35) (lb := #[.pointer (some ⟨g + 1, 0, none⟩), .pointer (some ⟨g, 0, none⟩), .pointer (some ⟨g + 2, 0, none⟩), .pointer (some ⟨g + 3, 0, none⟩), .pointer (some ⟨g + 4, 0, none⟩)]) rfl trivial (enters_of Try.func35 (by kernel_rfl) rfl)
    (seq_window (5 - 1) (by omega) g w.heap.size b off H W C N c kk o d top left G ht hd ho hk7 t1 t2 l1 l2 hg hb W1 (by omega) (hcap.below hg hbW) (fun j hj => (hbW.cell (p := ⟨b, off + j, none⟩) hb).trans (hc j hj))) belowK_t (belowK_b (by omega)) (Below.refl _ _) (fun _ => rfl)
    (fun pre W => Boxed W w.heap.size 30 (.int .i8 (maxL (pre.map G))) ∧ Below w.heap.size w W)
    (fun _ _ _ => False)
    (OwnFrom.and (Own.from (boxed_own w.heap.size 30 (fun pre : List Nat => .int .i8 (maxL (pre.map G)))) _) (ownFrom_below (by omega) (by omega)))
    (fun _ _ _ _ _ hs _ _ => hs)
    ⟨bX, hbW⟩
    ?a1 ?assign ?body ?done ?stop
  case assign =>
    intro l x W K hK
    gi_wp2
    exact hK
  case body =>
    rintro l pre x W ⟨hX, hB⟩ _
    have hs := maxL_snoc (pre.map G) (G x)
    have hm : (pre ++ [x]).map G = pre.map G ++ [G x] := by simp
    rw [← hm] at hs
    clear hm
    obtain ⟨m0, hm0⟩ : ∃ m0, maxL (pre.map G) = m0 := ⟨_, rfl⟩
    rw [hm0] at hs hX
    generalize G x = y at hs ⊢
    have HS := Lib.hid hs
    have HX := Lib.hid hX
    have HB := Lib.hid hB
    have hcx := hX.cell
    have hfx := hX.frozen
    clear hs hX hB hm0 hbz bX hbW hcap hc ht
    by_cases hlt : m0 < y
    · have hmx : max m0 y = y := by omega
      gi_wp2
      exact ⟨(KeepsOthers.setCell _ _ _).from _, (Below.refl _ _).setCell (p := ⟨w.heap.size, 0, none⟩) (Nat.le_refl _) _, by rw [HS.out, if_pos (by omega)]; exact HX.out.set _, HB.out.setCell (p := ⟨w.heap.size, 0, none⟩) (Nat.le_refl _) _⟩
    · have hmx : max m0 y = m0 := by omega
      have hle : y ≤ m0 := by omega
      gi_wp2
      exact ⟨(KeepsOthers.setCell _ _ _).from _, (Below.refl _ _).setCell (p := ⟨w.heap.size, 0, none⟩) (Nat.le_refl _) _, by rw [HS.out, if_neg (by omega)]; exact HX.out.set _, HB.out.setCell (p := ⟨w.heap.size, 0, none⟩) (Nat.le_refl _) _⟩
  case done =>
    rintro D ls W hD rfl ⟨hX, hB⟩ hK
    rw [HR.out] at hX
    have hcx := hX.cell
    have HB := Lib.hid hB
    have HK := Lib.hid hK
    have HD := Lib.hid hD
    clear hX hB hK hD hbz bX hbW hcap hc ht
    go_wp2_with fail
    refine ⟨by simp, .inl ⟨_, _, rfl, run_takeDeferred HK.out, ?_⟩⟩
    refine ⟨.int .i8 R, ?_, rfl, HB.out.trans (belowK_b (w := w) (Nat.le_refl _) _ D _ _ (by have := HD.out; omega) HK.out rfl rfl)⟩
    simp [results, Try.f19, go_sem]
  case stop =>
    rintro D c pre W _ _ h _
    exact h.elim
end Go.Proofs.Ytccngjgbhbeobaa.CPool
