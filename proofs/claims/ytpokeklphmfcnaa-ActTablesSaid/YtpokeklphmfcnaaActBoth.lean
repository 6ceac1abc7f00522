/- Layer 21 (act), the fixed calls; a node's cells; code and document beside one another. -/
import Derived.Test.YtpokeklphmfcnaaActOf
import Derived.Test.YtpokeklphmfcnaaActRefOf
import Derived.Test.YtpokeklphmfcnaaTensorSame
import Derived.Test.YtpokeklphmfcnaaTensorSameTwo
import Derived.Test.YtpokeklphmfcnaaOpenNode
import Derived.Test.YtpokeklphmfcnaaNodeCopy
import Derived.Laws.MakeOwn
import Derived.Deep.CutRange
namespace Go.Proofs.Ytpokeklphmfcnaa.CAct
open Go Go.ChangeShapes Go.WideShapes Go.ChangeAt Go.RowKit Go.Deep
open Plain CSat CFix CShape CTensor CConv
set_option linter.unusedVariables false

theorem load_mid_ga {P : Program} {ops : Array Oper} {rest : List Oper} {op : Oper} {a : Act} {w : World} {Q : Exit → Act → World → Prop} (hw : Region.wanted op (yielded ops a.tmps) = true) (ty : TypeId) (x : Operand) (ho : op.op = .load ty x)
    (b o : Nat) (hx : a.eval x = .pointer (some ⟨b, o, none⟩)) (cs : List Value) (d : TypeDesc) (hc : w.rangeAt b o cs)
    (hu : P.underlying ty = some d) (hd : d.isRow = true) (hi : (P.info? ty).map (·.size) = some cs.length)
    (h : wpList P ops Q rest (a.put op.dst (.agg cs.toArray)) w) : wpList P ops Q (op :: rest) a w :=
  wpList_step fun K hK => by rw [if_pos hw]; exact wp_load_mid ty x ho b o hx cs d hc hu hd hi (hK _ _ h)
theorem one_knownA (w : World) : Calls Try.prog 13 #[.int .i8 (-5), .agg #[.int .i64 0, .int .i64 0, .int .i64 0, .int .i64 0, .int .i64 0, .int .i64 0, .int .i64 0, .int .i8 0, .int .i8 0, .slice none 0 0, .slice none 0 0, .int .i32 1, .int .i64 0, .int .i8 0, .int .i32 0, .int .i64 0, .int .i8 0, .int .i8 0, .int .i8 127]] w fun e w' => e = .returned (.int .i8 0) ∧ Below w.heap.size w w' :=
  aone_to (-5) (by decide) (by decide) (.int .i64 0) (.int .i64 0) (.int .i64 0) 0 0 0 0 0 0 none none 0 0 0 0 1 0 0 0 0 0 0 127 (by unfold NBd; omega) 0 (by decide) w
theorem one_knownB (w : World) : Calls Try.prog 13 #[.int .i8 5, .agg #[.int .i64 0, .int .i64 0, .int .i64 0, .int .i64 0, .int .i64 0, .int .i64 0, .int .i64 0, .int .i8 0, .int .i8 0, .slice none 0 0, .slice none 0 0, .int .i32 1, .int .i64 0, .int .i8 0, .int .i32 0, .int .i64 0, .int .i8 0, .int .i8 0, .int .i8 127]] w fun e w' => e = .returned (.int .i8 5) ∧ Below w.heap.size w w' :=
  aone_to 5 (by decide) (by decide) (.int .i64 0) (.int .i64 0) (.int .i64 0) 0 0 0 0 0 0 none none 0 0 0 0 1 0 0 0 0 0 0 127 (by unfold NBd; omega) 5 (by decide) w
set_option maxRecDepth 100000 in
set_option maxHeartbeats 4000000 in
theorem known21 (w : World) : Calls Try.prog 6 #[] w fun e w' => e = .returned (.bool true) ∧ Below w.heap.size w w' := by
  go_enter Try.func6, Try.ntmps6
  go_upto_region 1 with fail
  have hth := Kit.there_new w (cs := #[.int .i64 0, .int .i64 0, .int .i64 0, .int .i64 0, .int .i64 0, .int .i64 0, .int .i64 0, .int .i8 0, .int .i8 0, .slice none 0 0, .slice none 0 0, .int .i32 0, .int .i64 0, .int .i8 0, .int .i32 0, .int .i64 0, .int .i8 0, .int .i8 0, .int .i8 0]) 32 (n := 19) rfl
  have HTH := Lib.hid hth
  clear hth
  go_upto_region 2 with (refine wpList_store_mid rfl 32 (.tmp 1) (.tmp 3) rfl w.heap.size 0 #[.int .i64 0, .int .i64 0, .int .i64 0, .int .i64 0, .int .i64 0, .int .i64 0, .int .i64 0, .int .i8 0, .int .i8 0, .slice none 0 0, .slice none 0 0, .int .i32 1, .int .i64 0, .int .i8 0, .int .i32 0, .int .i64 0, .int .i8 0, .int .i8 0, .int .i8 127] rfl rfl HTH.out (by kernel_rfl) (all_oneCell_toArray (cs := [.int .i64 0, .int .i64 0, .int .i64 0, .int .i64 0, .int .i64 0, .int .i64 0, .int .i64 0, .int .i8 0, .int .i8 0, .slice none 0 0, .slice none 0 0, .int .i32 1, .int .i64 0, .int .i8 0, .int .i32 0, .int .i64 0, .int .i8 0, .int .i8 0, .int .i8 127]) (by simp [Value.oneCell'])) ?_)
  have TN := Lib.hid (NodeAt.stored HTH.out (.int .i64 0) (.int .i64 0) (.int .i64 0) (.int .i8 0) (.int .i32 1) (.int .i64 0) (.int .i8 0) (.int .i32 0) (.int .i64 0) (.int .i8 0) (.int .i8 0) (.int .i8 127) 0 0 0 0 0 none none 0 0 0 0)
  have HB0 : Below w.heap.size w ((w.alloc (.cells #[.int .i64 0, .int .i64 0, .int .i64 0, .int .i64 0, .int .i64 0, .int .i64 0, .int .i64 0, .int .i8 0, .int .i8 0, .slice none 0 0, .slice none 0 0, .int .i32 0, .int .i64 0, .int .i8 0, .int .i32 0, .int .i64 0, .int .i8 0, .int .i8 0, .int .i8 0] 32)).setCells w.heap.size 0 [.int .i64 0, .int .i64 0, .int .i64 0, .int .i64 0, .int .i64 0, .int .i64 0, .int .i64 0, .int .i8 0, .int .i8 0, .slice none 0 0, .slice none 0 0, .int .i32 1, .int .i64 0, .int .i8 0, .int .i32 0, .int .i64 0, .int .i8 0, .int .i8 0, .int .i8 127]) := Kit.below_cells (Nat.le_refl _) _ _ _ ((Below.refl _ _).alloc (Nat.le_refl _) _)
  have HB := Lib.hid HB0
  have yTN0 : w.heap.size < ((w.alloc (.cells #[.int .i64 0, .int .i64 0, .int .i64 0, .int .i64 0, .int .i64 0, .int .i64 0, .int .i64 0, .int .i8 0, .int .i8 0, .slice none 0 0, .slice none 0 0, .int .i32 0, .int .i64 0, .int .i8 0, .int .i32 0, .int .i64 0, .int .i8 0, .int .i8 0, .int .i8 0] 32)).setCells w.heap.size 0 [.int .i64 0, .int .i64 0, .int .i64 0, .int .i64 0, .int .i64 0, .int .i64 0, .int .i64 0, .int .i8 0, .int .i8 0, .slice none 0 0, .slice none 0 0, .int .i32 1, .int .i64 0, .int .i8 0, .int .i32 0, .int .i64 0, .int .i8 0, .int .i8 0, .int .i8 127]).heap.size := by rw [Kit.size_cells]; simp
  clear HTH HB0
  generalize (w.alloc (.cells #[.int .i64 0, .int .i64 0, .int .i64 0, .int .i64 0, .int .i64 0, .int .i64 0, .int .i64 0, .int .i8 0, .int .i8 0, .slice none 0 0, .slice none 0 0, .int .i32 0, .int .i64 0, .int .i8 0, .int .i32 0, .int .i64 0, .int .i8 0, .int .i8 0, .int .i8 0] 32)).setCells w.heap.size 0 [.int .i64 0, .int .i64 0, .int .i64 0, .int .i64 0, .int .i64 0, .int .i64 0, .int .i64 0, .int .i8 0, .int .i8 0, .slice none 0 0, .slice none 0 0, .int .i32 1, .int .i64 0, .int .i8 0, .int .i32 0, .int .i64 0, .int .i8 0, .int .i8 0, .int .i8 127] = W1 at TN HB yTN0 ⊢
  have yTN := yTN0
  clear yTN0
  go_wp2_with (first
    | (refine wpList_load_mid rfl 32 (.tmp 1) rfl w.heap.size 0 rfl [.int .i64 0, .int .i64 0, .int .i64 0, .int .i64 0, .int .i64 0, .int .i64 0, .int .i64 0, .int .i8 0, .int .i8 0, .slice none 0 0, .slice none 0 0, .int .i32 1, .int .i64 0, .int .i8 0, .int .i32 0, .int .i64 0, .int .i8 0, .int .i8 0, .int .i8 127] _ TN.out Try.underlying32 rfl (by kernel_rfl) ?_)
    | (refine load_mid_ga (by rfl) 32 (.tmp 1) rfl w.heap.size 0 rfl [.int .i64 0, .int .i64 0, .int .i64 0, .int .i64 0, .int .i64 0, .int .i64 0, .int .i64 0, .int .i8 0, .int .i8 0, .slice none 0 0, .slice none 0 0, .int .i32 1, .int .i64 0, .int .i8 0, .int .i32 0, .int .i64 0, .int .i8 0, .int .i8 0, .int .i8 127] _ TN.out Try.underlying32 rfl (by kernel_rfl) ?_)
    | (go_at_call 13; (first | (with_reducible refine (one_knownA _).mono ?_) | (with_reducible refine (one_knownB _).mono ?_)); rintro e w2 ⟨rfl, hb2⟩; (replace TN := Lib.hid (TN.out.below yTN hb2)); (replace yTN := Nat.lt_of_lt_of_le yTN hb2.size); (replace HB := Lib.hid (HB.out.trans (hb2.mono HB.out.size))); clear hb2))
  go_ret
  exact ⟨rfl, HB.out⟩
theorem i8b_of {zs : List Int} (h : ∀ n ∈ zs, (Lit.int .i8 n).wf = true) : I8b zs := fun q => by
  rw [List.getD_eq_getElem?_getD]
  cases hq : zs[q]? with
  | none => simp
  | some x =>
    have hx := h x (List.mem_of_getElem? hq)
    have ⟨a, b⟩ : -128 ≤ x ∧ x ≤ 127 := by simpa [Lit.wf, IntKind.min, IntKind.max, IntKind.signed, IntKind.bits] using hx
    simpa using ⟨a, b⟩
theorem tens_pos {H W C : Int} {n : Nat} (h : tensB H W C n = true) : 1 ≤ n := by
  obtain ⟨hs, hn⟩ : shapeB H W C = true ∧ (n : Int) = H * W * C := by simpa [tensB] using h
  obtain ⟨g1, g2, g3, g4, g5, g6, g7⟩ := shapeB_yes hs
  have : 0 < H * W * C := Int.mul_pos (Int.mul_pos (by omega) (by omega)) (by omega)
  omega
theorem actOf_all (H W C : Int) (A : Option Addr) (n c : Nat) (zs : List Int) (hz : zs.length = n) (bz : I8b zs) (hn6 : n ≤ 1000000) (x0 x1 x2 : Value) (K S P O Z Y : Int) (WA BA : Option Addr) (nW cW nB cB : Nat) (m1 s1 z1 m2 s2 z2 lo hi : Int) (hnb : NBd Z Y m1 z1 m2 z2 lo hi) :
    ∃ (X V U : Int) (k : Nat) (xs : List Int) (er : Int), xs.length = k ∧ k ≤ 1000000 ∧
      (∀ w : World, Kit.Rd w w.heap.size A (I8s zs) → Calls Try.prog 7 #[.agg #[.int .i64 H, .int .i64 W, .int .i64 C, .slice A n c], .agg #[x0, x1, x2, .int .i64 K, .int .i64 S, .int .i64 P, .int .i64 O, .int .i8 Z, .int .i8 Y, .slice WA nW cW, .slice BA nB cB, .int .i32 m1, .int .i64 s1, .int .i8 z1, .int .i32 m2, .int .i64 s2, .int .i8 z2, .int .i8 lo, .int .i8 hi]] w (MadeT w X V U k xs (.int .i64 er))) ∧
      (∀ w : World, Kit.Rd w w.heap.size A (I8s zs) → Calls Try.prog 8 #[.agg #[.int .i64 H, .int .i64 W, .int .i64 C, .slice A n c], .agg #[x0, x1, x2, .int .i64 K, .int .i64 S, .int .i64 P, .int .i64 O, .int .i8 Z, .int .i8 Y, .slice WA nW cW, .slice BA nB cB, .int .i32 m1, .int .i64 s1, .int .i8 z1, .int .i32 m2, .int .i64 s2, .int .i8 z2, .int .i8 lo, .int .i8 hi]] w (MadeT w X V U k xs (.int .i64 er))) := by
  cases h1 : tensB H W C n
  · exact ⟨0, 0, 0, 0, [], 5, rfl, by omega, fun w _ => aof_bad H W C A n c x0 x1 x2 K S P O Z Y WA BA nW cW nB cB m1 s1 z1 m2 s2 z2 lo hi h1 w, fun w _ => arof_bad H W C A n c x0 x1 x2 K S P O Z Y WA BA nW cW nB cB m1 s1 z1 m2 s2 z2 lo hi h1 w⟩
  · cases hq : rightB m1 s1
    · exact ⟨0, 0, 0, 0, [], 7, rfl, by omega, fun w _ => aof_quant H W C A n c x0 x1 x2 K S P O Z Y WA BA nW cW nB cB m1 s1 z1 m2 s2 z2 lo hi h1 hq w, fun w _ => arof_quant H W C A n c x0 x1 x2 K S P O Z Y WA BA nW cW nB cB m1 s1 z1 m2 s2 z2 lo hi h1 hq w⟩
    · exact ⟨H, W, C, n, rowL (fun k => heldZ (zs.getD k 0 - Z) m1 s1 z1 lo hi) n, 0, rowL_len _ _, hn6,
        fun w hr => aof_yes H W C A n c zs hz hn6 bz x0 x1 x2 K S P O Z Y WA BA nW cW nB cB m1 s1 z1 m2 s2 z2 lo hi hnb h1 hq _ (fun _ => rfl) w hr,
        fun w hr => arof_yes H W C A n c zs hz bz x0 x1 x2 K S P O Z Y WA BA nW cW nB cB m1 s1 z1 m2 s2 z2 lo hi hnb h1 hq (tens_pos h1) hn6 _ (fun _ => rfl) w hr⟩
end Go.Proofs.Ytpokeklphmfcnaa.CAct
namespace Go.Proofs.Ytpokeklphmfcnaa.CJoin
open Go Go.ChangeShapes Go.WideShapes Go.ChangeAt Go.RowKit Go.Deep
open Plain CSat CFix CShape CTensor CConv CAct
theorem node_types : Try.prog.cellTypes Try.prog.depth 32 = some [3, 3, 3, 3, 3, 3, 3, 27, 27, 24, 28, 21, 3, 27, 21, 3, 27, 27, 27] := by kernel_rfl
theorem cell_int {P : Program} {w : World} {r : Reach} {b0 : Nat} {t u : TypeId} {fs : Array Field} {cs : Array Value} {ts : List TypeId} (ht : P.underlying t = some (.struct fs)) (hts : P.cellTypes P.depth t = some ts) (hv : Value.okWide P w r b0 t (.agg cs))
    (i : Nat) (v : Value) (hi : cs[i]? = some v) (hu : ts[i % ts.length]? = some u) (k : IntKind) (hk : P.underlying u = some (.int k)) : ∃ n, v = .int k n ∧ k.min ≤ n ∧ n ≤ k.max := by
  simp only [Value.okWide, ht] at hv
  obtain ⟨cs', e, _, ts', hts', _, hr⟩ := hv
  cases e
  rw [hts] at hts'
  cases hts'
  obtain ⟨u', hu', hc⟩ := hr i v hi
  rw [hu] at hu'
  cases hu'
  unfold Cell.okWide Cell.ok at hc
  rw [hk] at hc
  cases v <;> simp at hc
  obtain ⟨rfl, h⟩ := hc
  exact ⟨_, rfl, h.1, h.2⟩
/-- the cells of a node that a join reads are numbers. -/
theorem join_cells {w : World} {r : Reach} {b0 : Nat} {a0 a1 a2 a3 a4 a5 a6 a7 a8 a9 a10 a11 a12 a13 a14 a15 a16 a17 a18 : Value} (hv : Value.okWide Try.prog w r b0 32 (.agg #[a0, a1, a2, a3, a4, a5, a6, a7, a8, a9, a10, a11, a12, a13, a14, a15, a16, a17, a18])) :
    ∃ Y m1 s1 z1 m2 s2 z2 lo hi : Int, (a8 = .int .i8 Y ∧ a11 = .int .i32 m1 ∧ a12 = .int .i64 s1 ∧ a13 = .int .i8 z1 ∧ a14 = .int .i32 m2 ∧ a15 = .int .i64 s2 ∧ a16 = .int .i8 z2 ∧ a17 = .int .i8 lo ∧ a18 = .int .i8 hi) ∧ NBd 0 Y m1 z1 m2 z2 lo hi := by
  have h := fun (i : Nat) (v : Value) hi u hu k hk => cell_int (u := u) Try.underlying32 node_types hv i v hi hu k hk
  obtain ⟨Y, e8, l8, u8⟩ := h 8 a8 rfl _ rfl .i8 Try.underlying27
  obtain ⟨m1, e11, l11, u11⟩ := h 11 a11 rfl _ rfl .i32 Try.underlying21
  obtain ⟨s1, e12, l12, u12⟩ := h 12 a12 rfl _ rfl .i64 Try.underlying3
  obtain ⟨z1, e13, l13, u13⟩ := h 13 a13 rfl _ rfl .i8 Try.underlying27
  obtain ⟨m2, e14, l14, u14⟩ := h 14 a14 rfl _ rfl .i32 Try.underlying21
  obtain ⟨s2, e15, l15, u15⟩ := h 15 a15 rfl _ rfl .i64 Try.underlying3
  obtain ⟨z2, e16, l16, u16⟩ := h 16 a16 rfl _ rfl .i8 Try.underlying27
  obtain ⟨lo, e17, l17, u17⟩ := h 17 a17 rfl _ rfl .i8 Try.underlying27
  obtain ⟨hi, e18, l18, u18⟩ := h 18 a18 rfl _ rfl .i8 Try.underlying27
  clear h hv
  simp only [IntKind.min, IntKind.max, IntKind.signed, IntKind.bits] at *
  refine ⟨Y, m1, s1, z1, m2, s2, z2, lo, hi, ⟨e8, e11, e12, e13, e14, e15, e16, e17, e18⟩, ?_⟩
  unfold NBd
  simp at *
  omega
theorem NBd.of {Z Y m1 z1 m2 z2 lo hi : Int} (h : NBd 0 Y m1 z1 m2 z2 lo hi) (wZ : (Lit.int .i8 Z).wf = true) : NBd Z Y m1 z1 m2 z2 lo hi := by
  have hZ : -128 ≤ Z ∧ Z ≤ 127 := by simpa [Lit.wf, IntKind.min, IntKind.max, IntKind.signed, IntKind.bits] using wZ
  exact ⟨hZ, h.2⟩
end Go.Proofs.Ytpokeklphmfcnaa.CJoin
