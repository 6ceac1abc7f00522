/- Layer 24 (span): a node's cells as numbers; the rows of a node as ranges. -/
import Derived.Test.YtaoadgolplnedaaSpanBothNum
import Derived.Test.YtaoadgolplnedaaNodeCopy
namespace Go.Proofs.Ytaoadgolplnedaa.CJoin
open Go Go.ChangeShapes Go.WideShapes Go.ChangeAt Go.RowKit Go.Deep
open Plain CSat CFix CShape CTensor CConv
/-- the limits of a node's numbers. -/
def NBd (Z Y m1 z1 m2 z2 lo hi : Int) : Prop := (-128 ≤ Z ∧ Z ≤ 127) ∧ (-128 ≤ Y ∧ Y ≤ 127) ∧ (-2147483648 ≤ m1 ∧ m1 ≤ 2147483647) ∧ (-128 ≤ z1 ∧ z1 ≤ 127) ∧ (-2147483648 ≤ m2 ∧ m2 ≤ 2147483647) ∧ (-128 ≤ z2 ∧ z2 ≤ 127) ∧ (-128 ≤ lo ∧ lo ≤ 127) ∧ (-128 ≤ hi ∧ hi ≤ 127)
theorem node_types : Try.prog.cellTypes Try.prog.depth 28 = some [3, 3, 3, 3, 3, 3, 3, 22, 22, 23, 24, 21, 3, 22, 21, 3, 22, 22, 22] := by kernel_rfl
theorem cell_int {P : Program} {w : World} {r : Reach} {b0 : Nat} {t u : TypeId} {fs : Array Field} {cs : Array Value} {ts : List TypeId} (ht : P.underlying t = some (.struct fs)) (hts : P.cellTypes P.depth t = some ts) (hv : Value.okWide P w r b0 t (.agg cs))
    (i : Nat) (v : Value) (hi : cs[i]? = some v) (hu : ts[i % ts.length]? = some u) (k : IntKind) (hk : P.underlying u = some (.int k)) : ∃ n, v = .int k n ∧ k.min ≤ n ∧ n ≤ k.max := by
  simp only [Value.okWide, ht] at hv
  obtain ⟨cs', e, _, ts', hts', _, hr⟩ := hv
  cases e
  rw [hts] at hts'
  cases hts'
  obtain ⟨u', hu', hc⟩ := hr i v hi
  rw [hu] at hu'
  cases hu'
  unfold Cell.okWide Cell.ok at hc
  rw [hk] at hc
  cases v <;> simp at hc
  obtain ⟨rfl, h⟩ := hc
  exact ⟨_, rfl, h.1, h.2⟩
/-- the cells of a node that a join reads are numbers. -/
theorem join_cells {w : World} {r : Reach} {b0 : Nat} {a0 a1 a2 a3 a4 a5 a6 a7 a8 a9 a10 a11 a12 a13 a14 a15 a16 a17 a18 : Value} (hv : Value.okWide Try.prog w r b0 28 (.agg #[a0, a1, a2, a3, a4, a5, a6, a7, a8, a9, a10, a11, a12, a13, a14, a15, a16, a17, a18])) :
    ∃ Y m1 s1 z1 m2 s2 z2 lo hi : Int, (a8 = .int .i8 Y ∧ a11 = .int .i32 m1 ∧ a12 = .int .i64 s1 ∧ a13 = .int .i8 z1 ∧ a14 = .int .i32 m2 ∧ a15 = .int .i64 s2 ∧ a16 = .int .i8 z2 ∧ a17 = .int .i8 lo ∧ a18 = .int .i8 hi) ∧ NBd 0 Y m1 z1 m2 z2 lo hi := by
  have h := fun (i : Nat) (v : Value) hi u hu k hk => cell_int (u := u) Try.underlying28 node_types hv i v hi hu k hk
  obtain ⟨Y, e8, l8, u8⟩ := h 8 a8 rfl _ rfl .i8 Try.underlying22
  obtain ⟨m1, e11, l11, u11⟩ := h 11 a11 rfl _ rfl .i32 Try.underlying21
  obtain ⟨s1, e12, l12, u12⟩ := h 12 a12 rfl _ rfl .i64 Try.underlying3
  obtain ⟨z1, e13, l13, u13⟩ := h 13 a13 rfl _ rfl .i8 Try.underlying22
  obtain ⟨m2, e14, l14, u14⟩ := h 14 a14 rfl _ rfl .i32 Try.underlying21
  obtain ⟨s2, e15, l15, u15⟩ := h 15 a15 rfl _ rfl .i64 Try.underlying3
  obtain ⟨z2, e16, l16, u16⟩ := h 16 a16 rfl _ rfl .i8 Try.underlying22
  obtain ⟨lo, e17, l17, u17⟩ := h 17 a17 rfl _ rfl .i8 Try.underlying22
  obtain ⟨hi, e18, l18, u18⟩ := h 18 a18 rfl _ rfl .i8 Try.underlying22
  clear h hv
  simp only [IntKind.min, IntKind.max, IntKind.signed, IntKind.bits] at *
  refine ⟨Y, m1, s1, z1, m2, s2, z2, lo, hi, ⟨e8, e11, e12, e13, e14, e15, e16, e17, e18⟩, ?_⟩
  unfold NBd
  simp at *
  omega
theorem NBd.of {Z Y m1 z1 m2 z2 lo hi : Int} (h : NBd 0 Y m1 z1 m2 z2 lo hi) (wZ : (Lit.int .i8 Z).wf = true) : NBd Z Y m1 z1 m2 z2 lo hi := by
  have hZ : -128 ≤ Z ∧ Z ≤ 127 := by simpa [Lit.wf, IntKind.min, IntKind.max, IntKind.signed, IntKind.bits] using wZ
  exact ⟨hZ, h.2⟩
end Go.Proofs.Ytaoadgolplnedaa.CJoin
namespace Go.Proofs.Ytaoadgolplnedaa.CSpan
open Go Go.ChangeShapes Go.WideShapes Go.ChangeAt Go.RowKit
open Plain CSat CFix CShape CTensor CConv CJoin
/-- the weights of one bias. -/
def wsOf (ws : List Int) (each o : Nat) : List Int := (ws.drop (o * each)).take each
/-- between which numbers a row of a node lies. -/
def rowP (ws bs : List Int) (lo hi z : Int) (g : Bool) (each o : Nat) : Int := bs.getD o 0 + psum (dnF (wsOf ws each o) lo hi z g) each
def rowQ (ws bs : List Int) (lo hi z : Int) (g : Bool) (each o : Nat) : Int := bs.getD o 0 + psum (upF (wsOf ws each o) lo hi z g) each
theorem wsOf_len {ws : List Int} {n nB each o : Nat} (hn : ws.length = n) (h : each * nB = n) (ho : o < nB) : (wsOf ws each o).length = each := by
  have h1 : (o + 1) * each ≤ nB * each := Nat.mul_le_mul_right _ ho
  rw [Nat.mul_comm nB, h, Nat.add_mul, Nat.one_mul] at h1
  unfold wsOf
  rw [List.length_take, List.length_drop, hn]
  omega
theorem wsOf_I8b {ws : List Int} (h : I8b ws) (each o : Nat) : I8b (wsOf ws each o) := fun q => by
  unfold wsOf
  rw [List.getD_eq_getElem?_getD, List.getElem?_take]
  split
  · rw [List.getElem?_drop, ← List.getD_eq_getElem?_getD]; exact h _
  · simp
theorem rowPQ_bd {ws bs : List Int} (hw : I8b ws) (hb : ∀ q, -2147483648 ≤ bs.getD q 0 ∧ bs.getD q 0 ≤ 2147483647) {lo hi z : Int} (l1 : -128 ≤ lo) (l2 : lo ≤ 127) (h1 : -128 ≤ hi) (h2 : hi ≤ 127) (z1 : -128 ≤ z) (z2 : z ≤ 127) (g : Bool) {each : Nat} (he : each ≤ 1000000) (o : Nat) :
    (-40000000000 ≤ rowP ws bs lo hi z g each o ∧ rowP ws bs lo hi z g each o ≤ 40000000000) ∧ (-40000000000 ≤ rowQ ws bs lo hi z g each o ∧ rowQ ws bs lo hi z g each o ≤ 40000000000) := by
  have a := psum_bd (G := dnF (wsOf ws each o) lo hi z g) (b := 32640) (n := each) (fun j _ => dnF_bd (wsOf_I8b hw each o) l1 l2 h1 h2 z1 z2 g j)
  have b := psum_bd (G := upF (wsOf ws each o) lo hi z g) (b := 32640) (n := each) (fun j _ => upF_bd (wsOf_I8b hw each o) l1 l2 h1 h2 z1 z2 g j)
  have c := hb o
  unfold rowP rowQ
  omega
end Go.Proofs.Ytaoadgolplnedaa.CSpan
