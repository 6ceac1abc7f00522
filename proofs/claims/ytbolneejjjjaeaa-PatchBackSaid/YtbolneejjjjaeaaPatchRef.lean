/- Layer 11 (patch): the document's windows of a tensor as rows. -/
import Derived.Test.YtbolneejjjjaeaaPatchNum
import Derived.Test.YtbolneejjjjaeaaPatchOf
import Derived.Deep.CutRange
namespace Go.Proofs.Ytbolneejjjjaeaa.CPatch
open Go Go.ChangeShapes Go.WideShapes Go.ChangeAt Go.RowKit
open Plain CSat CShape CTensor CConv
set_option linter.unusedVariables false

/-- the document's rows: how many, how wide, the numbers, why not. -/
def MadeD (w : World) (M Wd : Int) (n : Nat) (zs : List Int) (er : Int) (e : Ending) (w' : World) : Prop :=
  ∃ v, e = .returned (.tuple #[.int .i64 M, .int .i64 Wd, v, .int .i64 er]) ∧ w'.ownsRow w.heap.size 51 1 v n (I16v zs) ∧ Below w.heap.size w w'
theorem results_4 {fn : Func} {a b c d : Tmp} (h : fn.results = #[.tmp a, .tmp b, .tmp c, .tmp d]) (tmps : Array Value) (P : Program) (w : World) : (results fn tmps).run P w = .ok (.tuple #[tmps.getD a undef, tmps.getD b undef, tmps.getD c undef, tmps.getD d undef]) w := by
  simp [results, h]
theorem listF_succ (F : Nat → Int) (n : Nat) (x : Int) (hx : F n = x) : I16v (listF F n) ++ [.int .i16 x] = I16v (listF F (n + 1)) := by
  simp [I16v, listF, List.range_succ, hx]
theorem numF_at (zs : List Int) (H W C S P Z : Int) {b kk d wd i j t : Nat} (hj : j < b) (ht : t < wd) : numF zs H W C S P Z b kk d wd ((i * b + j) * wd + t) =
    if 0 ≤ (i : Int) * S - P + ((t / d / kk : Nat) : Int) ∧ (i : Int) * S - P + ((t / d / kk : Nat) : Int) < H ∧ 0 ≤ (j : Int) * S - P + ((t / d % kk : Nat) : Int) ∧ (j : Int) * S - P + ((t / d % kk : Nat) : Int) < W then
      zs.getD ((((i : Int) * S - P + ((t / d / kk : Nat) : Int)) * W + ((j : Int) * S - P + ((t / d % kk : Nat) : Int))) * C + ((t % d : Nat) : Int)).toNat 0 - Z
    else 0 := by
  have e1 : ((i * b + j) * wd + t) / wd = i * b + j := by rw [Nat.mul_comm, Nat.mul_add_div (by omega), Nat.div_eq_of_lt ht]; rfl
  have e2 : ((i * b + j) * wd + t) % wd = t := by rw [Nat.mul_comm, Nat.mul_add_mod, Nat.mod_eq_of_lt ht]
  have e3 : (i * b + j) / b = i := by rw [Nat.mul_comm, Nat.mul_add_div (by omega), Nat.div_eq_of_lt hj]; rfl
  have e4 : (i * b + j) % b = j := by rw [Nat.mul_comm, Nat.mul_add_mod, Nat.mod_eq_of_lt hj]
  unfold numF
  rw [e1, e2, e3, e4]
def OfR (w : World) (H W C : Int) (A : Option Addr) (n c : Nat) (x0 x1 x2 x8 x11 x12 x13 x14 x15 x16 x17 x18 : Value) (K S P O Z : Int) (WA BA : Option Addr) (nW cW nB cB : Nat) (X Y : Int) (g6 : Nat) (wr : World) : Prop :=
  BoxAt w.heap.size H W C A n c wr ∧ NodeAt (w.heap.size + 1) x0 x1 x2 x8 x11 x12 x13 x14 x15 x16 x17 x18 K S P O Z WA BA nW cW nB cB wr ∧ ShapeAt g6 X Y 1 wr ∧ Below w.heap.size w wr ∧ g6 + 1 ≤ wr.heap.size
theorem OfR.below {w wr wr' : World} {H W C : Int} {A : Option Addr} {n c : Nat} {x0 x1 x2 x8 x11 x12 x13 x14 x15 x16 x17 x18 : Value} {K S P O Z : Int} {WA BA : Option Addr} {nW cW nB cB : Nat} {X Y : Int} {g6 B' : Nat} (h : OfR w H W C A n c x0 x1 x2 x8 x11 x12 x13 x14 x15 x16 x17 x18 K S P O Z WA BA nW cW nB cB X Y g6 wr) (hg : w.heap.size + 2 ≤ g6) (hB : g6 < B') (hb : Below B' wr wr') : OfR w H W C A n c x0 x1 x2 x8 x11 x12 x13 x14 x15 x16 x17 x18 K S P O Z WA BA nW cW nB cB X Y g6 wr' :=
  ⟨h.1.below (B' := B') (by omega) hb, h.2.1.below (B' := B') (by omega) hb, h.2.2.1.below hB hb, h.2.2.2.1.trans (hb.mono (by omega)), Nat.le_trans h.2.2.2.2 hb.size⟩
end Go.Proofs.Ytbolneejjjjaeaa.CPatch
