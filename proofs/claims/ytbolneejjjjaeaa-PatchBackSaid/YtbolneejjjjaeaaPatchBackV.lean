/- Layer 11 (patch): what a visit adds to the sums (code). -/
import Derived.Test.YtbolneejjjjaeaaPatchEachB
import Derived.Test.YtbolneejjjjaeaaPatchOf
import Derived.Test.YtbolneejjjjaeaaPatchRow
import Derived.StillTailTactics
namespace Go.Proofs.Ytbolneejjjjaeaa.CPatch
open Go Go.ChangeShapes Go.WideShapes Go.ChangeAt Go.RowKit
open Plain CSat CShape CTensor CConv
set_option linter.unusedVariables false

/-- the sums behind t numbers: each goes to one place, or to none. -/
def accF (hit : Nat → Option Nat) (D : Nat → Int) : Nat → Nat → Int
  | 0, _ => 0
  | t + 1, p => if hit t = some p then IntKind.i32.wrap (accF hit D t p + D t) else accF hit D t p
theorem acc_set {hit : Nat → Option Nat} {D : Nat → Int} {t p E : Nat} (h : hit t = some p) (x : Int) (hx : IntKind.i32.wrap (accF hit D t p + D t) = x) : (listF (accF hit D t) E).set p x = listF (accF hit D (t + 1)) E := by
  apply List.ext_getElem?
  intro i
  rw [List.getElem?_set]
  by_cases hi : i < E
  · by_cases e : p = i
    · subst e
      rw [if_pos rfl, if_pos (by rw [listF_len]; exact hi), listF_at _ hi]
      show some x = some (if hit t = some p then _ else _)
      rw [if_pos h, hx]
    · rw [if_neg e, listF_at _ hi, listF_at _ hi]
      show some _ = some (if hit t = some i then _ else _)
      rw [if_neg (by rw [h]; intro q; cases q; exact e rfl)]
  · have e1 : (listF (accF hit D (t + 1)) E)[i]? = none := List.getElem?_eq_none (by rw [listF_len]; omega)
    have e2 : (listF (accF hit D t) E)[i]? = none := List.getElem?_eq_none (by rw [listF_len]; omega)
    rw [e1, e2]
    by_cases e : p = i
    · rw [if_pos e, if_neg (by rw [listF_len]; omega)]
    · rw [if_neg e]
theorem acc_skips {hit : Nat → Option Nat} {D : Nat → Int} {s : Nat} (p : Nat) : ∀ d, (∀ c, c < d → hit (s + c) = none) → accF hit D (s + d) p = accF hit D s p
  | 0, _ => rfl
  | d + 1, h => by
    show (if hit (s + d) = some p then _ else accF hit D (s + d) p) = _
    rw [if_neg (by rw [h d (by omega)]; simp), acc_skips p d (fun c hc => h c (by omega))]
theorem I32v_set (ys : List Int) (i : Nat) (x : Int) : (I32v ys).set i (.int .i32 x) = I32v (ys.set i x) := by simp [I32v, List.map_set]
/-- how it stands behind k places. -/
def BackAt (ps pu pr gd B0 : Nat) (H W C M Wd : Int) (AD : Option Addr) (N cD E : Nat) (xs : List Int) (hit : Nat → Option Nat) (d k : Nat) (v : World) : Prop :=
  ShapeAt ps H W C v ∧ v.cell? ⟨pu, 0, none⟩ = some (.slice (some ⟨gd, 0, none⟩) E E) ∧ RBox pr M Wd (.slice AD N cD) v ∧ v.ownsRow B0 21 1 (.slice (some ⟨gd, 0, none⟩) E E) E (I32v (listF (accF hit (fun t => xs.getD t 0) (k * d)) E)) ∧ Kit.Rd v B0 AD (I16v xs) ∧ B0 ≤ v.heap.size
theorem BackAt.stay {ps pu pr gd B0 : Nat} {H W C M Wd : Int} {AD : Option Addr} {N cD E : Nat} {xs : List Int} {hit : Nat → Option Nat} {d k : Nat} {v v' : World} (h : BackAt ps pu pr gd B0 H W C M Wd AD N cD E xs hit d k v) (hb : Below v.heap.size v v') : BackAt ps pu pr gd B0 H W C M Wd AD N cD E xs hit d k v' := by
  obtain ⟨h1, h2, h3, h4, h5, h6⟩ := h
  exact ⟨h1.below (Kit.block_lt h1.1) hb, (hb.cell (p := ⟨pu, 0, none⟩) (Kit.block_lt h2)).trans h2, h3.below (Kit.block_lt h3.1) hb, Kit.own_below h4 hb, h5.below (hb.mono h6), Nat.le_trans h6 hb.size⟩
theorem ShapeAt_far {B gd : Nat} {H W C : Int} {w w' : World} (h : ShapeAt B H W C w) (hg : w.grownBy w' (some gd)) (hne : gd ≠ B) : ShapeAt B H W C w' := by
  have hB : B < w.heap.size := Kit.block_lt h.1
  exact ⟨(hg.cell_far ⟨B, 0, none⟩ hB (by simp; omega)).trans h.1, (hg.cell_far ⟨B, 1, none⟩ hB (by simp; omega)).trans h.2.1, (hg.cell_far ⟨B, 2, none⟩ hB (by simp; omega)).trans h.2.2⟩
theorem RBox_far {B gd : Nat} {M Wd : Int} {v : Value} {w w' : World} (h : RBox B M Wd v w) (hg : w.grownBy w' (some gd)) (hne : gd ≠ B) : RBox B M Wd v w' := by
  have hB : B < w.heap.size := Kit.block_lt h.1
  exact ⟨(hg.cell_far ⟨B, 0, none⟩ hB (by simp; omega)).trans h.1, (hg.cell_far ⟨B, 1, none⟩ hB (by simp; omega)).trans h.2.1, (hg.cell_far ⟨B, 2, none⟩ hB (by simp; omega)).trans h.2.2⟩

set_option maxRecDepth 100000 in
set_option maxHeartbeats 4000000 in
theorem visit_back (ps pu pr gd B0 : Nat) (n1 : gd ≠ ps) (n2 : gd ≠ pu) (n3 : gd ≠ pr) (hgB : B0 ≤ gd) (H W C M Wd : Int) (AD : Option Addr) (N cD E : Nat) (xs : List Int) (hit : Nat → Option Nat) (d k at_ pos : Nat) (hd : C = (d : Int)) (hx : xs.length = N) (hxb : ∀ q, -32768 ≤ xs.getD q 0 ∧ xs.getD q 0 ≤ 32767)
    (hat : k * d = at_) (hN : at_ + d ≤ N) (hN1 : N ≤ 30000000) (hpos : pos + d ≤ E) (hE : E ≤ 1048576) (hh : ∀ q, q < d → hit (at_ + q) = some (pos + q)) (v : World) (hI : BackAt ps pu pr gd B0 H W C M Wd AD N cD E xs hit d k v) :
    Calls Try.prog 19 #[.int .i64 (at_ : Int), .int .i64 (pos : Int), .pointer (some ⟨ps, 0, none⟩), .pointer (some ⟨pu, 0, none⟩), .pointer (some ⟨pr, 0, none⟩)] v fun e v' => (∃ u, e = .returned u) ∧ BackAt ps pu pr gd B0 H W C M Wd AD N cD E xs hit d (k + 1) v' ∧ v.grownBy v' (some gd) := by
  obtain ⟨h1, h2, h3, h4, h5, h6⟩ := hI
  obtain ⟨D, hD⟩ : ∃ D : Nat → Int, D = fun t => xs.getD t 0 := ⟨_, rfl⟩
  rw [hat, ← hD] at h4
  have T1 := Lib.hid h1
  have T2 := Lib.hid h2
  have T3 := Lib.hid h3
  have HO := Lib.hid h4
  have HR := Lib.hid h5
  have HG : Hid (v.grownBy v (some gd)) := Lib.hid (World.grownBy.refl v _)
  have HAT := Lib.hid hat
  have HH := Lib.hid hh
  have HX := Lib.hid hx
  have HXB := Lib.hid hxb
  have HDD := Lib.hid hD
  have hz6 := h6
  subst hd
  obtain ⟨s1, s2, s3⟩ := T1.out
  clear h1 h2 h3 h4 h5 h6 hat hh hx hxb hD
  go_enter Try.func19, Try.ntmps19
  go_wp2_with fail
  clear s1 s2 s3
  go_loopw [10] (fun u wr => ∃ q : Nat, q ≤ d ∧ u = .int .i64 q ∧ Hid (ShapeAt ps H W (d : Int) wr) ∧ Hid (wr.cell? ⟨pu, 0, none⟩ = some (.slice (some ⟨gd, 0, none⟩) E E)) ∧ Hid (RBox pr M Wd (.slice AD N cD) wr) ∧ Hid (wr.ownsRow B0 21 1 (.slice (some ⟨gd, 0, none⟩) E E) E (I32v (listF (accF hit D (at_ + q)) E))) ∧ Hid (Kit.Rd wr B0 AD (I16v xs)) ∧ Hid (v.grownBy wr (some gd)) ∧ B0 ≤ wr.heap.size) (fun u _ => d - (intOf u).toNat)
  case atStart => exact ⟨0, Nat.zero_le _, rfl, T1, T2, T3, HO, HR, HG, hz6⟩
  case round =>
    clear T1 T2 T3 HO HR HG hz6
    obtain ⟨q, hq, rfl, T1, T2, T3, HO, HR, HG, hz6⟩ := hrel
    by_cases hlt : q < d
    · have hqI : (q : Int) < (d : Int) := by omega
      obtain ⟨a1, ha1⟩ : ∃ a1, at_ + q = a1 := ⟨_, rfl⟩
      obtain ⟨p1, hp1⟩ : ∃ p1, pos + q = p1 := ⟨_, rfl⟩
      have f1 : IntKind.i64.wrap ((at_ : Int) + (q : Int)) = (a1 : Int) := by rw [IntWalk.i64_in _ (by omega)]; omega
      have f2 : IntKind.i64.wrap ((pos : Int) + (q : Int)) = (p1 : Int) := by rw [IntWalk.i64_in _ (by omega)]; omega
      have s1 : (0 : Int) ≤ (a1 : Int) := by omega
      have s2 : (a1 : Int) < (N : Int) := by omega
      have s3 : (0 : Int) ≤ (p1 : Int) := by omega
      have s4 : (p1 : Int) < (E : Int) := by omega
      obtain ⟨bx, ox, rfl, hbx, hcz⟩ := ints_getD HR.out (j := a1) (by have := HX.out; omega)
      have hcx := hcz a1 (by have := HX.out; omega)
      obtain ⟨x1, x2⟩ := HXB.out a1
      have hda : D a1 = xs.getD a1 0 := by rw [HDD.out]
      have hhq := HH.out q hlt
      rw [ha1, hp1] at hhq
      rw [ha1] at HO
      obtain ⟨old, ho⟩ : ∃ o, accF hit D a1 p1 = o := ⟨_, rfl⟩
      obtain ⟨y, hy⟩ : ∃ y, xs.getD a1 0 = y := ⟨_, rfl⟩
      rw [hy] at hcx x1 x2 hda
      obtain ⟨z, hz⟩ : ∃ z, IntKind.i32.wrap (old + y) = z := ⟨_, rfl⟩
      have hset := acc_set (E := E) hhq z (by rw [ho, hda]; exact hz)
      have hco : wr.cell? ⟨gd, p1, none⟩ = some (.int .i32 old) := (HO.out.cellAt p1 (by omega)).trans (by
        unfold I32v
        rw [List.getElem?_map, listF_at _ (show p1 < E by omega), ho]; rfl)
      have hfr : wr.frozen? ⟨gd, p1, none⟩ = false := HO.out.frozenAt p1
      have hst := HO.out.stored p1 (.int .i32 z)
      rw [I32v_set, hset] at hst
      have k1 : IntKind.i32.wrap y = y := IntWalk.i32_in _ (by omega)
      have hgr : wr.grownBy (wr.drew.setCell ⟨gd, p1, none⟩ (.int .i32 z)) (some gd) := (Kit.grown_of_below (Below.refl _ _).drew (some gd)).trans (grown_set _ _ _ _)
      have HO4 := Lib.hid ((Kit.own_below HO.out (Below.refl wr.heap.size wr).drew).stored p1 (.int .i32 z)).1
      rw [I32v_set, hset, show a1 + 1 = at_ + (q + 1) by omega] at HO4
      have T1' := Lib.hid (ShapeAt_far T1.out hgr n1)
      have T2' := Lib.hid ((hgr.cell_far ⟨pu, 0, none⟩ (Kit.block_lt T2.out) (by simp; omega)).trans T2.out)
      have T3' := Lib.hid (RBox_far T3.out hgr n3)
      have HR' := Lib.hid (Rd_grown HR.out hgr hz6 hgB)
      have HG' := Lib.hid (HG.out.trans hgr)
      have hz7 := Nat.le_trans hz6 hgr.size
      obtain ⟨tr0, tr1, tr2⟩ := T3.out
      have c1 : wr.drew.cell? ⟨pu, 0, none⟩ = some (.slice (some ⟨gd, 0, none⟩) E E) := T2.out
      have c2 : wr.drew.cell? ⟨gd, p1, none⟩ = some (.int .i32 old) := hco
      have c3 : wr.drew.cell? ⟨pr, 2, none⟩ = some (.slice (some ⟨bx, ox, none⟩) N cD) := tr2
      have c4 : wr.drew.cell? ⟨bx, ox + a1, none⟩ = some (.int .i16 y) := hcx
      have c5 : wr.drew.frozen? ⟨gd, p1, none⟩ = false := hfr
      clear hcz hcx hda hhq ho hy hset hco hfr hst hgr tr0 tr1 tr2 T1 T2 T3 HO HR HG ha1 hp1
      go_wp2_with fail
      refine wp_region_still_tail 15 (by kernel_rfl) (by kernel_rfl) ?_
      rw [show ({ wr with drawn := wr.drawn + 1 } : World) = wr.drew from rfl]
      generalize wr.drew = Wd' at c1 c2 c3 c4 c5 HO4 T1' T2' T3' HR' HG' hz7 ⊢
      simp only [List.take_succ_cons, List.take_zero, List.drop_succ_cons, List.drop_zero]
      repeat still_step
      refine wpStill_nil ?_
      go_wp2_with fail
      go_roundw
      case rel => exact ⟨q + 1, by omega, by go_num, T1', T2', T3', HO4, HR', HG', hz7⟩
      case measure => simp [intOf]; omega
    · obtain rfl : q = d := by omega
      go_wp2_with fail
      go_end0
      exact ⟨⟨_, rfl⟩, ⟨T1.out, T2.out, T3.out, by rw [Nat.add_mul, Nat.one_mul, HAT.out, ← HDD.out]; exact HO.out, HR.out, hz6⟩, HG.out⟩
end Go.Proofs.Ytbolneejjjjaeaa.CPatch
