/- Layer 16 (lane): numbers whose columns are turned over; their sums. -/
import Derived.Test.YtceejjliboiciaaLaneBoth
import Derived.BigQuiet
namespace Go.Proofs.Ytceejjliboiciaa.CLane
open Go Go.ChangeShapes Go.WideShapes Go.ChangeAt Go.RowKit
open Plain CSat CShape CTensor CConv
set_option linter.unusedVariables false

/-- the place of a number when columns are turned over. -/
def turnN (w c q : Nat) : Nat := (q / c / w * w + (w - 1 - q / c % w)) * c + q % c
theorem turn_parts {w c q : Nat} (hw : 0 < w) (hc : 0 < c) : turnN w c q / c / w = q / c / w ∧ turnN w c q / c % w = w - 1 - q / c % w ∧ turnN w c q % c = q % c := by
  have h1 : q % c < c := Nat.mod_lt _ hc
  have h2 : w - 1 - q / c % w < w := by omega
  unfold turnN
  generalize q / c / w = r
  generalize w - 1 - q / c % w = x at h2 ⊢
  generalize q % c = k at h1 ⊢
  have e1 : ((r * w + x) * c + k) / c = r * w + x := by rw [Nat.mul_comm, Nat.mul_add_div hc, Nat.div_eq_of_lt h1]; rfl
  have e2 : ((r * w + x) * c + k) % c = k := by rw [Nat.mul_comm, Nat.mul_add_mod, Nat.mod_eq_of_lt h1]
  have e3 : (r * w + x) / w = r := by rw [Nat.mul_comm, Nat.mul_add_div hw, Nat.div_eq_of_lt h2]; rfl
  have e4 : (r * w + x) % w = x := by rw [Nat.mul_comm, Nat.mul_add_mod, Nat.mod_eq_of_lt h2]
  rw [e1, e2, e3, e4]
  exact ⟨rfl, rfl, rfl⟩
theorem turn_self {w c q : Nat} (hw : 0 < w) (hc : 0 < c) : (q / c / w * w + q / c % w) * c + q % c = q := by
  rw [Nat.mul_comm (q / c / w), Nat.div_add_mod, Nat.mul_comm, Nat.div_add_mod]
theorem turn_turn {w c q : Nat} (hw : 0 < w) (hc : 0 < c) : turnN w c (turnN w c q) = q := by
  obtain ⟨h1, h2, h3⟩ := turn_parts (q := q) hw hc
  have h4 : q / c % w < w := Nat.mod_lt _ hw
  rw [show turnN w c (turnN w c q) = (turnN w c q / c / w * w + (w - 1 - turnN w c q / c % w)) * c + turnN w c q % c from rfl, h1, h2, h3]
  rw [show w - 1 - (w - 1 - q / c % w) = q / c % w by omega]
  exact turn_self hw hc
theorem turn_lt {w c R n q : Nat} (hw : 0 < w) (hc : 0 < c) (hn : R * w * c = n) (hq : q < n) : turnN w c q < n := by
  have h1 : q / c < R * w := Nat.div_lt_of_lt_mul (by rw [Nat.mul_comm, hn]; exact hq)
  have h2 : q / c / w < R := Nat.div_lt_of_lt_mul (by rw [Nat.mul_comm]; exact h1)
  have h3 : w - 1 - q / c % w < w := by omega
  have h4 : q % c < c := Nat.mod_lt _ hc
  unfold turnN
  rw [← hn]
  exact at_lt h2 h3 h4
theorem turn_at {w c r x k : Nat} (hx : x < w) (hk : k < c) : turnN w c ((r * w + x) * c + k) = (r * w + (w - 1 - x)) * c + k := by
  have hc : 0 < c := by omega
  have hw : 0 < w := by omega
  have e1 : ((r * w + x) * c + k) / c = r * w + x := by rw [Nat.mul_comm, Nat.mul_add_div hc, Nat.div_eq_of_lt hk]; rfl
  have e2 : ((r * w + x) * c + k) % c = k := by rw [Nat.mul_comm, Nat.mul_add_mod, Nat.mod_eq_of_lt hk]
  have e3 : (r * w + x) / w = r := by rw [Nat.mul_comm, Nat.mul_add_div hw, Nat.div_eq_of_lt hx]; rfl
  have e4 : (r * w + x) % w = x := by rw [Nat.mul_comm, Nat.mul_add_mod, Nat.mod_eq_of_lt hx]
  unfold turnN
  rw [e1, e2, e3, e4]
def overF (zs : List Int) (w c q : Nat) : Int := zs.getD (turnN w c q) 0
def madeO (zs : List Int) (w c i q : Nat) : Int := if turnN w c q < i then zs.getD (turnN w c q) 0 else zs.getD q 0
theorem over_getD (zs : List Int) (w c : Nat) {n q : Nat} (h : q < n) : (rowL (overF zs w c) n).getD q 0 = zs.getD (turnN w c q) 0 := by
  rw [List.getD_eq_getElem?_getD]; simp [rowL, h, overF]
theorem over_I8b {zs : List Int} (h : I8b zs) (w c n : Nat) : I8b (rowL (overF zs w c) n) := fun q => by
  by_cases hq : q < n
  · rw [over_getD zs w c hq]; exact h _
  · rw [List.getD_eq_getElem?_getD, List.getElem?_eq_none (by rw [rowL_len]; omega)]; simp
theorem madeO_zero (zs : List Int) (w c : Nat) {n : Nat} (hn : zs.length = n) : rowL (madeO zs w c 0) n = zs := by
  refine List.ext_getElem (by rw [rowL_len, hn]) fun i h1 h2 => ?_
  simp [rowL, madeO, List.getD_eq_getElem?_getD, List.getElem?_eq_getElem h2]
theorem madeO_all (zs : List Int) {w c R n : Nat} (hw : 0 < w) (hc : 0 < c) (hn : R * w * c = n) : rowL (madeO zs w c n) n = rowL (overF zs w c) n := by
  refine List.ext_getElem (by simp [rowL]) fun i h1 h2 => ?_
  have hi : i < n := by simpa [rowL] using h1
  simp [rowL, madeO, overF, turn_lt hw hc hn hi]
theorem madeO_set (zs : List Int) {w c R n i : Nat} (hw : 0 < w) (hc : 0 < c) (hn : R * w * c = n) (hi : i < n) (v : Int) (hv : zs.getD i 0 = v) :
    (I8s (rowL (madeO zs w c i) n)).set (turnN w c i) (.int .i8 v) = I8s (rowL (madeO zs w c (i + 1)) n) := by
  refine List.ext_getElem (by simp [I8s, rowL]) fun q h1 h2 => ?_
  rw [List.getElem_set]
  by_cases e : turnN w c i = q
  · subst e
    rw [if_pos rfl]
    simp only [I8s, rowL, List.map_map, List.getElem_map, List.getElem_range, Function.comp, madeO]
    rw [turn_turn hw hc, if_pos (by omega), hv]
  · rw [if_neg e]
    simp only [I8s, rowL, List.map_map, List.getElem_map, List.getElem_range, Function.comp, madeO]
    have hne : turnN w c q ≠ i := fun h => e (by rw [← h, turn_turn hw hc])
    by_cases h : turnN w c q < i
    · rw [if_pos h, if_pos (by omega)]
    · rw [if_neg h, if_neg (by omega)]
theorem info_i8o : (Try.prog.info? 27).map (fun i => (i.zero, i.size, i.bytes)) = some (some (.int .i8 0), 1, 1) := by kernel_rfl
/-- a call that hands back a list of its own. -/
def OwnedL (w : World) (T n : Nat) (xs : List Value) (e : Ending) (w' : World) : Prop :=
  ∃ v, e = .returned v ∧ w'.ownsRow w.heap.size T 1 v n xs ∧ Below w.heap.size w w'
set_option maxRecDepth 100000 in
set_option maxHeartbeats 4000000 in
theorem over_to (A : Option Addr) (zs : List Int) (n cA : Nat) (wd c R : Nat) (W C : Int) (hW : W = (wd : Int)) (hC : C = (c : Int)) (hn : zs.length = n) (hn0 : 0 < n) (hn2 : n ≤ 100000) (hR : R * wd * c = n) (w : World) (hr : Kit.Rd w w.heap.size A (I8s zs)) :
    Calls Try.prog 9 #[.slice A n cA, .int .i64 W, .int .i64 C] w (OwnedL w 27 n (I8s (rowL (overF zs wd c) n))) := by
  have hc : 0 < c := by
    rcases Nat.eq_zero_or_pos c with h | h
    · subst h; rw [Nat.mul_zero] at hR; omega
    · exact h
  have hw : 0 < wd := by
    rcases Nat.eq_zero_or_pos wd with h | h
    · subst h; rw [Nat.mul_zero, Nat.zero_mul] at hR; omega
    · exact h
  have hcn : c ≤ n := by
    rw [← hR]
    refine Nat.le_mul_of_pos_left _ ?_
    rcases Nat.eq_zero_or_pos (R * wd) with h | h
    · rw [h, Nat.zero_mul] at hR; omega
    · exact h
  have hwn : wd ≤ n := by
    have hR0 : 0 < R := by
      rcases Nat.eq_zero_or_pos R with h | h
      · subst h; rw [Nat.zero_mul, Nat.zero_mul] at hR; omega
      · exact h
    rw [← hR, Nat.mul_assoc]
    exact Nat.le_trans (Nat.le_mul_of_pos_right wd hc) (Nat.le_mul_of_pos_left _ hR0)
  obtain ⟨ba, oa, rfl, hba, hca⟩ := ints_getD hr (j := 0) (by omega)
  have HR := Lib.hid hr
  have HCA := Lib.hid hca
  have HN := Lib.hid hn
  have HRR := Lib.hid hR
  have hc9 : ¬ c = 0 := by omega
  have hw9 : ¬ wd = 0 := by omega
  obtain ⟨i0, hi0, hi1, hi2, hi3⟩ := info_parts32 info_i8o
  subst hW hC
  clear hca hr hR
  go_enter Try.func9, Try.ntmps9
  go_wp2_with (at_builtin; refine Kit.wpList_append_rd _ rfl (.tmp 11) (.tmp 12) _ rfl w.heap.size 27 i0 (.int .i8 0) 1 1 Try.underlying24 hi0 hi1 hi2 hi3 rfl (by decide) (.slice (some ⟨_, 0, none⟩) 0 0) 0 [] rfl (World.ownsRow_lit _ #[] 0 (Nat.le_refl _) (Nat.zero_le _) rfl) _ _ n _ (I8s zs) rfl (by simp [I8s, HN.out]) (HR.out.alloc (Nat.le_refl _) _) (Kit.ints_one .i8 zs) (by unfold maxLen; omega) (by omega) (by simp) ?_; intro v1 w1 hown1 hg1 hat1; replace hown1 : w1.ownsRow w.heap.size 27 1 v1 n (I8s zs) := (by simpa using hown1); have HO0 := Lib.hid hown1; have HB0 := Lib.hid (((Below.refl _ w).alloc (Nat.le_refl _) (.cells #[] 27)).grown hg1 (by simp) (fun q hq => by simp [Value.ownBlock] at hq; omega)); clear hown1 hg1 hat1)
  obtain ⟨g, c1, rfl, hgb, -, -, -⟩ := Kit.own_form HO0.out (by omega)
  have hown := HO0.out
  rw [← madeO_zero zs wd c HN.out] at hown
  have HOWN := Lib.hid hown
  clear hown HO0
  go_loopw [8] (fun u wr => ∃ i : Nat, i ≤ n ∧ u = .int .i64 i ∧ Hid (wr.ownsRow w.heap.size 27 1 (.slice (some ⟨g, 0, none⟩) n c1) n (I8s (rowL (madeO zs wd c i) n))) ∧ Hid (Below w.heap.size w wr)) (fun u _ => n - (intOf u).toNat)
  case atStart => exact ⟨0, Nat.zero_le _, rfl, HOWN, HB0⟩
  case round =>
    obtain ⟨i, hi, rfl, HO, HB⟩ := hrel
    clear HOWN HB0
    by_cases hlt : i < n
    · obtain ⟨p1, hp1⟩ : ∃ p1, i / c = p1 := ⟨_, rfl⟩
      obtain ⟨r, hr⟩ : ∃ r, p1 / wd = r := ⟨_, rfl⟩
      obtain ⟨x, hx⟩ : ∃ x, p1 % wd = x := ⟨_, rfl⟩
      obtain ⟨k, hk⟩ : ∃ k, i % c = k := ⟨_, rfl⟩
      have hxw : x < wd := by rw [← hx]; exact Nat.mod_lt _ hw
      have hkc : k < c := by rw [← hk]; exact Nat.mod_lt _ hc
      have hpos : turnN wd c i < n := turn_lt hw hc HRR.out hlt
      have hposE : turnN wd c i = (r * wd + (wd - 1 - x)) * c + k := by unfold turnN; rw [hp1, hr, hx, hk]
      obtain ⟨v, hv⟩ : ∃ v, zs.getD i 0 = v := ⟨_, rfl⟩
      have hset := madeO_set zs hw hc HRR.out hlt v hv
      rw [hposE] at hpos hset
      have hrow : r * wd ≤ n := by
        have : r * wd ≤ (r * wd + (wd - 1 - x)) * c := Nat.le_trans (Nat.le_add_right _ _) (Nat.le_mul_of_pos_right _ hc)
        omega
      have hr1 : r * wd + (wd - 1 - x) ≤ n := by
        have : r * wd + (wd - 1 - x) ≤ (r * wd + (wd - 1 - x)) * c := Nat.le_mul_of_pos_right _ hc
        omega
      have hrn : r ≤ n := Nat.le_trans (Nat.le_mul_of_pos_right _ hw) hrow
      have hp1n : p1 ≤ n := by rw [← hp1]; exact Nat.le_trans (Nat.div_le_self _ _) (by omega)
      have d1 : (i : Int).tdiv (c : Int) = (p1 : Int) := by rw [Int.tdiv_eq_ediv_of_nonneg (by omega), ← hp1]; simp
      have d2 : (p1 : Int).tdiv (wd : Int) = (r : Int) := by rw [Int.tdiv_eq_ediv_of_nonneg (by omega), ← hr]; simp
      have d3 : (p1 : Int).tmod (wd : Int) = (x : Int) := by rw [Int.tmod_eq_emod_of_nonneg (by omega), ← hx]; simp
      have d4 : (i : Int).tmod (c : Int) = (k : Int) := by rw [Int.tmod_eq_emod_of_nonneg (by omega), ← hk]; simp
      have d5 : (p1 : Int) % (wd : Int) = (x : Int) := by rw [← hx]; simp
      have d6 : (i : Int) % (c : Int) = (k : Int) := by rw [← hk]; simp
      have u1 : IntKind.i64.wrap (p1 : Int) = (p1 : Int) := IntWalk.i64_in _ (by omega)
      have u2 : IntKind.i64.wrap (r : Int) = (r : Int) := IntWalk.i64_in _ (by omega)
      have u3 : IntKind.i64.wrap (x : Int) = (x : Int) := IntWalk.i64_in _ (by omega)
      have u4 : IntKind.i64.wrap (k : Int) = (k : Int) := IntWalk.i64_in _ (by omega)
      obtain ⟨rw0, hrw⟩ : ∃ rw0, r * wd = rw0 := ⟨_, rfl⟩
      rw [hrw] at hpos hset hrow hr1
      obtain ⟨y, hy⟩ : ∃ y, rw0 + (wd - 1 - x) = y := ⟨_, rfl⟩
      rw [hy] at hpos hset hr1
      obtain ⟨yc, hyc⟩ : ∃ yc, y * c = yc := ⟨_, rfl⟩
      rw [hyc] at hpos hset
      obtain ⟨p, hp⟩ : ∃ p, yc + k = p := ⟨_, rfl⟩
      rw [hp] at hpos hset
      have f1 : IntKind.i64.wrap ((r : Int) * (wd : Int)) = (rw0 : Int) := by rw [← Int.natCast_mul, hrw]; exact IntWalk.i64_in _ (by omega)
      have f2 : IntKind.i64.wrap ((rw0 : Int) + (wd : Int)) = (rw0 : Int) + (wd : Int) := IntWalk.i64_in _ (by omega)
      have f3 : IntKind.i64.wrap ((rw0 : Int) + (wd : Int) - 1) = (rw0 : Int) + (wd : Int) - 1 := IntWalk.i64_in _ (by omega)
      have f4 : IntKind.i64.wrap ((rw0 : Int) + (wd : Int) - 1 - (x : Int)) = (y : Int) := by rw [IntWalk.i64_in _ (by omega)]; omega
      have f5 : IntKind.i64.wrap ((y : Int) * (c : Int)) = (yc : Int) := by rw [← Int.natCast_mul, hyc]; exact IntWalk.i64_in _ (by omega)
      have f6 : IntKind.i64.wrap ((yc : Int) + (k : Int)) = (p : Int) := by rw [← Int.natCast_add, hp]; exact IntWalk.i64_in _ (by omega)
      have kb : wr.cell? ⟨ba, oa + i, none⟩ = some (.int .i8 v) := by rw [← hv]; exact (HB.out.cell (p := ⟨ba, oa + i, none⟩) hba).trans (HCA.out i (by have := HN.out; omega))
      have hgne : g ≠ ba := by omega
      have hgne2 : ba ≠ g := by omega
      have h0 : (0 : Int) ≤ (i : Int) := by omega
      have h1 : (i : Int) < (n : Int) := by omega
      have p0 : (0 : Int) ≤ (p : Int) := by omega
      have p1' : (p : Int) < (n : Int) := by omega
      have HSET := Lib.hid hset
      clear hset hv hp hyc hy hrw hp1 hr hx hk hposE hrow hr1 hrn hp1n hxw hkc
      go_wp2_with fail
      go_quiet (fail)
      clear d1 d2 d3 d5 u1 u2 u3
      have hbq : Below wr.heap.size wr (wr.drewN nq) := Kit.below_drewN (Below.refl _ _) nq
      replace HO := Lib.hid (Kit.own_below HO.out hbq)
      replace HB := Lib.hid (Kit.below_drewN HB.out nq)
      replace kb : (wr.drewN nq).cell? ⟨ba, oa + i, none⟩ = some (.int .i8 v) := kb
      clear hbq
      generalize wr.drewN nq = Wq at HO HB kb ⊢
      go_wp2_with fail
      refine wp_region_held_drew (S := fun w' => w'.cell? ⟨ba, oa + i, none⟩ = some (.int .i8 v)) (by kernel_rfl) kb (fun hHeld => ?_)
      replace HO := Lib.hid (Kit.own_below HO.out (Below.refl Wq.heap.size Wq).drew)
      replace HB := Lib.hid HB.out.drew
      clear kb
      generalize Wq.drew = Wz at HO HB hHeld ⊢
      refine wpAnyH_take (i := 0) (oi := ({ dst := some 30, op := Op.move (Operand.tmp 7), type := 24, pos := "law.go:63", after := #[], guard := none } : Oper)) (v := ?_) rfl (by kernel_rfl) (by kernel_rfl) (by kernel_rfl) (fun _ _ _ h => h) (Or.inl ⟨by rfl, ?_⟩) (by assumption) ?_
      rotate_left
      · intro wS hSw
        first
          | (go_simp; done)
          | (go_simp; with_reducible rfl)
      try simp only [Act.put, List.setIfInBounds_toArray, List.set_cons_zero, List.set_cons_succ]
      refine wpAnyH_take (i := 1) (oi := ({ dst := some 31, op := Op.move (Operand.tmp 9), type := 3, pos := "law.go:63", after := #[], guard := none } : Oper)) (v := ?_) rfl (by kernel_rfl) (by kernel_rfl) (by kernel_rfl) (fun _ _ _ h => h) (Or.inl ⟨by rfl, ?_⟩) (by assumption) ?_
      rotate_left
      · intro wS hSw
        first
          | (go_simp; done)
          | (go_simp; with_reducible rfl)
      try simp only [Act.put, List.setIfInBounds_toArray, List.set_cons_zero, List.set_cons_succ]
      refine wpAnyH_take (i := 2) (oi := ({ dst := some 32, op := Op.move (Operand.tmp 1), type := 3, pos := "law.go:63", after := #[], guard := none } : Oper)) (v := ?_) rfl (by kernel_rfl) (by kernel_rfl) (by kernel_rfl) (fun _ _ _ h => h) (Or.inl ⟨by rfl, ?_⟩) (by assumption) ?_
      rotate_left
      · intro wS hSw
        first
          | (go_simp; done)
          | (go_simp; with_reducible rfl)
      try simp only [Act.put, List.setIfInBounds_toArray, List.set_cons_zero, List.set_cons_succ]
      refine wpAnyH_take (i := 3) (oi := ({ dst := some 33, op := Op.binOp BinOp.mul 3 (Operand.tmp 31) (Operand.tmp 32) 3, type := 3, pos := "law.go:63", after := #[{ on := 1, ground := Ground.data }, { on := 2, ground := Ground.data }], guard := none } : Oper)) (v := ?_) rfl (by kernel_rfl) (by kernel_rfl) (by kernel_rfl) (fun _ _ _ h => h) (Or.inl ⟨by rfl, ?_⟩) (by assumption) ?_
      rotate_left
      · intro wS hSw
        first
          | (go_simp; done)
          | (go_simp; with_reducible rfl)
      try simp only [Act.put, List.setIfInBounds_toArray, List.set_cons_zero, List.set_cons_succ]
      refine wpAnyH_take (i := 4) (oi := ({ dst := some 34, op := Op.move (Operand.tmp 1), type := 3, pos := "law.go:63", after := #[], guard := none } : Oper)) (v := ?_) rfl (by kernel_rfl) (by kernel_rfl) (by kernel_rfl) (fun _ _ _ h => h) (Or.inl ⟨by rfl, ?_⟩) (by assumption) ?_
      rotate_left
      · intro wS hSw
        first
          | (go_simp; done)
          | (go_simp; with_reducible rfl)
      try simp only [Act.put, List.setIfInBounds_toArray, List.set_cons_zero, List.set_cons_succ]
      refine wpAnyH_take (i := 5) (oi := ({ dst := some 35, op := Op.binOp BinOp.add 3 (Operand.tmp 33) (Operand.tmp 34) 3, type := 3, pos := "law.go:63", after := #[{ on := 3, ground := Ground.data }, { on := 4, ground := Ground.data }], guard := none } : Oper)) (v := ?_) rfl (by kernel_rfl) (by kernel_rfl) (by kernel_rfl) (fun _ _ _ h => h) (Or.inl ⟨by rfl, ?_⟩) (by assumption) ?_
      rotate_left
      · intro wS hSw
        first
          | (go_simp; done)
          | (go_simp; with_reducible rfl)
      try simp only [Act.put, List.setIfInBounds_toArray, List.set_cons_zero, List.set_cons_succ]
      refine wpAnyH_take (i := 6) (oi := ({ dst := some 36, op := Op.binOp BinOp.sub 3 (Operand.tmp 35) (Operand.const (Value.int IntKind.i64 1)) 3, type := 3, pos := "law.go:63", after := #[{ on := 5, ground := Ground.data }], guard := none } : Oper)) (v := ?_) rfl (by kernel_rfl) (by kernel_rfl) (by kernel_rfl) (fun _ _ _ h => h) (Or.inl ⟨by rfl, ?_⟩) (by assumption) ?_
      rotate_left
      · intro wS hSw
        first
          | (go_simp; done)
          | (go_simp; with_reducible rfl)
      try simp only [Act.put, List.setIfInBounds_toArray, List.set_cons_zero, List.set_cons_succ]
      refine wpAnyH_take (i := 7) (oi := ({ dst := some 37, op := Op.move (Operand.tmp 10), type := 3, pos := "law.go:63", after := #[], guard := none } : Oper)) (v := ?_) rfl (by kernel_rfl) (by kernel_rfl) (by kernel_rfl) (fun _ _ _ h => h) (Or.inl ⟨by rfl, ?_⟩) (by assumption) ?_
      rotate_left
      · intro wS hSw
        first
          | (go_simp; done)
          | (go_simp; with_reducible rfl)
      try simp only [Act.put, List.setIfInBounds_toArray, List.set_cons_zero, List.set_cons_succ]
      refine wpAnyH_take (i := 8) (oi := ({ dst := some 38, op := Op.binOp BinOp.sub 3 (Operand.tmp 36) (Operand.tmp 37) 3, type := 3, pos := "law.go:63", after := #[{ on := 6, ground := Ground.data }, { on := 7, ground := Ground.data }], guard := none } : Oper)) (v := ?_) rfl (by kernel_rfl) (by kernel_rfl) (by kernel_rfl) (fun _ _ _ h => h) (Or.inl ⟨by rfl, ?_⟩) (by assumption) ?_
      rotate_left
      · intro wS hSw
        first
          | (go_simp; done)
          | (go_simp; with_reducible rfl)
      try simp only [Act.put, List.setIfInBounds_toArray, List.set_cons_zero, List.set_cons_succ]
      refine wpAnyH_take (i := 9) (oi := ({ dst := some 39, op := Op.move (Operand.tmp 2), type := 3, pos := "law.go:63", after := #[], guard := none } : Oper)) (v := ?_) rfl (by kernel_rfl) (by kernel_rfl) (by kernel_rfl) (fun _ _ _ h => h) (Or.inl ⟨by rfl, ?_⟩) (by assumption) ?_
      rotate_left
      · intro wS hSw
        first
          | (go_simp; done)
          | (go_simp; with_reducible rfl)
      try simp only [Act.put, List.setIfInBounds_toArray, List.set_cons_zero, List.set_cons_succ]
      refine wpAnyH_take (i := 10) (oi := ({ dst := some 40, op := Op.binOp BinOp.mul 3 (Operand.tmp 38) (Operand.tmp 39) 3, type := 3, pos := "law.go:63", after := #[{ on := 8, ground := Ground.data }, { on := 9, ground := Ground.data }], guard := none } : Oper)) (v := ?_) rfl (by kernel_rfl) (by kernel_rfl) (by kernel_rfl) (fun _ _ _ h => h) (Or.inl ⟨by rfl, ?_⟩) (by assumption) ?_
      rotate_left
      · intro wS hSw
        first
          | (go_simp; done)
          | (go_simp; with_reducible rfl)
      try simp only [Act.put, List.setIfInBounds_toArray, List.set_cons_zero, List.set_cons_succ]
      refine wpAnyH_take (i := 11) (oi := ({ dst := some 41, op := Op.move (Operand.tmp 8), type := 3, pos := "law.go:63", after := #[], guard := none } : Oper)) (v := ?_) rfl (by kernel_rfl) (by kernel_rfl) (by kernel_rfl) (fun _ _ _ h => h) (Or.inl ⟨by rfl, ?_⟩) (by assumption) ?_
      rotate_left
      · intro wS hSw
        first
          | (go_simp; done)
          | (go_simp; with_reducible rfl)
      try simp only [Act.put, List.setIfInBounds_toArray, List.set_cons_zero, List.set_cons_succ]
      refine wpAnyH_take (i := 12) (oi := ({ dst := some 42, op := Op.move (Operand.tmp 2), type := 3, pos := "law.go:63", after := #[], guard := none } : Oper)) (v := ?_) rfl (by kernel_rfl) (by kernel_rfl) (by kernel_rfl) (fun _ _ _ h => h) (Or.inl ⟨by rfl, ?_⟩) (by assumption) ?_
      rotate_left
      · intro wS hSw
        first
          | (go_simp; done)
          | (go_simp; with_reducible rfl)
      try simp only [Act.put, List.setIfInBounds_toArray, List.set_cons_zero, List.set_cons_succ]
      refine wpAnyH_take (i := 13) (oi := ({ dst := some 43, op := Op.binOp BinOp.rem 3 (Operand.tmp 41) (Operand.tmp 42) 3, type := 3, pos := "law.go:63", after := #[{ on := 11, ground := Ground.data }, { on := 12, ground := Ground.data }], guard := none } : Oper)) (v := ?_) rfl (by kernel_rfl) (by kernel_rfl) (by kernel_rfl) (fun _ _ _ h => h) (Or.inl ⟨by rfl, ?_⟩) (by assumption) ?_
      rotate_left
      · intro wS hSw
        first
          | (go_simp; done)
          | (go_simp; with_reducible rfl)
      try simp only [Act.put, List.setIfInBounds_toArray, List.set_cons_zero, List.set_cons_succ]
      refine wpAnyH_take (i := 14) (oi := ({ dst := some 44, op := Op.binOp BinOp.add 3 (Operand.tmp 40) (Operand.tmp 43) 3, type := 3, pos := "law.go:63", after := #[{ on := 10, ground := Ground.data }, { on := 13, ground := Ground.data }], guard := none } : Oper)) (v := ?_) rfl (by kernel_rfl) (by kernel_rfl) (by kernel_rfl) (fun _ _ _ h => h) (Or.inl ⟨by rfl, ?_⟩) (by assumption) ?_
      rotate_left
      · intro wS hSw
        first
          | (go_simp; done)
          | (go_simp; with_reducible rfl)
      try simp only [Act.put, List.setIfInBounds_toArray, List.set_cons_zero, List.set_cons_succ]
      refine wpAnyH_take (i := 15) (oi := ({ dst := some 45, op := Op.move (Operand.tmp 0), type := 24, pos := "law.go:63", after := #[], guard := none } : Oper)) (v := ?_) rfl (by kernel_rfl) (by kernel_rfl) (by kernel_rfl) (fun _ _ _ h => h) (Or.inl ⟨by rfl, ?_⟩) (by assumption) ?_
      rotate_left
      · intro wS hSw
        first
          | (go_simp; done)
          | (go_simp; with_reducible rfl)
      try simp only [Act.put, List.setIfInBounds_toArray, List.set_cons_zero, List.set_cons_succ]
      refine wpAnyH_take (i := 16) (oi := ({ dst := some 46, op := Op.move (Operand.tmp 8), type := 3, pos := "law.go:63", after := #[], guard := none } : Oper)) (v := ?_) rfl (by kernel_rfl) (by kernel_rfl) (by kernel_rfl) (fun _ _ _ h => h) (Or.inl ⟨by rfl, ?_⟩) (by assumption) ?_
      rotate_left
      · intro wS hSw
        first
          | (go_simp; done)
          | (go_simp; with_reducible rfl)
      try simp only [Act.put, List.setIfInBounds_toArray, List.set_cons_zero, List.set_cons_succ]
      refine wpAnyH_take (i := 17) (oi := ({ dst := some 47, op := Op.indexAddr 24 (Operand.tmp 45) (Operand.tmp 46), type := 0, pos := "law.go:63", after := #[{ on := 15, ground := Ground.data }, { on := 16, ground := Ground.data }], guard := none } : Oper)) (v := ?_) rfl (by kernel_rfl) (by kernel_rfl) (by kernel_rfl) (fun _ _ _ h => h) (Or.inl ⟨by rfl, ?_⟩) (by assumption) ?_
      rotate_left
      · intro wS hSw
        first
          | (go_simp; done)
          | (go_simp; with_reducible rfl)
      try simp only [Act.put, List.setIfInBounds_toArray, List.set_cons_zero, List.set_cons_succ]
      refine wpAnyH_take (i := 18) (oi := ({ dst := some 48, op := Op.load 27 (Operand.tmp 47), type := 27, pos := "law.go:63", after := #[{ on := 17, ground := Ground.data }], guard := none } : Oper)) (v := ?_) rfl (by kernel_rfl) (by kernel_rfl) (by kernel_rfl) (fun _ _ _ h => h) (Or.inl ⟨by rfl, ?_⟩) (by assumption) ?_
      rotate_left
      · intro wS hSw
        first
          | (go_simp; done)
          | (go_simp; with_reducible rfl)
      try simp only [Act.put, List.setIfInBounds_toArray, List.set_cons_zero, List.set_cons_succ]
      refine wpAnyH_take (i := 19) (oi := ({ dst := some 49, op := Op.indexAddr 24 (Operand.tmp 30) (Operand.tmp 44), type := 0, pos := "law.go:63", after := #[{ on := 0, ground := Ground.data }, { on := 14, ground := Ground.data }, { on := 0, ground := Ground.phase }, { on := 1, ground := Ground.phase }, { on := 2, ground := Ground.phase }, { on := 3, ground := Ground.phase }, { on := 4, ground := Ground.phase }, { on := 5, ground := Ground.phase }, { on := 6, ground := Ground.phase }, { on := 7, ground := Ground.phase }, { on := 8, ground := Ground.phase }, { on := 9, ground := Ground.phase }, { on := 10, ground := Ground.phase }, { on := 11, ground := Ground.phase }, { on := 12, ground := Ground.phase }, { on := 13, ground := Ground.phase }, { on := 14, ground := Ground.phase }, { on := 15, ground := Ground.phase }, { on := 16, ground := Ground.phase }, { on := 17, ground := Ground.phase }, { on := 18, ground := Ground.phase }], guard := none } : Oper)) (v := ?_) rfl (by kernel_rfl) (by kernel_rfl) (by kernel_rfl) (fun _ _ _ h => h) (Or.inl ⟨by rfl, ?_⟩) (by assumption) ?_
      rotate_left
      · intro wS hSw
        first
          | (go_simp; done)
          | (go_simp; with_reducible rfl)
      try simp only [Act.put, List.setIfInBounds_toArray, List.set_cons_zero, List.set_cons_succ]
      have ks : ∃ x, Wz.cell? ⟨g, p, none⟩ = some x := ⟨_, (HO.out.cellAt p (by omega)).trans (List.getElem?_eq_getElem (by simp [I8s, rowL]; exact hpos))⟩
      obtain ⟨x0, ks⟩ := ks
      have fs : Wz.frozen? ⟨g, p, none⟩ = false := HO.out.frozenAt p
      refine wpAnyH_ready (rs := [20]) (by kernel_rfl) (by simp) ?_
      refine AllReadyH.cons (o := ({ dst := none, op := Op.store 27 (Operand.tmp 49) (Operand.tmp 48), type := 0, pos := "law.go:63", after := #[{ on := 19, ground := Ground.data }, { on := 18, ground := Ground.data }, { on := 0, ground := Ground.phase }, { on := 1, ground := Ground.phase }, { on := 2, ground := Ground.phase }, { on := 3, ground := Ground.phase }, { on := 4, ground := Ground.phase }, { on := 5, ground := Ground.phase }, { on := 6, ground := Ground.phase }, { on := 7, ground := Ground.phase }, { on := 8, ground := Ground.phase }, { on := 9, ground := Ground.phase }, { on := 10, ground := Ground.phase }, { on := 11, ground := Ground.phase }, { on := 12, ground := Ground.phase }, { on := 13, ground := Ground.phase }, { on := 14, ground := Ground.phase }, { on := 15, ground := Ground.phase }, { on := 16, ground := Ground.phase }, { on := 17, ground := Ground.phase }, { on := 18, ground := Ground.phase }], guard := none } : Oper)) rfl (fun Kq hK => ?_) (AllReadyH.nil)
      go_simp
      refine hK.out _ _ ?_ (fun hHeld => ?_)
      · exact (World.cell?_setCell_far _ _ _ _ hgne).trans hHeld
      clear hK Kq
      try simp only [Act.put, List.setIfInBounds_toArray, List.set_cons_zero, List.set_cons_succ]
      refine wpAnyH_done (by kernel_rfl) ?_ _
      have hst := HO.out.stored p (.int .i8 v)
      rw [HSET.out] at hst
      have HO2 := Lib.hid hst.1
      have HB2 := Lib.hid (HB.out.setCell (p := ⟨g, p, none⟩) hgb (.int .i8 v))
      clear hst hHeld ks fs f1 f2 f3 f4 f5 f6 d4 d6 u4
      generalize Wz.setCell ⟨g, p, none⟩ (.int .i8 v) = Wy at HO2 HB2 ⊢
      go_wp2_with fail
      go_roundw
      case rel => exact ⟨i + 1, by omega, by go_num, HO2, HB2⟩
      case measure => simp [intOf]; omega
    · obtain rfl : i = n := by omega
      have hfin := HO.out
      rw [madeO_all zs hw hc HRR.out] at hfin
      have HFI := Lib.hid hfin
      clear hfin
      go_wp2_with fail
      go_ret
      exact ⟨_, rfl, HFI.out, HB.out⟩
/-- one place of the turned tensor under the turned weights. -/
theorem turned_place (zs ws : List Int) (Hn wn : Nat) (H W C top left : Int) (d n nW oo o : Nat) (Z : Int) (hd : C = (d : Int)) (hH : H = (Hn : Int)) (hW : W = (wn : Int)) (hd0 : 0 < d) (hn : Hn * wn * d = n) (hnW : oo * 3 * 3 * d = nW) (ho : o < oo) (i j : Nat) (hi : i < 3) (hj : j < 3) (left' : Int) (hl : left' + (j : Int) = W - 1 - (left + ((2 - j : Nat) : Int))) :
    placeF (rowL (overF zs wn d) n) (rowL (overF ws 3 d) nW) H W C top left' d 3 o Z i j = placeF zs ws H W C top left d 3 o Z i (2 - j) := by
  unfold placeF
  by_cases hin : 0 ≤ top + (i : Int) ∧ top + (i : Int) < H ∧ 0 ≤ left + ((2 - j : Nat) : Int) ∧ left + ((2 - j : Nat) : Int) < W
  · rw [if_pos hin, if_pos (by omega)]
    obtain ⟨h1, h2, h3, h4⟩ := hin
    obtain ⟨y, hy⟩ : ∃ y : Nat, top + (i : Int) = (y : Int) := ⟨_, (Int.toNat_of_nonneg h1).symm⟩
    obtain ⟨x, hx⟩ : ∃ x : Nat, left + ((2 - j : Nat) : Int) = (x : Int) := ⟨_, (Int.toNat_of_nonneg h3).symm⟩
    have hxw : x < wn := by omega
    have hyH : y < Hn := by omega
    have hxx : left' + (j : Int) = ((wn - 1 - x : Nat) : Int) := by omega
    rw [hy, hx, hxx]
    have e1 : (((y : Int) * W + ((wn - 1 - x : Nat) : Int)) * C).toNat = (y * wn + (wn - 1 - x)) * d := by
      rw [hW, hd, ← Int.natCast_mul, ← Int.natCast_add, ← Int.natCast_mul, Int.toNat_natCast]
    have e2 : (((y : Int) * W + (x : Int)) * C).toNat = (y * wn + x) * d := by
      rw [hW, hd, ← Int.natCast_mul, ← Int.natCast_add, ← Int.natCast_mul, Int.toNat_natCast]
    rw [e1, e2]
    refine psum_congr fun c hc => ?_
    unfold termF
    have a1 : (y * wn + (wn - 1 - x)) * d + c < n := by rw [← hn]; exact at_lt hyH (by omega) hc
    have oi : o * 3 + i < oo * 3 := by omega
    have a2 : ((o * 3 + i) * 3 + j) * d + c < nW := by rw [← hnW]; exact at_lt oi hj hc
    rw [over_getD zs wn d a1, over_getD ws 3 d a2, turn_at (w := wn) (r := y) (x := wn - 1 - x) (by omega) hc, turn_at (w := 3) hj hc]
    rw [show wn - 1 - (wn - 1 - x) = x by omega, show 3 - 1 - j = 2 - j by omega]
  · rw [if_neg hin, if_neg (by omega)]
theorem turned_win (zs ws : List Int) (Hn wn : Nat) (H W C top left : Int) (d n nW oo o : Nat) (Z : Int) (hd : C = (d : Int)) (hH : H = (Hn : Int)) (hW : W = (wn : Int)) (hd0 : 0 < d) (hn : Hn * wn * d = n) (hnW : oo * 3 * 3 * d = nW) (ho : o < oo) (left' : Int) (hl : left' = W - 3 - left) :
    winF (rowL (overF zs wn d) n) (rowL (overF ws 3 d) nW) H W C top left' d 3 o Z = winF zs ws H W C top left d 3 o Z := by
  unfold winF
  refine psum_congr fun i hi => ?_
  unfold rowF
  have f := fun j hj hl => turned_place zs ws Hn wn H W C top left d n nW oo o Z hd hH hW hd0 hn hnW ho i j hi hj left' hl
  simp only [psum]
  rw [f 0 (by omega) (by omega), f 1 (by omega) (by omega), f 2 (by omega) (by omega)]
  simp only [Nat.sub_zero, Nat.reduceSub]
  omega
/-- the sums of what is turned over are the sums, turned over. -/
theorem turned_sums (zs ws bs : List Int) (Hn wn : Nat) (H W C S P : Int) (d n nW oo a b N : Nat) (Z : Int) (hS : S = 1) (hd : C = (d : Int)) (hH : H = (Hn : Int)) (hW : W = (wn : Int)) (hd0 : 0 < d) (hn : Hn * wn * d = n) (hnW : oo * 3 * 3 * d = nW) (hb : (b : Int) = W + 2 * P - 2) (hN : a * b * oo = N) (q : Nat) (hq : q < N) :
    gridF b oo (sumF (rowL (overF zs wn d) n) (rowL (overF ws 3 d) nW) bs H W C S P d 3 Z) (turnN b oo q) = gridF b oo (sumF zs ws bs H W C S P d 3 Z) q := by
  have ho0 : 0 < oo := by
    rcases Nat.eq_zero_or_pos oo with h | h
    · subst h; rw [Nat.mul_zero] at hN; omega
    · exact h
  have hb0 : 0 < b := by
    rcases Nat.eq_zero_or_pos b with h | h
    · subst h; rw [Nat.mul_zero, Nat.zero_mul] at hN; omega
    · exact h
  obtain ⟨h1, h2, h3⟩ := turn_parts (w := b) (c := oo) (q := q) hb0 ho0
  have hx : q / oo % b < b := Nat.mod_lt _ hb0
  have hk : q % oo < oo := Nat.mod_lt _ ho0
  unfold gridF
  rw [h1, h2, h3]
  generalize q / oo / b = r
  generalize q / oo % b = x at hx
  generalize q % oo = k at hk
  unfold sumF
  rw [turned_win zs ws Hn wn H W C ((r : Int) * S - P) ((x : Int) * S - P) d n nW oo k Z hd hH hW hd0 hn hnW hk _ (by rw [hS]; omega)]
end Go.Proofs.Ytceejjliboiciaa.CLane
