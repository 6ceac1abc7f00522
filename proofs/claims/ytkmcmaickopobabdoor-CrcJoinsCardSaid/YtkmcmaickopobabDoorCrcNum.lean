/- Plain facts on registers of 32 bits (the checksum's shifts): no program is named here. -/
import Derived.WalkKit
import Derived.Laws.BitsLemmas
import Derived.Lib.Hide
namespace Go.Proofs.YtkmcmaickopobabDoor.CrcNum
open Go Go.RowKit
set_option linter.unusedVariables false

abbrev R := BitVec 32
def poly : R := 3988292384#32
/-- one shift of a register. -/
def st (x : R) : R := (x >>> 1) ^^^ (if x.getLsbD 0 then poly else 0#32)
def stn : Nat → R → R
  | 0, x => x
  | n + 1, x => st (stn n x)

theorem xor4 (a b c d : R) : (a ^^^ b) ^^^ (c ^^^ d) = (a ^^^ c) ^^^ (b ^^^ d) := by
  rw [BitVec.xor_assoc, BitVec.xor_assoc, ← BitVec.xor_assoc b, BitVec.xor_comm b c, BitVec.xor_assoc c]

theorem st_xor (x y : R) : st (x ^^^ y) = st x ^^^ st y := by
  unfold st
  rw [BitVec.getLsbD_xor, BitVec.ushiftRight_xor_distrib, xor4]
  congr 1
  cases x.getLsbD 0 <;> cases y.getLsbD 0 <;> simp
theorem st_zero : st 0#32 = 0#32 := by decide
theorem stn_xor (n : Nat) (x y : R) : stn n (x ^^^ y) = stn n x ^^^ stn n y := by
  induction n with
  | zero => rfl
  | succ n ih => simp only [stn, ih, st_xor]
theorem stn_zero (n : Nat) : stn n 0#32 = 0#32 := by
  induction n with
  | zero => rfl
  | succ n ih => simp only [stn, ih, st_zero]
theorem stn_add (m n : Nat) (x : R) : stn (m + n) x = stn m (stn n x) := by
  induction m with
  | zero => simp [stn]
  | succ m ih => rw [Nat.succ_add]; simp only [stn, ih]
theorem stn_st (n : Nat) (x : R) : stn n (st x) = st (stn n x) := by
  rw [show st x = stn 1 x from rfl, ← stn_add, Nat.add_comm, stn_add]; rfl
theorem st_even {x : R} (h : x.getLsbD 0 = false) : st x = x >>> 1 := by
  unfold st; rw [h]; simp
/-- what is shifted is 0 only if it was. -/
theorem st_null {x : R} (h : st x = 0#32) : x = 0#32 := by
  cases e : x.getLsbD 0
  · rw [st_even e] at h
    apply BitVec.eq_of_getLsbD_eq
    intro i hi
    have hb := congrArg (fun y : R => y.getLsbD (i - 1)) h
    simp only [BitVec.getLsbD_ushiftRight, BitVec.getLsbD_zero] at hb
    rcases Nat.eq_zero_or_pos i with rfl | hp
    · simpa using e
    · rw [show 1 + (i - 1) = i by omega] at hb; simpa using hb
  · unfold st at h
    rw [e] at h
    have hb := congrArg (fun y : R => y.getLsbD 31) h
    simp only [BitVec.getLsbD_xor, BitVec.getLsbD_ushiftRight, BitVec.getLsbD_zero, if_true] at hb
    have hp : poly.getLsbD 31 = true := by decide
    have hx : x.getLsbD (1 + 31) = false := BitVec.getLsbD_of_ge _ _ (by decide)
    rw [hp, hx] at hb
    cases hb
theorem stn_null {n : Nat} {x : R} (h : stn n x = 0#32) : x = 0#32 := by
  induction n with
  | zero => exact h
  | succ n ih => exact ih (st_null h)

theorem low4 (x : R) : x = (x &&& 15#32) ^^^ ((x >>> 4) <<< 4) := by
  apply BitVec.eq_of_getLsbD_eq
  intro i hi
  have h15 : (15#32).getLsbD i = decide (i < 4) := by
    have := Nat.testBit_two_pow_sub_one 4 i
    rw [BitVec.getLsbD_ofNat]
    simp only [hi, decide_true, Bool.true_and]
    exact this
  rw [BitVec.getLsbD_xor, BitVec.getLsbD_and, h15, BitVec.getLsbD_shiftLeft, BitVec.getLsbD_ushiftRight]
  by_cases h : i < 4
  · simp [h]
  · have e : 4 + (i - 4) = i := by omega
    simp [h, hi, e]

theorem four_shl (z : R) : stn 4 ((z >>> 4) <<< 4) = z >>> 4 := by
  have bit : ∀ k i : Nat, (((z >>> 4) <<< 4) >>> k).getLsbD i = ((decide (k + i < 32) && !decide (k + i < 4)) && z.getLsbD (4 + (k + i - 4))) := by
    intro k i
    rw [BitVec.getLsbD_ushiftRight, BitVec.getLsbD_shiftLeft, BitVec.getLsbD_ushiftRight]
  have low : ∀ k : Nat, k < 4 → (((z >>> 4) <<< 4) >>> k).getLsbD 0 = false := by
    intro k hk; rw [bit]; simp [hk]
  have one : ∀ k : Nat, k < 4 → st (((z >>> 4) <<< 4) >>> k) = ((z >>> 4) <<< 4) >>> (k + 1) := by
    intro k hk
    rw [st_even (low k hk)]
    rw [← BitVec.shiftRight_add]
  have all : stn 4 ((z >>> 4) <<< 4) = ((z >>> 4) <<< 4) >>> 4 := by
    have e0 : ((z >>> 4) <<< 4) = ((z >>> 4) <<< 4) >>> 0 := by simp
    show st (st (st (st ((z >>> 4) <<< 4)))) = _
    rw [e0, one 0 (by decide), one 1 (by decide), one 2 (by decide), one 3 (by decide)]
    simp
  rw [all]
  apply BitVec.eq_of_getLsbD_eq
  intro i hi
  rw [bit, BitVec.getLsbD_ushiftRight]
  by_cases h : 4 + i < 32
  · have e : 4 + (4 + i - 4) = 4 + i := by omega
    simp [h]
  · rw [BitVec.getLsbD_of_ge z (4 + i) (by omega)]; simp [h]

/-- four shifts, by the table's number of the lowest four bits. -/
theorem four (x : R) : stn 4 x = (x >>> 4) ^^^ stn 4 (x &&& 15#32) := by
  conv => lhs; rw [low4 x]
  rw [stn_xor, four_shl, BitVec.xor_comm]

/-! ### bytes -/
def byteR (b : Int) : R := BitVec.ofInt 32 b
/-- a register behind a byte. -/
def eat (v : R) (b : Int) : R := stn 8 (v ^^^ byteR b)
def run (v : R) (l : List Int) : R := l.foldl eat v
theorem run_nil (v : R) : run v [] = v := rfl
theorem run_snoc (v : R) (l : List Int) (b : Int) : run v (l ++ [b]) = eat (run v l) b := by simp [run]
theorem run_append (v : R) (l m : List Int) : run v (l ++ m) = run (run v l) m := by simp [run]
theorem eat_four (v : R) (b : Int) : eat v b = stn 4 (stn 4 (v ^^^ byteR b)) := by unfold eat; rw [← stn_add]
/-- a difference of registers goes on by shifts. -/
theorem run_diff (l : List Int) : ∀ v d : R, run (v ^^^ d) l = run v l ^^^ stn (8 * l.length) d := by
  induction l with
  | nil => intro v d; rfl
  | cons b l ih =>
    intro v d
    show run (eat (v ^^^ d) b) l = run (eat v b) l ^^^ _
    have e : eat (v ^^^ d) b = eat v b ^^^ stn 8 d := by
      unfold eat
      rw [BitVec.xor_assoc, BitVec.xor_comm d, ← BitVec.xor_assoc, stn_xor]
    rw [e, ih, ← stn_add, List.length_cons, Nat.mul_succ]
theorem run_inj {v u : R} {l : List Int} (h : run v l = run u l) : v = u := by
  have e : u = v ^^^ (v ^^^ u) := by rw [← BitVec.xor_assoc]; simp
  rw [e, run_diff] at h
  have h0 : stn (8 * l.length) (v ^^^ u) = 0#32 := by
    have := congrArg (fun x => run v l ^^^ x) h
    simp only [← BitVec.xor_assoc, BitVec.xor_self, BitVec.zero_xor] at this
    exact this.symm
  have := stn_null h0
  exact BitVec.xor_eq_zero_iff.mp this
theorem stn_inj {n : Nat} {v u : R} (h : stn n v = stn n u) : v = u := by
  have : stn n (v ^^^ u) = 0#32 := by rw [stn_xor, h, BitVec.xor_self]
  exact BitVec.xor_eq_zero_iff.mp (stn_null this)
/-- one byte that is another one is told. -/
theorem run_tells (v : R) (l m : List Int) (b c : Int) (hb : 0 ≤ b ∧ b ≤ 255) (hc : 0 ≤ c ∧ c ≤ 255) (h : b ≠ c) : run v (l ++ b :: m) ≠ run v (l ++ c :: m) := by
  intro he
  rw [run_append, run_append] at he
  have h1 : run (eat (run v l) b) m = run (eat (run v l) c) m := he
  have h2 := stn_inj (run_inj h1)
  have h3 : byteR b = byteR c := by
    have := congrArg (fun x => run v l ^^^ x) h2
    simpa only [← BitVec.xor_assoc, BitVec.xor_self, BitVec.zero_xor] using this
  have h4 := congrArg BitVec.toNat h3
  unfold byteR at h4
  rw [BitVec.toNat_ofInt, BitVec.toNat_ofInt] at h4
  omega

/-- the checksum. -/
def crcOf (l : List Int) : R := ~~~ run (BitVec.allOnes 32) l
def crcMore (s : R) (l : List Int) : R := ~~~ run (~~~ s) l
theorem not_xor (x : R) : ~~~ x = BitVec.allOnes 32 ^^^ x := by
  rw [BitVec.xor_comm, BitVec.xor_allOnes]
theorem crc_more (l m : List Int) : crcMore (crcOf l) m = crcOf (l ++ m) := by
  unfold crcMore crcOf; rw [BitVec.not_not, run_append]
theorem crc_join (l m : List Int) : crcOf (l ++ m) = stn (8 * m.length) (crcOf l) ^^^ crcOf m := by
  unfold crcOf
  rw [run_append]
  have e : run (BitVec.allOnes 32) l = BitVec.allOnes 32 ^^^ ~~~ run (BitVec.allOnes 32) l := by
    rw [← not_xor, BitVec.not_not]
  conv => lhs; rw [e, run_diff]
  rw [not_xor, ← BitVec.xor_assoc, ← not_xor, BitVec.xor_comm]

/-! ### products -/
def one : R := 2147483648#32
/-- the product of two registers, by the highest bits first. -/
def mulP : Nat → R → R → R
  | 0, _, _ => 0#32
  | p + 1, a, b => mulP p a b ^^^ (if a.getLsbD (31 - p) then stn p b else 0#32)
def mul (a b : R) : R := mulP 32 a b
theorem mulP_stn (k p : Nat) (a b : R) : mulP p a (stn k b) = stn k (mulP p a b) := by
  induction p with
  | zero => exact (stn_zero k).symm
  | succ p ih =>
    simp only [mulP, ih, stn_xor]
    congr 1
    split
    · rw [← stn_add, ← stn_add, Nat.add_comm]
    · exact (stn_zero k).symm
theorem stn_one : ∀ p : Nat, p < 32 → stn p one = BitVec.twoPow 32 (31 - p) := by decide
theorem mulP_one : ∀ (p : Nat) (a : R), p ≤ 32 → ∀ i, i < 32 → (mulP p a one).getLsbD i = (decide (32 - p ≤ i) && a.getLsbD i) := by
  intro p a
  induction p with
  | zero => intro _ i hi; simp [mulP]; omega
  | succ p ih =>
    intro hp i hi
    simp only [mulP, BitVec.getLsbD_xor]
    rw [ih (by omega) i hi]
    by_cases e : i = 31 - p
    · subst e
      have h1 : ¬ 32 - p ≤ 31 - p := by omega
      have h2 : 32 - (p + 1) ≤ 31 - p := by omega
      cases ha : a.getLsbD (31 - p)
      · simp [h1]
      · rw [if_pos rfl, stn_one p (by omega), BitVec.getLsbD_twoPow]
        simp [h1]; omega
    · have h1 : decide (32 - p ≤ i) = decide (32 - (p + 1) ≤ i) := by
        apply decide_eq_decide.mpr; omega
      rw [h1]
      have h2 : (if a.getLsbD (31 - p) then stn p one else 0#32).getLsbD i = false := by
        split
        · rw [stn_one p (by omega), BitVec.getLsbD_twoPow]
          simp; intro _ ; omega
        · simp
      rw [h2]; simp
theorem mul_one (a : R) : mul a one = a := by
  apply BitVec.eq_of_getLsbD_eq
  intro i hi
  unfold mul
  rw [mulP_one 32 a (by omega) i hi]; simp
/-- by a power of a shift it is that many shifts. -/
theorem mul_stn (a : R) (k : Nat) : mul a (stn k one) = stn k a := by
  show mulP 32 a (stn k one) = _
  rw [mulP_stn]; exact congrArg (stn k) (mul_one a)

/-! ### as integers -/
def toI (x : R) : Int := (x.toNat : Int)
theorem toI_bd (x : R) : 0 ≤ toI x ∧ toI x ≤ 4294967295 := by unfold toI; have := x.isLt; omega
theorem toI_inj {x y : R} (h : toI x = toI y) : x = y := by
  unfold toI at h; exact BitVec.eq_of_toNat_eq (by omega)
theorem toI_of (n : Int) (h0 : 0 ≤ n) (h1 : n ≤ 4294967295) : toI (BitVec.ofInt 32 n) = n := by
  unfold toI; rw [BitVec.toNat_ofInt]; omega
theorem ofInt_toI (x : R) : BitVec.ofInt 32 (toI x) = x := by
  apply BitVec.eq_of_toNat_eq; unfold toI; rw [BitVec.toNat_ofInt]; have := x.isLt; omega
theorem xor_toI (x y : R) : bits .xor .u32 (toI x) (toI y) = toI (x ^^^ y) := by
  show IntKind.u32.wrap ((BitVec.ofInt 32 (toI x) ^^^ BitVec.ofInt 32 (toI y)).toNat : Int) = _
  rw [ofInt_toI, ofInt_toI, IntKind.wrap_u32]; unfold toI; have := (x ^^^ y).isLt; omega
theorem and_toI (x y : R) : bits .and .u32 (toI x) (toI y) = toI (x &&& y) := by
  show IntKind.u32.wrap ((BitVec.ofInt 32 (toI x) &&& BitVec.ofInt 32 (toI y)).toNat : Int) = _
  rw [ofInt_toI, ofInt_toI, IntKind.wrap_u32]; unfold toI; have := (x &&& y).isLt; omega
theorem byte_toI (b : Int) (h0 : 0 ≤ b) (h1 : b ≤ 255) : toI (byteR b) = b := toI_of b h0 (by omega)
theorem odd_toI (x : R) : toI x % (2 : Int) = if x.getLsbD 0 then 1 else 0 := by
  unfold toI
  rw [BitVec.getLsbD, Nat.testBit_zero]
  by_cases h : x.toNat % 2 = 1 <;> simp [h] <;> omega
theorem half_toI (x : R) : toI x / (2 : Int) = toI (x >>> 1) := by
  unfold toI; rw [BitVec.toNat_ushiftRight, Nat.shiftRight_eq_div_pow]; simp
theorem shr4_toI (x : R) : toI x / (16 : Int) = toI (x >>> 4) := by
  unfold toI; rw [BitVec.toNat_ushiftRight, Nat.shiftRight_eq_div_pow]; simp
theorem and15_toI (x : R) : bits .and .u32 (toI x) 15 = ((x &&& 15#32).toNat : Int) ∧ (x &&& 15#32).toNat < 16 := by
  have e : (15 : Int) = toI 15#32 := by decide
  refine ⟨by rw [e, and_toI]; rfl, ?_⟩
  rw [BitVec.toNat_and]
  exact Nat.lt_of_le_of_lt Nat.and_le_right (by decide)
/-- what the table holds at a place below 16. -/
def tab (n : Nat) : R := stn 4 (BitVec.ofNat 32 n)
theorem tab_and (x : R) : tab (x &&& 15#32).toNat = stn 4 (x &&& 15#32) := by
  unfold tab; rw [BitVec.ofNat_toNat]; simp
/-- half a byte by the table, in the words of the walk. -/
theorem half_step (y : R) : ∃ n : Nat, n < 16 ∧ bits .and .u32 (toI y) 15 = (n : Int) ∧ bits .xor .u32 (toI y / (16 : Int)) (toI (tab n)) = toI (stn 4 y) := by
  refine ⟨(y &&& 15#32).toNat, (and15_toI y).2, (and15_toI y).1, ?_⟩
  rw [tab_and, shr4_toI, xor_toI, four y]
theorem first_step (x : R) (b : Int) (h0 : 0 ≤ b) (h1 : b ≤ 255) : bits .xor .u32 (toI x) b = toI (x ^^^ byteR b) := by
  conv => lhs; rw [← byte_toI b h0 h1]
  exact xor_toI _ _
theorem pow_toI : ∀ k : Nat, k < 32 → (2147483648 : Int) / 2 ^ k = toI (BitVec.twoPow 32 (31 - k)) := by decide
theorem pow_test (a : R) (k : Nat) (hk : k < 32) : (bits .and .u32 (toI a) (2147483648 / 2 ^ k) != 0) = a.getLsbD (31 - k) := by
  rw [pow_toI k hk, and_toI, BitVec.and_twoPow]
  cases a.getLsbD (31 - k)
  · rfl
  · have : ∀ j : Nat, j < 32 → (toI (BitVec.twoPow 32 j) != 0) = true := by decide
    exact this _ (by omega)
end Go.Proofs.YtkmcmaickopobabDoor.CrcNum
