/- Layer 11 (patch): windows that do not overlap and cover all: each place is met once. -/
import Derived.Test.YtbolneejjjjaeaaPatchBackC
namespace Go.Proofs.Ytbolneejjjjaeaa.CPatch
open Go Go.ChangeShapes Go.WideShapes Go.ChangeAt Go.RowKit
open Plain CSat CShape CTensor CConv
set_option linter.unusedVariables false

theorem acc_once {hit : Nat → Option Nat} {D : Nat → Int} {p t0 : Nat} : ∀ T, (∀ t, t < T → hit t = some p → t = t0) → accF hit D T p = if t0 < T ∧ hit t0 = some p then IntKind.i32.wrap (D t0) else 0
  | 0, _ => by rw [if_neg (by omega)]; rfl
  | T + 1, h => by
    have ih := acc_once T (fun t ht => h t (by omega)) (D := D)
    show (if hit T = some p then IntKind.i32.wrap (accF hit D T p + D T) else accF hit D T p) = _
    by_cases hT : hit T = some p
    · have e := h T (by omega) hT
      subst e
      rw [if_pos hT, ih, if_neg (by omega), Int.zero_add, if_pos ⟨by omega, hT⟩]
    · rw [if_neg hT, ih]
      by_cases c : t0 < T ∧ hit t0 = some p
      · rw [if_pos c, if_pos ⟨by omega, c.2⟩]
      · rw [if_neg c, if_neg]
        rintro ⟨h1, h2⟩
        rcases Nat.lt_or_ge t0 T with h3 | h3
        · exact c ⟨h3, h2⟩
        · have : t0 = T := by omega
          subst this
          exact hT h2
def yN (s b d wd t : Nat) : Nat := t / wd / b * s + t % wd / d / s
def xN (s b d wd t : Nat) : Nat := t / wd % b * s + t % wd / d % s
theorem hit_whole (h v s b d wd t : Nat) : hitF (h : Int) (v : Int) (d : Int) (s : Int) 0 b s d wd t = if yN s b d wd t < h ∧ xN s b d wd t < v then some ((yN s b d wd t * v + xN s b d wd t) * d + t % wd % d) else none := by
  have e1 : ((t / wd / b : Nat) : Int) * (s : Int) - 0 + ((t % wd / d / s : Nat) : Int) = (yN s b d wd t : Int) := by unfold yN; simp
  have e2 : ((t / wd % b : Nat) : Int) * (s : Int) - 0 + ((t % wd / d % s : Nat) : Int) = (xN s b d wd t : Int) := by unfold xN; simp
  unfold hitF
  rw [e1, e2]
  by_cases hc : yN s b d wd t < h ∧ xN s b d wd t < v
  · rw [if_pos hc, if_pos (by omega)]
    congr 1
  · rw [if_neg hc, if_neg (by omega)]
/-- the number that goes to p. -/
def backT (s b d v p : Nat) : Nat := ((p / d / v / s * b + p / d % v / s) * (s * s) + (p / d / v % s * s + p / d % v % s)) * d + p % d
theorem two_parts {m q r : Nat} (hr : r < m) : (q * m + r) / m = q ∧ (q * m + r) % m = r := by
  constructor
  · rw [Nat.mul_comm, Nat.mul_add_div (by omega), Nat.div_eq_of_lt hr]; rfl
  · rw [Nat.mul_comm, Nat.mul_add_mod, Nat.mod_eq_of_lt hr]
theorem whole_only {h v s b d wd t p : Nat} (hs : 0 < s) (hb : 0 < b) (hd : 0 < d) (hwd : s * s * d = wd) (hh : hitF (h : Int) (v : Int) (d : Int) (s : Int) 0 b s d wd t = some p) : t = backT s b d v p := by
  rw [hit_whole] at hh
  by_cases hc : yN s b d wd t < h ∧ xN s b d wd t < v
  · rw [if_pos hc] at hh
    injection hh with hp
    have c1 : t % wd % d < d := Nat.mod_lt _ hd
    obtain ⟨a1, a2⟩ := two_parts (q := yN s b d wd t * v + xN s b d wd t) c1
    obtain ⟨a3, a4⟩ := two_parts (q := yN s b d wd t) hc.2
    have b1 : t % wd / d / s < s := by
      rw [Nat.div_lt_iff_lt_mul hs, Nat.div_lt_iff_lt_mul hd, hwd]
      exact Nat.mod_lt _ (by rw [← hwd]; exact Nat.mul_pos (Nat.mul_pos hs hs) hd)
    have b2 : t % wd / d % s < s := Nat.mod_lt _ hs
    obtain ⟨a5, a6⟩ := two_parts (q := t / wd / b) b1
    obtain ⟨a7, a8⟩ := two_parts (q := t / wd % b) b2
    unfold backT
    rw [← hp, a1, a2, a3, a4]
    have f1 : yN s b d wd t / s = t / wd / b := a5
    have f2 : yN s b d wd t % s = t % wd / d / s := a6
    have f3 : xN s b d wd t / s = t / wd % b := a7
    have f4 : xN s b d wd t % s = t % wd / d % s := a8
    rw [f1, f2, f3, f4]
    have g1 : t / wd / b * b + t / wd % b = t / wd := Nat.div_add_mod' _ _
    have g2 : t % wd / d / s * s + t % wd / d % s = t % wd / d := Nat.div_add_mod' _ _
    have g3 : t % wd / d * d + t % wd % d = t % wd := Nat.div_add_mod' _ _
    have g4 : t / wd * wd + t % wd = t := Nat.div_add_mod' _ _
    rw [g1, g2, Nat.add_mul, Nat.mul_assoc, hwd, Nat.add_assoc, g3, g4]
  · rw [if_neg hc] at hh; cases hh
theorem whole_hit {a s b d wd p : Nat} (hs : 0 < s) (hb : 0 < b) (hd : 0 < d) (hwd : s * s * d = wd) (hp : p < a * s * (b * s) * d) : hitF ((a * s : Nat) : Int) ((b * s : Nat) : Int) (d : Int) (s : Int) 0 b s d wd (backT s b d (b * s) p) = some p ∧ backT s b d (b * s) p < a * b * wd := by
  obtain ⟨v, hv⟩ : ∃ v, b * s = v := ⟨_, rfl⟩
  rw [hv] at hp ⊢
  have hv0 : 0 < v := by rw [← hv]; exact Nat.mul_pos hb hs
  obtain ⟨c, hc⟩ : ∃ c, p % d = c := ⟨_, rfl⟩
  obtain ⟨x, hx⟩ : ∃ x, p / d % v = x := ⟨_, rfl⟩
  obtain ⟨y, hy⟩ : ∃ y, p / d / v = y := ⟨_, rfl⟩
  have c1 : c < d := by rw [← hc]; exact Nat.mod_lt _ hd
  have x1 : x < v := by rw [← hx]; exact Nat.mod_lt _ hv0
  have y1 : y < a * s := by
    rw [← hy, Nat.div_lt_iff_lt_mul hv0, Nat.div_lt_iff_lt_mul hd]; exact hp
  have hpp : (y * v + x) * d + c = p := by
    rw [← hy, ← hx, ← hc, Nat.div_add_mod', Nat.div_add_mod']
  have q1 : y % s * s + x % s < s * s := by
    have h1 := Nat.mul_le_mul_right s (show y % s + 1 ≤ s from Nat.mod_lt _ hs)
    have h2 := Nat.mod_lt x hs
    rw [Nat.add_mul, Nat.one_mul] at h1; omega
  have xs : x / s < b := by rw [Nat.div_lt_iff_lt_mul hs, hv]; exact x1
  have ys : y / s < a := by rw [Nat.div_lt_iff_lt_mul hs]; exact y1
  have hT : backT s b d v p = ((y / s * b + x / s) * (s * s) + (y % s * s + x % s)) * d + c := by unfold backT; rw [hy, hx, hc]
  obtain ⟨e1, e2, e3⟩ := t_parts (i := y / s * b + x / s) hwd q1 c1 hT
  obtain ⟨i1, i2⟩ := two_parts (q := y / s) xs
  obtain ⟨j1, j2⟩ := two_parts (q := y % s) (Nat.mod_lt x hs)
  have k1 : yN s b d wd (backT s b d v p) = y := by unfold yN; rw [e1, e2, i1, j1]; exact Nat.div_add_mod' _ _
  have k2 : xN s b d wd (backT s b d v p) = x := by unfold xN; rw [e1, e2, i2, j2]; exact Nat.div_add_mod' _ _
  refine ⟨?_, ?_⟩
  · rw [hit_whole, k1, k2, e3, if_pos ⟨y1, x1⟩, hpp]
  · have h1 := Nat.mul_le_mul_right b (show y / s + 1 ≤ a from ys)
    rw [Nat.add_mul, Nat.one_mul] at h1
    have h2 := Nat.mul_le_mul_right (s * s) (show y / s * b + x / s + 1 ≤ a * b by omega)
    rw [Nat.add_mul, Nat.one_mul] at h2
    have h3 := Nat.mul_le_mul_right d (show (y / s * b + x / s) * (s * s) + (y % s * s + x % s) + 1 ≤ a * b * (s * s) by omega)
    rw [Nat.add_mul, Nat.one_mul, Nat.mul_assoc (a * b), hwd] at h3
    rw [hT]; omega
theorem num_hit (zs : List Int) {H W C S P : Int} (Z : Int) {b kk d wd t p : Nat} (h : hitF H W C S P b kk d wd t = some p) : numF zs H W C S P Z b kk d wd t = zs.getD p 0 - Z := by
  unfold hitF at h
  unfold numF
  split at h
  · rename_i hc
    rw [if_pos hc]
    injection h with h
    rw [h]
  · cases h
theorem whole_num (zs : List Int) (hz : I8b zs) (Z : Int) (z1 : -128 ≤ Z) (z2 : Z ≤ 127) {a s b d wd N : Nat} (hs : 0 < s) (hb : 0 < b) (hd : 0 < d) (hwd : s * s * d = wd) (hN : a * b * wd = N) (E : Nat) (hE : E = a * s * (b * s) * d) :
    listF (accF (hitF ((a * s : Nat) : Int) ((b * s : Nat) : Int) (d : Int) (s : Int) 0 b s d wd) (fun t => (listF (numF zs ((a * s : Nat) : Int) ((b * s : Nat) : Int) (d : Int) (s : Int) 0 Z b s d wd) N).getD t 0) N) E = listF (fun p => zs.getD p 0 - Z) E := listF_congr fun p hp => by
  obtain ⟨h1, h2⟩ := whole_hit (a := a) hs hb hd hwd (p := p) (by omega)
  rw [hN] at h2
  rw [acc_once (t0 := backT s b d (b * s) p) N (fun t _ ht => whole_only hs hb hd hwd ht), if_pos ⟨h2, h1⟩]
  rw [List.getD_eq_getElem?_getD, listF_at _ h2]
  show IntKind.i32.wrap (numF zs _ _ _ _ _ Z b s d wd _) = _
  rw [num_hit zs Z h1]
  have := hz p
  exact IntWalk.i32_in _ (by omega)
end Go.Proofs.Ytbolneejjjjaeaa.CPatch
