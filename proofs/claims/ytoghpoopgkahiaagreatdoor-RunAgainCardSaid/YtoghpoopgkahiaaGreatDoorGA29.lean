/- Texts of this seat, one behind the other: FixAll, LowerNum, TensorSameTwo, ActOne, TensorFlat. -/
import Derived.Deep.RegionHeld3
import Derived.Test.YtoghpoopgkahiaaGreatDoorGA5
import Derived.Test.YtoghpoopgkahiaaGreatDoorGA7
import Derived.Test.YtoghpoopgkahiaaGreatDoorGA9
import Derived.Test.YtoghpoopgkahiaaGreatDoorGA12
import Derived.Test.YtoghpoopgkahiaaGreatDoorGA14
import Derived.Test.YtoghpoopgkahiaaGreatDoorGA20
import Derived.Test.YtoghpoopgkahiaaGreatDoorGA21
import Derived.Test.YtoghpoopgkahiaaGreatDoorGA22
import Derived.Test.YtoghpoopgkahiaaGreatDoorGA27
import Derived.Test.YtoghpoopgkahiaaGreatDoorGA28
section
namespace Go.Proofs.YtoghpoopgkahiaaGreatDoor.CFix
open Go Go.ChangeShapes Go.WideShapes Go.ChangeAt Go.RowKit
open Plain CSat
set_option linter.unusedVariables false
/-- a call that hands back a list of its own. -/
def Owned (w : World) (T size n : Nat) (xs : List Value) (e : Ending) (w' : World) : Prop :=
  ∃ v, e = .returned v ∧ w'.ownsRow w.heap.size T size v n xs ∧ Below w.heap.size w w'
def I32s (zs : List Int) : Prop := ∀ z ∈ zs, -2147483648 ≤ z ∧ z ≤ 2147483647
theorem info8 : (Tryz.prog.info? 22).map (fun i => (i.zero, i.size, i.bytes)) = some (some (.int .i8 0), 1, 1) := by kernel_rfl
theorem all_yes (A : Option Addr) (zs : List Int) (c : Nat) (m s z lo hi : Int) (hr : rightB m s = true) (hlen : zs.length ≤ 1000000) (hzs : I32s zs) (hm1 : -2147483648 ≤ m) (hm2 : m ≤ 2147483647) (hz1 : -128 ≤ z) (hz2 : z ≤ 127)
    (hl1 : -128 ≤ lo) (hl2 : lo ≤ 127) (hh1 : -128 ≤ hi) (hh2 : hi ≤ 127) (L : List Value) (hL : L = (zs.map fun a => heldZ a m s z lo hi).map (Value.int .i8)) (w : World) (hrd : Kit.Rd w w.heap.size A (zs.map (.int .i32))) :
    Calls Tryz.prog 113 #[.slice A zs.length c, .agg #[.int .i32 m, .int .i64 s, .int .i8 z], .int .i8 lo, .int .i8 hi] w
      (Owned w 22 1 zs.length L) := by
  have hLl : L.length = zs.length := by rw [hL]; simp
  have HL := Lib.hid hL
  have HLL := Lib.hid hLl
  have HR := Lib.hid hr
  clear hr hL hLl
  go_enter Tryz.func113, Tryz.ntmps113
  obtain ⟨i0, hi0, hi1, hi2, hi3⟩ := info_parts info8
  go_wp2_with (first
    | (go_at_call 50; refine (isRight_yes _ _ _ HR.out _).mono ?_; rintro e w1 ⟨rfl, hb⟩)
    | (at_make; refine wpList_make_full _ rfl (.tmp 15) (.tmp 15) _ rfl (w.heap.size + 1) 22 i0 (.int .i8 0) 1 Tryz.underlying23 hi0 hi1 hi2 .i64 .i64 _ _ zs.length rfl rfl rfl rfl (by rw [hi3]; omega) (by unfold maxLen; omega) (by have := hb.size; simpa using this) ?_; intro w2 hown hg2))
  have hB2 : Below (w.heap.size + 1) (w.alloc (.cells #[.int .i32 m, .int .i64 s, .int .i8 z] 26)) w2 :=
    (by simpa using hb : Below (w.heap.size + 1) _ w1).grown hg2 (by simpa using hb.size) (fun q hq => by cases hq)
  have hgs : w.heap.size < w1.heap.size := by have := hb.size; simp at this; omega
  rw [show (madeCells (Value.int IntKind.i8 0).cells (zs.length * 1)).toList = List.replicate zs.length (.int .i8 0) by rw [Nat.mul_one]; exact toList_madeCells_one _ _] at hown
  generalize w1.heap.size = g at *
  have hown0 : w2.ownsRow (w.heap.size + 1) 22 1 (.slice (some ⟨g, 0, none⟩) zs.length zs.length) zs.length (Kit.filled L (.int .i8 0) 0) := by rw [Kit.filled_zero, HLL.out]; exact hown
  have HOWN := Lib.hid hown0
  have HB2 := Lib.hid hB2
  have HRD := Lib.hid hrd
  clear hb hg2 hB2 hrd hown hown0
  go_loopw [19] (fun i wr => ∃ k : Nat, k ≤ zs.length ∧ i = .int .i64 k ∧ Hid (wr.ownsRow (w.heap.size + 1) 22 1 (.slice (some ⟨g, 0, none⟩) zs.length zs.length) zs.length (Kit.filled L (.int .i8 0) k)) ∧ Hid (Below (w.heap.size + 1) w2 wr)) (fun i _ => zs.length - (intOf i).toNat)
  case atStart => exact ⟨0, Nat.zero_le _, rfl, HOWN, Lib.hid (Below.refl _ _)⟩
  case round =>
    obtain ⟨k, hk, rfl, hown1, hb1⟩ := hrel
    by_cases hlt : k < zs.length
    · obtain ⟨b, off, rfl, hbw, hx⟩ := HRD.out.ints hlt
      obtain ⟨hx1, hx2⟩ := hzs zs[k] (List.getElem_mem hlt)
      have hbt := HB2.out.trans hb1.out
      have hszt : w.heap.size + 1 ≤ wr.heap.size := by have := hbt.size; simpa using this
      have hga : g < wr.heap.size := Kit.block_lt_of_own hown1.out
      have cx : wr.cell? ⟨b, off + k, none⟩ = some (.int .i32 zs[k]) := by rw [hbt.cell (p := ⟨b, off + k, none⟩) (by simp; omega), World.cell?_alloc_lt _ _ _ hbw]; exact hx
      have c0 : wr.cell? ⟨w.heap.size, 0, none⟩ = some (.int .i32 m) := (hbt.cell (p := ⟨w.heap.size, 0, none⟩) (by simp)).trans (Kit.new_cell _ _ _ _)
      have c1 : wr.cell? ⟨w.heap.size, 1, none⟩ = some (.int .i64 s) := (hbt.cell (p := ⟨w.heap.size, 1, none⟩) (by simp)).trans (Kit.new_cell _ _ _ _)
      have c2 : wr.cell? ⟨w.heap.size, 2, none⟩ = some (.int .i8 z) := (hbt.cell (p := ⟨w.heap.size, 2, none⟩) (by simp)).trans (Kit.new_cell _ _ _ _)
      have cd : wr.cell? ⟨g, k, none⟩ = some (.int .i8 0) := by
        rw [hown1.out.cellAt k (by omega)]
        exact Kit.filled_at L _ (by rw [HLL.out]; exact hlt)
      have fd : wr.frozen? ⟨g, k, none⟩ = false := hown1.out.frozenAt k
      have lw : w.heap.size < wr.heap.size := by omega
      have lb : b < wr.heap.size := by omega
      have nb : g ≠ b := by omega
      have nw : g ≠ w.heap.size := by omega
      generalize hxe : zs[k] = x at *
      have HX := Lib.hid hxe
      have HBT := Lib.hid hbt
      clear hxe hbt hx
      go_wp2_with fail
      go_region_held3 (fun w' => w'.cell? ⟨b, off + k, none⟩ = some (.int .i32 x) ∧ w'.cell? ⟨w.heap.size, 0, none⟩ = some (.int .i32 m) ∧ w'.cell? ⟨w.heap.size, 1, none⟩ = some (.int .i64 s) ∧ w'.cell? ⟨w.heap.size, 2, none⟩ = some (.int .i8 z)) (first | go_keep | exact ⟨(World.cell?_setCell_far _ _ _ _ nb).trans e0, (World.cell?_setCell_far _ _ _ _ nw).trans e1, (World.cell?_setCell_far _ _ _ _ nw).trans e2, (World.cell?_setCell_far _ _ _ _ nw).trans e3⟩) ((first
        | (go_at_call 107; refine (held _ _ _ _ _ _ hx1 hx2 hm1 hm2 hz1 hz2 hl1 hl2 hh1 hh2 _).mono ?_; rintro e w3 ⟨rfl, hb3⟩; obtain ⟨hc3, hf3⟩ := Kit.bcell hb3; have e0 := (hc3 _ _ lb).trans cx; have e1 := (hc3 _ _ lw).trans c0; have e2 := (hc3 _ _ lw).trans c1; have e3 := (hc3 _ _ lw).trans c2; have ed := (hc3 _ _ hga).trans cd; have ef := (hf3 _ _ hga).trans fd; clear hc3 hf3)))
      have hn3 := ((Kit.own_below hown1.out ((Below.refl _ _).drew.trans hb3)).stored k (.int .i8 (heldZ x m s z lo hi))).1
      have hval : Value.int .i8 (heldZ x m s z lo hi) = L[k]'(by rw [HLL.out]; exact hlt) := by
        have hLo := HL.out
        subst hLo
        simp [HX.out]
      have hn4 : (w3.setCell ⟨g, k, none⟩ (.int .i8 (heldZ x m s z lo hi))).ownsRow (w.heap.size + 1) 22 1 (.slice (some ⟨g, 0, none⟩) zs.length zs.length) zs.length (Kit.filled L (.int .i8 0) (k + 1)) := by
        rw [← Kit.filled_set L _ (by rw [HLL.out]; exact hlt), ← hval]; exact hn3
      have hbn : Below (w.heap.size + 1) w2 (w3.setCell ⟨g, k, none⟩ (.int .i8 (heldZ x m s z lo hi))) :=
        (hb1.out.trans (((Below.refl _ _).drew.trans hb3).mono hszt)).setCell (by simp; omega) _
      have HN4 := Lib.hid hn4
      have HBN := Lib.hid hbn
      clear hn3 hval hn4 hbn hb3 e0 e1 e2 e3 ed ef cx c0 c1 c2 cd fd
      go_wp2
      go_roundw
      case rel => exact ⟨k + 1, by omega, by go_num, HN4, HBN⟩
      case measure => simp [intOf]; omega
    · have hke : k = zs.length := by omega
      have hfin : wr.ownsRow (w.heap.size + 1) 22 1 (.slice (some ⟨g, 0, none⟩) zs.length zs.length) zs.length L := by
        have := hown1.out
        rwa [Kit.filled_all L _ (by rw [HLL.out]; omega)] at this
      have HF := Lib.hid hfin
      clear hke hfin
      go_wp2_with fail
      go_ret
      exact ⟨_, rfl, Kit.own_base HF.out (by omega), ((Below.refl w.heap.size w).alloc (Nat.le_refl _) _).trans ((HB2.out.trans hb1.out).mono (by omega))⟩
end Go.Proofs.YtoghpoopgkahiaaGreatDoor.CFix
end
section
namespace Go.Proofs.YtoghpoopgkahiaaGreatDoor.CLower
open Go Go.ChangeShapes Go.WideShapes Go.ChangeAt Go.RowKit
open Plain CSat CShape CTensor CConv
set_option linter.unusedVariables false
theorem psum_eq (G : Nat → Int) : ∀ n, CGemm.psum G n = psum G n
  | 0 => rfl
  | n + 1 => by show CGemm.psum G n + G n = psum G n + G n; rw [psum_eq G n]
theorem psum_add (G : Nat → Int) (m : Nat) : ∀ k, psum G (m + k) = psum G m + psum (fun j => G (m + j)) k
  | 0 => by simp [psum]
  | k + 1 => by
    show psum G (m + k) + G (m + k) = psum G m + (psum (fun j => G (m + j)) k + G (m + k))
    rw [psum_add G m k]; omega
theorem psum_flat (G : Nat → Int) (b : Nat) : ∀ a, psum G (a * b) = psum (fun i => psum (fun j => G (i * b + j)) b) a
  | 0 => by simp [psum]
  | a + 1 => by
    rw [Nat.add_mul, Nat.one_mul, psum_add, psum_flat G b a]; rfl
theorem parts_of {wd d kk k2 r i j c : Nat} (hk2 : kk * kk = k2) (hwd : k2 * d = wd) (hi : i < kk) (hj : j < kk) (hc : c < d) :
    (i * kk + j) * d + c < wd ∧ (r * wd + ((i * kk + j) * d + c)) / wd = r ∧ (r * wd + ((i * kk + j) * d + c)) % wd = (i * kk + j) * d + c ∧ ((i * kk + j) * d + c) / d = i * kk + j ∧ ((i * kk + j) * d + c) % d = c ∧ (i * kk + j) / kk = i ∧ (i * kk + j) % kk = j := by
  have h1 : i * kk + j < kk * kk := by
    have := Nat.mul_le_mul_right kk (show i + 1 ≤ kk by omega)
    rw [Nat.add_mul, Nat.one_mul] at this; omega
  have h2 : (i * kk + j) * d + c < wd := by
    have := Nat.mul_le_mul_right d (show i * kk + j + 1 ≤ k2 by omega)
    rw [Nat.add_mul, Nat.one_mul, hwd] at this; omega
  have dm : ∀ (x m y : Nat), y < m → (x * m + y) / m = x ∧ (x * m + y) % m = y := fun x m y hy => by
    constructor
    · rw [Nat.mul_comm, Nat.mul_add_div (by omega), Nat.div_eq_of_lt hy]; rfl
    · rw [Nat.mul_comm, Nat.mul_add_mod, Nat.mod_eq_of_lt hy]
  exact ⟨h2, (dm r wd _ h2).1, (dm r wd _ h2).2, (dm _ d c hc).1, (dm _ d c hc).2, (dm i kk j hj).1, (dm i kk j hj).2⟩
theorem low_term (zs ws : List Int) (H W C S P Z : Int) (b kk d k2 wd r o i j c : Nat) (hk2 : kk * kk = k2) (hwd : k2 * d = wd) (hi : i < kk) (hj : j < kk) (hc : c < d) (hW : 0 ≤ W) (hC : C = (d : Int)) :
    CPatch.numF zs H W C S P Z b kk d wd (r * wd + ((i * kk + j) * d + c)) * ws.getD (o * wd + ((i * kk + j) * d + c)) 0 =
      if 0 ≤ ((r / b : Nat) : Int) * S - P + (i : Int) ∧ ((r / b : Nat) : Int) * S - P + (i : Int) < H ∧ 0 ≤ ((r % b : Nat) : Int) * S - P + (j : Int) ∧ ((r % b : Nat) : Int) * S - P + (j : Int) < W then
        termF zs ws (((((r / b : Nat) : Int) * S - P + (i : Int)) * W + (((r % b : Nat) : Int) * S - P + (j : Int))) * C).toNat (((o * kk + i) * kk + j) * d) Z c else 0 := by
  obtain ⟨h0, h1, h2, h3, h4, h5, h6⟩ := parts_of (r := r) hk2 hwd hi hj hc
  unfold CPatch.numF
  rw [h1, h2, h3, h4, h5, h6]
  split
  · rename_i hin
    unfold termF
    have e1 : ((((((r / b : Nat) : Int) * S - P + (i : Int)) * W + (((r % b : Nat) : Int) * S - P + (j : Int))) * C) + ((c : Nat) : Int)).toNat = (((((r / b : Nat) : Int) * S - P + (i : Int)) * W + (((r % b : Nat) : Int) * S - P + (j : Int))) * C).toNat + c := by
      have : 0 ≤ (((((r / b : Nat) : Int) * S - P + (i : Int)) * W + (((r % b : Nat) : Int) * S - P + (j : Int))) * C) :=
        Int.mul_nonneg (Int.add_nonneg (Int.mul_nonneg hin.1 hW) hin.2.2.1) (by omega)
      omega
    have e2 : o * wd + ((i * kk + j) * d + c) = ((o * kk + i) * kk + j) * d + c := by
      have h7 : (o * kk + i) * kk + j = o * (kk * kk) + (i * kk + j) := by rw [Nat.add_mul, Nat.mul_assoc]; omega
      rw [h7, Nat.add_mul (o * (kk * kk)), Nat.mul_assoc o, hk2, hwd]; omega
    rw [e1, e2, Int.mul_comm]
  · rw [Int.zero_mul]
/-- the sum of a row's products is the window's. -/
theorem low_sum (zs ws : List Int) (H W C S P Z : Int) (b kk d k2 wd r o : Nat) (hk2 : kk * kk = k2) (hwd : k2 * d = wd) (hW : 0 ≤ W) (hC : C = (d : Int)) :
    psum (fun k => CPatch.numF zs H W C S P Z b kk d wd (r * wd + k) * ws.getD (o * wd + k) 0) wd = winF zs ws H W C (((r / b : Nat) : Int) * S - P) (((r % b : Nat) : Int) * S - P) d kk o Z := by
  rw [show psum (fun k => CPatch.numF zs H W C S P Z b kk d wd (r * wd + k) * ws.getD (o * wd + k) 0) wd = psum (fun k => CPatch.numF zs H W C S P Z b kk d wd (r * wd + k) * ws.getD (o * wd + k) 0) ((kk * kk) * d) by rw [hk2, hwd], psum_flat, psum_flat]
  unfold winF
  refine psum_congr fun i hi => ?_
  unfold rowF
  refine psum_congr fun j hj => ?_
  unfold placeF
  split
  · rename_i hin
    refine psum_congr fun c hc => ?_
    rw [low_term zs ws H W C S P Z b kk d k2 wd r o i j c hk2 hwd hi hj hc hW hC, if_pos hin]
  · rename_i hin
    refine psum_zero fun c hc => ?_
    rw [low_term zs ws H W C S P Z b kk d k2 wd r o i j c hk2 hwd hi hj hc hW hC, if_neg hin]
/-- a product, and the bias of its channel, is the sum. -/
theorem low_num (zs ws bs : List Int) (H W C S P Z : Int) (b kk d k2 wd oo N1 NN : Nat) (hk2 : kk * kk = k2) (hwd : k2 * d = wd) (hW : 0 ≤ W) (hC : C = (d : Int)) (hNN : N1 * wd = NN) (F : Nat → Int) (hF : F = CPatch.numF zs H W C S P Z b kk d wd)
    (i : Nat) (hi : i < N1 * oo) : IntKind.i32.wrap (CGemm.mulF (CPatch.listF F NN) ws wd oo i + bs.getD (i % oo) 0) = gridF b oo (sumF zs ws bs H W C S P d kk Z) i := by
  have hoo : 0 < oo := by
    rcases Nat.eq_zero_or_pos oo with h | h
    · subst h; omega
    · exact h
  have hr : i / oo < N1 := Nat.div_lt_of_lt_mul (by rw [Nat.mul_comm]; exact hi)
  unfold CGemm.mulF gridF sumF
  rw [psum_eq, wrap32_add, ← low_sum zs ws H W C S P Z b kk d k2 wd (i / oo) (i % oo) hk2 hwd hW hC]
  congr 1
  rw [Int.add_comm]
  congr 1
  refine psum_congr fun k hk => ?_
  congr 1
  rw [List.getD_eq_getElem?_getD, CPatch.listF_at F (by
    have := Nat.mul_le_mul_right wd (show i / oo + 1 ≤ N1 by omega)
    rw [Nat.add_mul, Nat.one_mul, hNN] at this; omega), hF]
  rfl
/-- the first t numbers of one rule, the others of another one. -/
def mixF (T M : Nat → Int) (t i : Nat) : Int := if i < t then T i else M i
theorem mix_set (T M : Nat → Int) {N t : Nat} (ht : t < N) : (CGemm.rowL (mixF T M t) N).set t (T t) = CGemm.rowL (mixF T M (t + 1)) N := by
  refine CGemm.eq_rowL (by simp [CGemm.rowL_len]) fun i hi => ?_
  rw [List.getElem?_set]
  by_cases e : t = i
  · subst e
    rw [if_pos rfl, if_pos (by rw [CGemm.rowL_len]; exact hi)]
    unfold mixF; rw [if_pos (by omega)]
  · rw [if_neg e, CGemm.rowL_at _ hi]
    unfold mixF
    by_cases h : i < t
    · rw [if_pos h, if_pos (by omega)]
    · rw [if_neg h, if_neg (by omega)]
theorem mix_at (T M : Nat → Int) {N t : Nat} (ht : t < N) : (CGemm.rowL (mixF T M t) N)[t]? = some (M t) := by
  rw [CGemm.rowL_at _ ht]; unfold mixF; rw [if_neg (by omega)]
end Go.Proofs.YtoghpoopgkahiaaGreatDoor.CLower
end
section
namespace Go.Proofs.YtoghpoopgkahiaaGreatDoor.CTensor
open Go Go.ChangeShapes Go.WideShapes Go.ChangeAt Go.RowKit
open Plain CSat CShape
set_option linter.unusedVariables false
/-- two tensors of one shape and of as many numbers. -/
theorem refSame_to (H W C : Int) (A B : Option Addr) (xs ys : List Int) (n c d : Nat) (hx : xs.length = n) (hy : ys.length = n) (hl : n ≤ 1000000) (b : Bool) (hb : decide (xs = ys) = b) (w : World) {B1 B2 : Nat} (h1 : B1 ≤ w.heap.size) (h2 : B2 ≤ w.heap.size) (ha : Kit.Rd w B1 A (xs.map (.int .i8))) (hbb : Kit.Rd w B2 B (ys.map (.int .i8))) :
    Calls Tryz.prog 12 #[.agg #[.int .i64 H, .int .i64 W, .int .i64 C, .slice A n c], .agg #[.int .i64 H, .int .i64 W, .int .i64 C, .slice B n d]] w fun e w' => e = .returned (.bool b) ∧ Below w.heap.size w w' := by
  have HA := Lib.hid ((ha.alloc h1 (.cells #[.int .i64 H, .int .i64 W, .int .i64 C, .slice A n c] 32)).alloc (by simp; omega) (.cells #[.int .i64 H, .int .i64 W, .int .i64 C, .slice B n d] 32))
  have HB := Lib.hid ((hbb.alloc h2 (.cells #[.int .i64 H, .int .i64 W, .int .i64 C, .slice A n c] 32)).alloc (by simp; omega) (.cells #[.int .i64 H, .int .i64 W, .int .i64 C, .slice B n d] 32))
  have HX := Lib.hid hx
  have HY := Lib.hid hy
  have HBB := Lib.hid hb
  clear ha hbb hx hy hb
  have HE := eqShape H W C H W C
  have hg := Tryz.eqGuardType30
  go_enter Tryz.func12, Tryz.ntmps12
  go_wp2_with fail
  have HBW : Hid (Below w.heap.size w ((w.alloc (.cells #[.int .i64 H, .int .i64 W, .int .i64 C, .slice A n c] 32)).alloc (.cells #[.int .i64 H, .int .i64 W, .int .i64 C, .slice B n d] 32))) := Lib.hid (((Below.refl _ _).alloc (Nat.le_refl _) _).alloc (by simp) _)
  have hca : ((w.alloc (.cells #[.int .i64 H, .int .i64 W, .int .i64 C, .slice A n c] 32)).alloc (.cells #[.int .i64 H, .int .i64 W, .int .i64 C, .slice B n d] 32)).cell? ⟨w.heap.size, 3, none⟩ = some (.slice A n c) := by
    rw [World.cell?_alloc_lt _ _ _ (by simp)]; exact Kit.new_cell _ _ _ _
  have hcb : ((w.alloc (.cells #[.int .i64 H, .int .i64 W, .int .i64 C, .slice A n c] 32)).alloc (.cells #[.int .i64 H, .int .i64 W, .int .i64 C, .slice B n d] 32)).cell? ⟨w.heap.size + 1, 3, none⟩ = some (.slice B n d) := by
    have hcb := Kit.new_cell (w.alloc (.cells #[.int .i64 H, .int .i64 W, .int .i64 C, .slice A n c] 32)) #[.int .i64 H, .int .i64 W, .int .i64 C, .slice B n d] 32 3
    rw [World.size_alloc] at hcb; exact hcb
  generalize ((w.alloc (.cells #[.int .i64 H, .int .i64 W, .int .i64 C, .slice A n c] 32)).alloc (.cells #[.int .i64 H, .int .i64 W, .int .i64 C, .slice B n d] 32)) = W1 at HA HB HBW hca hcb ⊢
  go_loopw [5] (fun i wr => ∃ k nq : Nat, k ≤ n ∧ i = .int .i64 k ∧ Hid (xs.take k = ys.take k) ∧ Hid (wr = W1.drewN nq)) (fun i _ => n - (intOf i).toNat)
  case atStart => exact ⟨0, 0, Nat.zero_le _, rfl, Lib.hid (by simp), Lib.hid rfl⟩
  case round =>
    obtain ⟨k, nq, hk, rfl, ht, hw⟩ := hrel
    obtain rfl := hw.out
    clear hw
    by_cases hlt : k < n
    · have hx1 : k < xs.length := by have := HX.out; omega
      have hy1 : k < ys.length := by have := HY.out; omega
      obtain ⟨b1, off1, rfl, _, hcx⟩ := HA.out.ints hx1
      obtain ⟨b2, off2, rfl, _, hcy⟩ := HB.out.ints hy1
      have hd := differ hx1 hy1
      have htk : xs[k] = ys[k] → xs.take (k + 1) = ys.take (k + 1) := fun e => by
        rw [List.take_succ_eq_append_getElem hx1, List.take_succ_eq_append_getElem hy1, ht.out, e]
      have HD := Lib.hid hd
      have HT := Lib.hid htk
      clear hd htk
      by_cases he : xs[k] = ys[k]
      · have HTK := Lib.hid (HT.out he)
        rw [← he] at hcy
        clear HD HT he
        generalize xs[k] = x at hcx hcy
        have h0 : (0 : Int) ≤ (k : Int) := by omega
        have h1 : (k : Int) < (n : Int) := by omega
        go_wp2_with fail
        go_quiet (fail)
        go_wp2
        go_roundw
        case rel => exact ⟨k + 1, _, by omega, by go_num, HTK, Lib.hid rfl⟩
        case measure => simp [intOf]; omega
      · have hF := HD.out he
        have hbf : b = false := by rw [← HBB.out, hF]
        subst hbf
        clear HD HT hF
        generalize xs[k] = x at hcx he
        generalize ys[k] = y at hcy he
        have hne : (x != y) = true := by simpa using he
        have h0 : (0 : Int) ≤ (k : Int) := by omega
        have h1 : (k : Int) < (n : Int) := by omega
        go_wp2_with fail
        go_quiet (fail)
        go_wp2
        go_ret
        exact ⟨rfl, Kit.below_drewN (Kit.below_drewN HBW.out _) _⟩
    · have hke : k = n := by omega
      have hbt : b = true := by
        rw [← HBB.out]
        have := ht.out
        rw [hke, List.take_of_length_le (by have := HX.out; omega), List.take_of_length_le (by have := HY.out; omega)] at this
        simp [this]
      subst hbt
      go_wp2_with fail
      go_ret
      exact ⟨rfl, Kit.below_drewN HBW.out _⟩
end Go.Proofs.YtoghpoopgkahiaaGreatDoor.CTensor
end
section
namespace Go.Proofs.YtoghpoopgkahiaaGreatDoor.CAct
set_option maxRecDepth 100000
open Go Go.ChangeShapes Go.WideShapes Go.ChangeAt Go.RowKit Go.Deep
open Plain CSat CFix CShape CTensor CConv
set_option linter.unusedVariables false
/-- the limits of a node's numbers. -/
def NBd (Z Y m1 z1 m2 z2 lo hi : Int) : Prop := (-128 ≤ Z ∧ Z ≤ 127) ∧ (-128 ≤ Y ∧ Y ≤ 127) ∧ (-2147483648 ≤ m1 ∧ m1 ≤ 2147483647) ∧ (-128 ≤ z1 ∧ z1 ≤ 127) ∧ (-2147483648 ≤ m2 ∧ m2 ≤ 2147483647) ∧ (-128 ≤ z2 ∧ z2 ≤ 127) ∧ (-128 ≤ lo ∧ lo ≤ 127) ∧ (-128 ≤ hi ∧ hi ≤ 127)
set_option maxRecDepth 100000 in
set_option maxHeartbeats 4000000 in
theorem aone_to (x : Int) (hx1 : -128 ≤ x) (hx2 : x ≤ 127) (x0 x1 x2 : Value) (K S P O Z Y : Int) (WA BA : Option Addr) (nW cW nB cB : Nat) (m1 s1 z1 m2 s2 z2 lo hi : Int) (hnb : NBd Z Y m1 z1 m2 z2 lo hi) (R : Int) (hR : heldZ (x - Z) m1 s1 z1 lo hi = R) (w : World) :
    Calls Tryz.prog 62 #[.int .i8 x, .agg #[x0, x1, x2, .int .i64 K, .int .i64 S, .int .i64 P, .int .i64 O, .int .i8 Z, .int .i8 Y, .slice WA nW cW, .slice BA nB cB, .int .i32 m1, .int .i64 s1, .int .i8 z1, .int .i32 m2, .int .i64 s2, .int .i8 z2, .int .i8 lo, .int .i8 hi]] w fun e w' => e = .returned (.int .i8 R) ∧ Below w.heap.size w w' := by
  obtain ⟨⟨hZ1, hZ2⟩, -, ⟨hm3, hm1⟩, ⟨hz1, hz2⟩, -, -, ⟨hl1, hl2⟩, ⟨hh1, hh2⟩⟩ := hnb
  have e1 : IntKind.i32.wrap x = x := IntWalk.i32_in _ (by omega)
  have e2 : IntKind.i32.wrap Z = Z := IntWalk.i32_in _ (by omega)
  have e3 : IntKind.i32.wrap (x - Z) = x - Z := IntWalk.i32_in _ (by omega)
  have hal : Below w.heap.size w (w.alloc (.cells #[x0, x1, x2, .int .i64 K, .int .i64 S, .int .i64 P, .int .i64 O, .int .i8 Z, .int .i8 Y, .slice WA nW cW, .slice BA nB cB, .int .i32 m1, .int .i64 s1, .int .i8 z1, .int .i32 m2, .int .i64 s2, .int .i8 z2, .int .i8 lo, .int .i8 hi] 28)) := (Below.refl _ _).alloc (Nat.le_refl _) _
  have HAL := Lib.hid hal
  have HR := Lib.hid hR
  have TN := NodeAt.new x0 x1 x2 (.int .i8 Y) (.int .i32 m1) (.int .i64 s1) (.int .i8 z1) (.int .i32 m2) (.int .i64 s2) (.int .i8 z2) (.int .i8 lo) (.int .i8 hi) K S P O Z WA BA nW cW nB cB 28 w
  clear hal hR
  go_enter Tryz.func62, Tryz.ntmps62
  have n7 := TN.at 7 _ rfl
  have n11 := TN.at 11 _ rfl
  have n12 := TN.at 12 _ rfl
  have n13 := TN.at 13 _ rfl
  have n17 := TN.at 17 _ rfl
  have n18 := TN.at 18 _ rfl
  clear TN
  go_wp2_with (go_at_call 107; (refine (held _ _ _ _ _ _ (by omega) (by omega) hm3 hm1 hz1 hz2 hl1 hl2 hh1 hh2 _).mono ?_); rintro e w1 ⟨rfl, hb⟩)
  go_ret
  exact ⟨congrArg (fun z => Ending.returned (.int .i8 z)) HR.out, HAL.out.trans (hb.mono HAL.out.size)⟩
theorem isRight_to (m s z : Int) (w : World) : Calls Tryz.prog 50 #[.agg #[.int .i32 m, .int .i64 s, .int .i8 z]] w fun e w' => e = .returned (.bool (rightB m s)) ∧ Below w.heap.size w w' := by
  cases h : rightB m s
  · exact isRight_no m s z h w
  · exact isRight_yes m s z h w
end Go.Proofs.YtoghpoopgkahiaaGreatDoor.CAct
end
section
namespace Go.Proofs.YtoghpoopgkahiaaGreatDoor.CTensor
set_option maxRecDepth 100000
open Go Go.ChangeShapes Go.WideShapes Go.ChangeAt Go.RowKit
open Plain CSat CShape
set_option linter.unusedVariables false
theorem flat_tens {H W C m : Int} {n : Nat} {b : Bool} (hm : elemsZ H W C = m) (hb : tensB H W C n = b) : tensB 1 1 m n = b := by
  cases hr : shapeB H W C
  · rw [elemsZ_no hr] at hm
    subst hm hb
    have h0 : shapeB 1 1 0 = false := by decide
    simp [tensB, hr, h0]
  · rw [elemsZ_yes hr] at hm
    have hs := hr
    simp only [shapeB, decide_eq_true_eq] at hs
    obtain ⟨h1, h2, h3, h4, h5, h6, h7⟩ := hs
    have := prod_bd h1 h2 h3 h4 h5 h6
    have hs1 : shapeB 1 1 m = true := by simp [shapeB]; omega
    rw [← hb]
    simp only [tensB, hr, hs1, Bool.true_and]
    rw [hm]; simp
theorem flat_yes (H W C : Int) (A : Option Addr) (zs : List Int) (n c : Nat) (hn : zs.length = n) (hl : n ≤ 1000000) (ht : tensB H W C n = true) {B : Nat} (w : World) (hB : B ≤ w.heap.size) (hr : Kit.Rd w B A (zs.map (.int .i8))) :
    Calls Tryz.prog 23 #[.agg #[.int .i64 H, .int .i64 W, .int .i64 C, .slice A n c]] w (Made w 1 1 n n zs (.int .i64 0)) := by
  have hm : elemsZ H W C = (n : Int) := by
    simp only [tensB, Bool.and_eq_true, decide_eq_true_eq] at ht
    rw [elemsZ_yes ht.1]; exact ht.2.symm
  have HN := Lib.hid hn
  have HR := Lib.hid hr
  have HT := Lib.hid (flat_tens hm ht)
  have HM := Lib.hid hm
  clear hn hr ht hm
  go_enter Tryz.func23, Tryz.ntmps23
  go_wp2_with fail
  have hbox : BoxAt w.heap.size H W C A n c ((w.alloc (.cells #[.int .i64 H, .int .i64 W, .int .i64 C, .slice A n c] 32)).alloc (.cells #[.int .i64 0, .int .i64 0, .int .i64 0, .slice none 0 0] 32)).drew :=
    (BoxAt.new H W C A n c 32 w).below (Nat.lt_succ_self _) (((Below.refl _ _).alloc (by simp) _))
  have HFR : Hid (FreshT (w.heap.size + 1) ((w.alloc (.cells #[.int .i64 H, .int .i64 W, .int .i64 C, .slice A n c] 32)).alloc (.cells #[.int .i64 0, .int .i64 0, .int .i64 0, .slice none 0 0] 32)).drew) := Lib.hid (FreshT.new _ _ _ (by simp))
  have HB : Hid (Below w.heap.size w ((w.alloc (.cells #[.int .i64 H, .int .i64 W, .int .i64 C, .slice A n c] 32)).alloc (.cells #[.int .i64 0, .int .i64 0, .int .i64 0, .slice none 0 0] 32)).drew) := Lib.hid (((Below.refl _ _).alloc (Nat.le_refl _) _).alloc (by simp) _).drew
  have hz : w.heap.size + 2 ≤ ((w.alloc (.cells #[.int .i64 H, .int .i64 W, .int .i64 C, .slice A n c] 32)).alloc (.cells #[.int .i64 0, .int .i64 0, .int .i64 0, .slice none 0 0] 32)).drew.heap.size := by simp
  refine wp_region_held_drew (S := BoxAt w.heap.size H W C A n c) (by kernel_rfl) hbox (fun hHeld => ?_)
  clear hbox
  generalize ((w.alloc (.cells #[.int .i64 H, .int .i64 W, .int .i64 C, .slice A n c] 32)).alloc (.cells #[.int .i64 0, .int .i64 0, .int .i64 0, .slice none 0 0] 32)).drew = W1 at HFR HB hz hHeld ⊢
  refine Tk.y 0 (v := ?_) rfl ?_ ?_
  rotate_left
  · intro wS hSw
    obtain ⟨s1, s2, s3, s4⟩ := hSw
    first | (go_simp; done) | (go_simp; with_reducible rfl)
  try simp only [Tk.put]
  refine Tk.y 1 (v := ?_) rfl ?_ ?_
  rotate_left
  · intro wS hSw
    obtain ⟨s1, s2, s3, s4⟩ := hSw
    first | (go_simp; done) | (go_simp; with_reducible rfl)
  try simp only [Tk.put]
  refine Tk.y 4 (v := ?_) rfl ?_ ?_
  rotate_left
  · intro wS hSw
    obtain ⟨s1, s2, s3, s4⟩ := hSw
    first | (go_simp; done) | (go_simp; with_reducible rfl)
  try simp only [Tk.put]
  refine Tk.y 5 (v := ?_) rfl ?_ ?_
  rotate_left
  · intro wS hSw
    obtain ⟨s1, s2, s3, s4⟩ := hSw
    first | (go_simp; done) | (go_simp; with_reducible rfl)
  try simp only [Tk.put]
  refine Tk.s 2 rfl (fun K hK => ?_)
  go_simp
  go_at_call 52
  refine (elems_to H W C (n : Int) HM.out _).mono ?_
  rintro e w1 ⟨rfl, hb⟩
  have hS1 := hHeld.below (B' := _) (by omega) hb
  replace HFR := Lib.hid (HFR.out.below (B' := _) (by omega) hb)
  replace HB := Lib.hid (HB.out.trans (hb.mono (by omega)))
  replace hz := Nat.le_trans hz hb.size
  clear hHeld
  clear hb
  dsimp only
  refine hK.out _ _ ?_ (fun hHeld => ?_)
  · exact hS1
  clear hK K
  try simp only [Tk.put]
  refine Tk.x 3 rfl ?_
  try simp only [Tk.put]
  refine Tk.s 6 rfl (fun K hK => ?_)
  go_simp
  go_at_call 67
  refine (of_yes 1 1 n A zs n c HN.out hl HT.out (B := B) _ (by omega) (HR.out.below (HB.out.mono hB))).mono ?_
  rintro e w2 ⟨v2, rfl, ho2, hb⟩
  obtain ⟨A2, c2, rfl, _, _, _⟩ := Kit.own_rd ho2
  have HO := Lib.hid (Kit.own_base ho2 (show w.heap.size + 2 ≤ w1.heap.size by omega))
  have hS1 := hHeld.below (B' := _) (by omega) hb
  replace HFR := Lib.hid (HFR.out.below (B' := _) (by omega) hb)
  replace HB := Lib.hid (HB.out.trans (hb.mono (by omega)))
  replace hz := Nat.le_trans hz hb.size
  clear hHeld
  clear hb ho2
  obtain ⟨⟨z0, z1, z2, z3⟩, z4, z5, z6, z7⟩ := HFR.out
  dsimp only
  refine hK.out _ _ ?_ (fun hHeld => ?_)
  · exact hS1
  clear hK K
  try simp only [Tk.put]
  refine Tk.x 7 rfl ?_
  try simp only [Tk.put]
  refine Tk.x 8 rfl ?_
  try simp only [Tk.put]
  refine Tk.s 9 rfl (fun K hK => ?_)
  go_simp
  refine hK.out _ _ ?_ (fun hHeld => ?_)
  · exact hHeld.stores (by omega) _ _ _ _
  clear hK K
  try simp only [Tk.put]
  refine Tk.x 10 rfl ?_
  try simp only [Tk.put]
  refine wpAnyH_done (by kernel_rfl) ?_ _
  go_wp2_with fail
  refine bodyPost_ret (Kit.results_ct rfl _ _ (w.heap.size + 1) 0 [.int .i64 1, .int .i64 1, .int .i64 n, .slice A2 n c2] _ rfl (range_4 (by go_cell) (by go_cell) (by go_cell) (by go_cell)) Tryz.underlying32 rfl (by kernel_rfl)) rfl ?_
  refine ⟨_, rfl, Kit.own_base (own_set (own_set (own_set (own_set HO.out _ _ ?_) _ _ ?_) _ _ ?_) _ _ ?_) ?_, ?_⟩
  any_goals (first | omega | (simp; done) | (simp; omega))
  exact ((((HB.out.setCell (p := ⟨w.heap.size + 1, 0, none⟩) (by simp) _).setCell (p := ⟨w.heap.size + 1, 1, none⟩) (by simp) _).setCell (p := ⟨w.heap.size + 1, 2, none⟩) (by simp) _).setCell (p := ⟨w.heap.size + 1, 3, none⟩) (by simp) _)
end Go.Proofs.YtoghpoopgkahiaaGreatDoor.CTensor
end
