/- Texts of this seat, one behind the other: KindNd, LaneNum, TensorOf, TensorAt2. -/
import Derived.Deep.CutRange
import Derived.Handy
import Derived.Test.YtoghpoopgkahiaaGreatDoorGA8
import Derived.Test.YtoghpoopgkahiaaGreatDoorGA9
import Derived.Test.YtoghpoopgkahiaaGreatDoorGA13
section
namespace Go.Proofs.YtoghpoopgkahiaaGreatDoor.CKind
open Go Go.ChangeShapes Go.WideShapes Go.ChangeAt Go.RowKit Go.Deep
open Plain CSat CShape CTensor CConv
set_option linter.unusedVariables false
/-- the fields of a node. -/
structure Nd where
  (kd na nb K S P O Z Y : Int)
  (WA : Option Addr)
  (nW cW : Nat)
  (BA : Option Addr)
  (nB cB : Nat)
  (m1 s1 z1 m2 s2 z2 lo hi : Int)
def Nd.val (x : Nd) : Array Value := #[.int .i64 x.kd, .int .i64 x.na, .int .i64 x.nb, .int .i64 x.K, .int .i64 x.S, .int .i64 x.P, .int .i64 x.O, .int .i8 x.Z, .int .i8 x.Y, .slice x.WA x.nW x.cW, .slice x.BA x.nB x.cB, .int .i32 x.m1, .int .i64 x.s1, .int .i8 x.z1, .int .i32 x.m2, .int .i64 x.s2, .int .i8 x.z2, .int .i8 x.lo, .int .i8 x.hi]
def scaledB (k : Int) : Bool := k == 1 || k == 2 || k == 3 || k == 6 || k == 7
def sumsB (k : Int) : Bool := k == 1 || k == 2 || k == 3
def slidesB (k : Int) : Bool := k == 1 || k == 2 || k == 4 || k == 5
/-- is something told that a kind does not tell? -/
def Nd.moreB (x : Nd) : Bool :=
  (!sumsB x.kd && (decide (0 < x.nW) || decide (0 < x.nB))) || (x.kd != 1 && x.kd != 3 && x.O != 0) || (!slidesB x.kd && (x.K != 0 || x.S != 0)) || (!slidesB x.kd && x.kd != 8 && x.P != 0) ||
  (x.kd != 6 && (x.nb != 0 || x.Y != 0 || x.m2 != 0 || x.s2 != 0)) || x.z2 != 0 || (!scaledB x.kd && (x.m1 != 0 || x.s1 != 0 || x.z1 != 0 || x.lo != 0 || x.hi != 0)) || (!scaledB x.kd && x.kd != 8 && x.Z != 0)
/-- the box of a node. -/
def NdAt (g : Nat) (x : Nd) (w : World) : Prop := w.rangeAt g 0 x.val.toList
theorem NdAt.at {g : Nat} {x : Nd} {w : World} (h : NdAt g x w) (i : Nat) (v : Value) (hi : x.val.toList[i]? = some v) : w.cell? ⟨g, i, none⟩ = some v := by
  have := h i v hi
  rwa [Nat.zero_add] at this
theorem NdAt.below {g B : Nat} {x : Nd} {w w' : World} (h : NdAt g x w) (hB : g < B) (hb : Below B w w') : NdAt g x w' := fun j v hj => (hb.cell (p := ⟨g, 0 + j, none⟩) hB).trans (h j v hj)
theorem NdAt.new (x : Nd) (T : TypeId) (w : World) : NdAt w.heap.size x (w.alloc (.cells x.val T)) := fun j v hj => by
  rw [Nat.zero_add, Kit.new_cell]
  simpa using hj
end Go.Proofs.YtoghpoopgkahiaaGreatDoor.CKind
end
section
namespace Go.Proofs.YtoghpoopgkahiaaGreatDoor.CLane
open Go Go.ChangeShapes Go.WideShapes Go.ChangeAt Go.RowKit
open Plain CSat CShape CTensor CConv FloatNum CFour CWheel
set_option linter.unusedVariables false
theorem psum_sumN (G : Nat → Int) : ∀ n, psum G n = sumN G n
  | 0 => rfl
  | n + 1 => by show psum G n + G n = sumN G n + G n; rw [psum_sumN G n]
theorem sumN_add (f : Nat → Int) (n : Nat) : ∀ m, sumN f (n + m) = sumN f n + sumN (fun k => f (n + k)) m
  | 0 => by simp [sumN]
  | m + 1 => by
    show sumN f (n + m) + f (n + m) = sumN f n + (sumN (fun k => f (n + k)) m + f (n + m))
    rw [sumN_add f n m]; omega
theorem sumN_three (f g h : Nat → Int) : ∀ n, sumN (fun k => f k + g k + h k) n = sumN f n + sumN g n + sumN h n
  | 0 => rfl
  | n + 1 => by
    show sumN (fun k => f k + g k + h k) n + (f n + g n + h n) = (sumN f n + f n) + (sumN g n + g n) + (sumN h n + h n)
    rw [sumN_three f g h n]; omega
theorem sumN_zero {f : Nat → Int} {n : Nat} (h : ∀ k, k < n → f k = 0) : sumN f n = 0 := by
  rw [sumN_congr h]
  clear h
  induction n with
  | zero => rfl
  | succ n ih => show sumN (fun _ => 0) n + 0 = 0; rw [ih]; rfl
/-- a row of numbers of one channel, with nothing on both sides. -/
def laneF (zs : List Int) (Z : Int) (st d pp Wn c x : Nat) : Int := if pp ≤ x ∧ x < pp + Wn then zs.getD (st + (x - pp) * d + c) 0 - Z else 0
def laneRow (zs : List Int) (Z : Int) (st d pp Wn M c : Nat) : List Int := nums (laneF zs Z st d pp Wn c) M
def laneRows (zs : List Int) (Z : Int) (st d pp Wn M k : Nat) : List (List Int) := (List.range k).map (laneRow zs Z st d pp Wn M)
def lanePs (p k : Nat) : List Int := (List.range k).map (fun c => ((p + c : Nat) : Int))
theorem laneRows_succ (zs : List Int) (Z : Int) (st d pp Wn M k : Nat) : laneRows zs Z st d pp Wn M (k + 1) = laneRows zs Z st d pp Wn M k ++ [laneRow zs Z st d pp Wn M k] := by simp [laneRows, List.range_succ]
theorem lanePs_succ (p k : Nat) : lanePs p (k + 1) = lanePs p k ++ [((p + k : Nat) : Int)] := by simp [lanePs, List.range_succ]
theorem laneRows_len (zs : List Int) (Z : Int) (st d pp Wn M k : Nat) : (laneRows zs Z st d pp Wn M k).length = k := by simp [laneRows]
theorem lanePs_len (p k : Nat) : (lanePs p k).length = k := by simp [lanePs]
theorem laneRows_at (zs : List Int) (Z : Int) {st d pp Wn M k c : Nat} (h : c < k) : (laneRows zs Z st d pp Wn M k).getD c [] = laneRow zs Z st d pp Wn M c := by
  rw [List.getD_eq_getElem?_getD]; simp [laneRows, h]
theorem lanePs_at {p k c : Nat} (h : c < k) : (lanePs p k).getD c 0 = ((p + c : Nat) : Int) := by
  rw [List.getD_eq_getElem?_getD]; simp [lanePs, h]
/-- the rows that windows reach from a row on, the first k of three. -/
def rowsTo (zs : List Int) (Z H W C top : Int) (d pp Wn M : Nat) : Nat → List (List Int)
  | 0 => []
  | i + 1 => rowsTo zs Z H W C top d pp Wn M i ++ (if 0 ≤ top + (i : Int) ∧ top + (i : Int) < H then laneRows zs Z ((top + (i : Int)) * W * C).toNat d pp Wn M d else [])
def psTo (H top : Int) (d : Nat) : Nat → List Int
  | 0 => []
  | i + 1 => psTo H top d i ++ (if 0 ≤ top + (i : Int) ∧ top + (i : Int) < H then lanePs (i * 3 * d) d else [])
theorem len_to (zs : List Int) (Z H W C top : Int) (d pp Wn M : Nat) : ∀ i, (rowsTo zs Z H W C top d pp Wn M i).length = (psTo H top d i).length
  | 0 => rfl
  | i + 1 => by
    unfold rowsTo psTo
    rw [List.length_append, List.length_append, len_to zs Z H W C top d pp Wn M i]
    split
    · rw [laneRows_len, lanePs_len]
    · rfl
theorem mem_rows (zs : List Int) (Z H W C top : Int) (d pp Wn M : Nat) : ∀ i row, row ∈ rowsTo zs Z H W C top d pp Wn M i → ∃ st c, row = laneRow zs Z st d pp Wn M c
  | 0, row, h => by cases h
  | i + 1, row, h => by
    unfold rowsTo at h
    rcases List.mem_append.1 h with h | h
    · exact mem_rows zs Z H W C top d pp Wn M i row h
    · split at h
      · obtain ⟨c, _, rfl⟩ := List.mem_map.1 h
        exact ⟨_, c, rfl⟩
      · cases h
theorem lane_in {zs : List Int} (hz : I8b zs) {Z : Int} (z1 : -128 ≤ Z) (z2 : Z ≤ 127) (st d pp Wn c x : Nat) : -255 ≤ laneF zs Z st d pp Wn c x ∧ laneF zs Z st d pp Wn c x ≤ 255 := by
  unfold laneF
  split
  · have := hz (st + (x - pp) * d + c); omega
  · omega
theorem rows_in {zs : List Int} (hz : I8b zs) {Z : Int} (z1 : -128 ≤ Z) (z2 : Z ≤ 127) (H W C top : Int) (d pp Wn M i : Nat) : ∀ row ∈ rowsTo zs Z H W C top d pp Wn M i, ∀ v ∈ row, (Lit.int .i16 v).wf = true := by
  intro row hr v hv
  obtain ⟨st, c, rfl⟩ := mem_rows zs Z H W C top d pp Wn M i row hr
  obtain ⟨x, _, rfl⟩ := List.mem_map.1 hv
  have := lane_in hz z1 z2 st d pp Wn c x
  exact WalkArith.wf_i16 (by omega)
theorem rows_len (zs : List Int) (Z H W C top : Int) (d pp Wn M i : Nat) : ∀ row ∈ rowsTo zs Z H W C top d pp Wn M i, row.length = M := by
  intro row hr
  obtain ⟨st, c, rfl⟩ := mem_rows zs Z H W C top d pp Wn M i row hr
  exact nums_len _ _
theorem len_if (zs : List Int) (Z H W C top : Int) (d pp Wn M i : Nat) : (rowsTo zs Z H W C top d pp Wn M (i + 1)).length = (rowsTo zs Z H W C top d pp Wn M i).length + (if 0 ≤ top + (i : Int) ∧ top + (i : Int) < H then d else 0) := by
  show (rowsTo zs Z H W C top d pp Wn M i ++ _).length = _
  rw [List.length_append]
  split
  · rw [laneRows_len]
  · rfl
theorem rows_many {zs : List Int} {Z H W C top : Int} {d pp Wn M : Nat} (hs : shapeB H W C = true) (hd : C = (d : Int)) (hp : pp ≤ 2) (t1 : -(pp : Int) ≤ top) (t2 : top ≤ H + (pp : Int) - 3) :
    1 ≤ (rowsTo zs Z H W C top d pp Wn M 3).length ∧ (rowsTo zs Z H W C top d pp Wn M 3).length ≤ 1024 := by
  obtain ⟨g1, g2, g3, g4, g5, g6, g7⟩ := shapeB_yes hs
  have hHC : H * (d : Int) ≤ 1024 := by
    have h1 : H * 1 * (d : Int) ≤ H * W * C := by
      rw [← hd]
      exact Int.mul_le_mul_of_nonneg_right (Int.mul_le_mul_of_nonneg_left g3 (by omega)) (by omega)
    rw [Int.mul_one] at h1; omega
  have hd1 : 1 ≤ d := by omega
  rw [len_if, len_if, len_if]
  show 1 ≤ 0 + _ + _ + _ ∧ 0 + _ + _ + _ ≤ 1024
  rw [show (((0 : Nat) : Nat) : Int) = 0 from rfl, show (((1 : Nat) : Nat) : Int) = 1 from rfl, show (((2 : Nat) : Nat) : Int) = 2 from rfl]
  rcases (show H = 1 ∨ H = 2 ∨ 3 ≤ H by omega) with rfl | rfl | h3
  · constructor
    · split <;> split <;> split <;> omega
    · split <;> split <;> split <;> omega
  · constructor
    · split <;> split <;> split <;> omega
    · split <;> split <;> split <;> omega
  · have h4 : 3 * (d : Int) ≤ H * (d : Int) := Int.mul_le_mul_of_nonneg_right h3 (by omega)
    constructor
    · split <;> split <;> split <;> omega
    · split <;> split <;> split <;> omega
/-! ### the sums -/
def wAt (ws : List Int) (base d : Nat) (p : Int) (j : Nat) : Int := ws.getD (base + p.toNat + j * d) 0
def Wl (ws : List Int) (base d : Nat) (ps : List Int) (k j : Nat) : Int := wAt ws base d (ps.getD k 0) j
theorem Wl_in {ws : List Int} (h : I8b ws) (base d : Nat) (ps : List Int) (k j : Nat) : InW (Wl ws base d ps k j) := h _
def tot (ws : List Int) (base d : Nat) (rows : List (List Int)) (ps : List Int) (v : Nat) : Int := sumN (fun k => slAt (XR rows k) (Wl ws base d ps k) v) rows.length
theorem tot_mn (ws : List Int) (base d : Nat) (rows : List (List Int)) (ps : List Int) (v : Nat) : mnAt (XR rows) (Wl ws base d ps) rows.length v = tot ws base d rows ps v := rfl
theorem tot_append (ws : List Int) (base d : Nat) (rows r2 : List (List Int)) (ps p2 : List Int) (h : rows.length = ps.length) (v : Nat) : tot ws base d (rows ++ r2) (ps ++ p2) v = tot ws base d rows ps v + tot ws base d r2 p2 v := by
  unfold tot
  rw [List.length_append, sumN_add]
  congr 1
  · refine sumN_congr fun k hk => ?_
    have e1 : XR (rows ++ r2) k = XR rows k := by funext j; unfold XR; rw [List.getD_eq_getElem?_getD (l := rows ++ r2), List.getElem?_append_left hk, List.getD_eq_getElem?_getD (l := rows)]
    have e2 : Wl ws base d (ps ++ p2) k = Wl ws base d ps k := by funext j; unfold Wl; rw [List.getD_eq_getElem?_getD (l := ps ++ p2), List.getElem?_append_left (by omega), List.getD_eq_getElem?_getD (l := ps)]
    rw [e1, e2]
  · refine sumN_congr fun k hk => ?_
    have e1 : XR (rows ++ r2) (rows.length + k) = XR r2 k := by funext j; unfold XR; rw [List.getD_eq_getElem?_getD (l := rows ++ r2), List.getElem?_append_right (by omega), Nat.add_sub_cancel_left, List.getD_eq_getElem?_getD (l := r2)]
    have e2 : Wl ws base d (ps ++ p2) (rows.length + k) = Wl ws base d p2 k := by funext j; unfold Wl; rw [List.getD_eq_getElem?_getD (l := ps ++ p2), List.getElem?_append_right (by omega), h, Nat.add_sub_cancel_left, List.getD_eq_getElem?_getD (l := p2)]
    rw [e1, e2]
theorem tot_nil (ws : List Int) (base d v : Nat) (ps : List Int) : tot ws base d [] ps v = 0 := rfl
/-- what one row of a tensor adds. -/
theorem tot_lane (zs ws : List Int) (Z W C y left : Int) (o i d pp Wn M v : Nat) (hd : C = (d : Int)) (hW : W = (Wn : Int)) (hl : left = (v : Int) - (pp : Int)) (hM : M = Wn + 2 * pp) (hv : v + 2 < M) (y0 : 0 ≤ y) (Hh : Int) (y1 : y < Hh) (top : Int) (hy : top + (i : Int) = y) :
    tot ws (o * 3 * 3 * d) d (laneRows zs Z (y * W * C).toNat d pp Wn M d) (lanePs (i * 3 * d) d) v = rowF zs ws Hh W C top left d 3 o Z i := by
  have hplace : ∀ j, j < 3 → sumN (fun c => laneF zs Z (y * W * C).toNat d pp Wn c (v + j) * ws.getD (o * 3 * 3 * d + (i * 3 * d + c) + j * d) 0) d = placeF zs ws Hh W C top left d 3 o Z i j := by
    intro j hj
    unfold placeF
    rw [hy]
    by_cases hin : 0 ≤ left + (j : Int) ∧ left + (j : Int) < W
    · rw [if_pos ⟨y0, y1, hin⟩, psum_sumN]
      refine sumN_congr fun c hc => ?_
      unfold laneF termF
      rw [if_pos (by omega)]
      have hw0 : 0 ≤ y * W := Int.mul_nonneg y0 (by omega)
      have hw1 : 0 ≤ y * W * C := Int.mul_nonneg hw0 (by omega)
      have e1 : ((y * W + (left + (j : Int))) * C).toNat = (y * W * C).toNat + (v + j - pp) * d := by
        have e : (y * W + (left + (j : Int))) * C = y * W * C + ((((v + j - pp) * d : Nat)) : Int) := by
          rw [Int.add_mul, hd, Int.natCast_mul]
          congr 2
          omega
        rw [e, Int.toNat_add hw1 (by omega)]
        rfl
      have e2 : o * 3 * 3 * d + (i * 3 * d + c) + j * d = ((o * 3 + i) * 3 + j) * d + c := by
        rw [Nat.add_mul, Nat.add_mul, Nat.add_mul]; omega
      rw [e1, e2, Int.mul_comm]
    · rw [if_neg (by intro h; exact hin ⟨h.2.2.1, h.2.2.2⟩)]
      refine sumN_zero fun c hc => ?_
      unfold laneF
      rw [if_neg (by omega), Int.zero_mul]
  unfold tot
  rw [laneRows_len]
  have hbody : ∀ c, c < d → slAt (XR (laneRows zs Z (y * W * C).toNat d pp Wn M d) c) (Wl ws (o * 3 * 3 * d) d (lanePs (i * 3 * d) d) c) v =
      laneF zs Z (y * W * C).toNat d pp Wn c (v + 0) * ws.getD (o * 3 * 3 * d + (i * 3 * d + c) + 0 * d) 0 + laneF zs Z (y * W * C).toNat d pp Wn c (v + 1) * ws.getD (o * 3 * 3 * d + (i * 3 * d + c) + 1 * d) 0 + laneF zs Z (y * W * C).toNat d pp Wn c (v + 2) * ws.getD (o * 3 * 3 * d + (i * 3 * d + c) + 2 * d) 0 := by
    intro c hc
    have e : ∀ j, v + j < M → XR (laneRows zs Z (y * W * C).toNat d pp Wn M d) c (v + j) = laneF zs Z (y * W * C).toNat d pp Wn c (v + j) := fun j hj => by
      unfold XR; rw [laneRows_at zs Z hc]; exact nums_getD _ hj
    have f : ∀ j, Wl ws (o * 3 * 3 * d) d (lanePs (i * 3 * d) d) c j = ws.getD (o * 3 * 3 * d + (i * 3 * d + c) + j * d) 0 := fun j => by
      unfold Wl wAt; rw [lanePs_at hc]; rfl
    unfold slAt
    rw [f, f, f, e 1 (by omega), e 2 (by omega)]
    have e0 := e 0 (by omega)
    rw [Nat.add_zero] at e0
    rw [e0]
    rfl
  rw [sumN_congr hbody, sumN_three, hplace 0 (by omega), hplace 1 (by omega), hplace 2 (by omega)]
  unfold rowF
  show _ = (0 + _ + _ + _ : Int)
  rw [Int.zero_add]
theorem row_out (zs ws : List Int) (Z W C left H : Int) (o i d : Nat) (top : Int) (h : ¬ (0 ≤ top + (i : Int) ∧ top + (i : Int) < H)) : rowF zs ws H W C top left d 3 o Z i = 0 := by
  unfold rowF
  rw [psum_sumN]
  refine sumN_zero fun j hj => ?_
  unfold placeF
  rw [if_neg (by intro h'; exact h ⟨h'.1, h'.2.1⟩)]
theorem lane_win (zs ws : List Int) (Z H W C top left : Int) (o d pp Wn M v : Nat) (hd : C = (d : Int)) (hW : W = (Wn : Int)) (hl : left = (v : Int) - (pp : Int)) (hM : M = Wn + 2 * pp) (hv : v + 2 < M) :
    ∀ i, tot ws (o * 3 * 3 * d) d (rowsTo zs Z H W C top d pp Wn M i) (psTo H top d i) v = psum (rowF zs ws H W C top left d 3 o Z) i
  | 0 => rfl
  | i + 1 => by
    unfold rowsTo psTo
    rw [tot_append _ _ _ _ _ _ _ (len_to zs Z H W C top d pp Wn M i), lane_win zs ws Z H W C top left o d pp Wn M v hd hW hl hM hv i]
    show _ = psum (rowF zs ws H W C top left d 3 o Z) i + rowF zs ws H W C top left d 3 o Z i
    congr 1
    split
    · rename_i h
      exact tot_lane zs ws Z W C (top + (i : Int)) left o i d pp Wn M v hd hW hl hM hv h.1 H h.2 top rfl
    · rename_i h
      rw [tot_nil, row_out zs ws Z W C left H o i d top h]
end Go.Proofs.YtoghpoopgkahiaaGreatDoor.CLane
end
section
namespace Go.Proofs.YtoghpoopgkahiaaGreatDoor.CTensor
open Go Go.ChangeShapes Go.WideShapes Go.ChangeAt Go.RowKit
open Plain CSat CShape
set_option linter.unusedVariables false
/-- a tensor of the call's own, handed back with an error's number. -/
def Made (w : World) (H W C : Int) (n : Nat) (zs : List Int) (x : Value) (e : Ending) (w' : World) : Prop :=
  ∃ v, e = .returned (.tuple #[.agg #[.int .i64 H, .int .i64 W, .int .i64 C, v], x]) ∧ w'.ownsRow w.heap.size 22 1 v n (I8s zs) ∧ Below w.heap.size w w'
theorem of_yes (H W C : Int) (A : Option Addr) (zs : List Int) (n c : Nat) (hn : zs.length = n) (hl : n ≤ 1000000) (ht : tensB H W C n = true) {B : Nat} (w : World) (hB : B ≤ w.heap.size) (hr : Kit.Rd w B A (zs.map (.int .i8))) :
    Calls Tryz.prog 67 #[.agg #[.int .i64 H, .int .i64 W, .int .i64 C], .slice A n c] w (Made w H W C n zs (.int .i64 0)) := by
  have HT := Lib.hid ht
  have HN := Lib.hid hn
  have HR := Lib.hid hr
  clear ht hn hr
  go_enter Tryz.func67, Tryz.ntmps67
  have H0 := Lib.hid (Below.refl w.heap.size w)
  go_wp2_with (first
    | (go_at_call 17; ((with_reducible refine (right_to H W C A n c true HT.out _).mono ?_); (rintro e w1 ⟨rfl, hb⟩; obtain ⟨hc, hf⟩ := Kit.bcell hb; have hz : w.heap.size + 3 ≤ w1.heap.size := (by have := hb.size; simp at this; omega); have hw1 : Below w.heap.size w w1 := Below.trans (by go_grown) (hb.mono (by simp; omega)); have HB := Lib.hid hb)))
    | (go_at_call 111; have hrd := HR.out.below (hw1.mono hB); ((with_reducible refine (clone_to H W C A zs n c HN.out hl (B := B) _ (by omega) hrd).mono ?_); (rintro e w2 ⟨v2, rfl, ho2, hb2⟩; obtain ⟨hc2, hf2⟩ := Kit.bcell hb2; obtain ⟨A2, c2, rfl, _, _, _⟩ := Kit.own_rd ho2; have HO := Lib.hid ho2; have HB2 := Lib.hid (hw1.trans (hb2.mono (by omega))); have hz2 : w1.heap.size ≤ w2.heap.size := hb2.size; have hz3 : w.heap.size + 1 < w1.heap.size := (by omega); clear hw1 hrd ho2))))
  refine bodyPost_ret (Kit.results_ct rfl _ _ (w.heap.size + 1) 0 [.int .i64 H, .int .i64 W, .int .i64 C, .slice A2 n c2] _ rfl (range_4 (by go_cell) (by go_cell) (by go_cell) (by go_cell)) Tryz.underlying32 rfl (by kernel_rfl)) rfl ?_
  refine ⟨_, rfl, Kit.own_base (own_set (own_set (own_set (own_set HO.out _ _ ?_) _ _ ?_) _ _ ?_) _ _ ?_) ?_, ?_⟩
  any_goals (first | omega | (simp; done) | (simp; omega))
  exact ((((HB2.out.setCell (p := ⟨w.heap.size + 1, 0, none⟩) (by simp) _).setCell (p := ⟨w.heap.size + 1, 1, none⟩) (by simp) _).setCell (p := ⟨w.heap.size + 1, 2, none⟩) (by simp) _).setCell (p := ⟨w.heap.size + 1, 3, none⟩) (by simp) _)
end Go.Proofs.YtoghpoopgkahiaaGreatDoor.CTensor
end
section
namespace Go.Proofs.YtoghpoopgkahiaaGreatDoor.CTensor
open Go Go.ChangeShapes Go.WideShapes Go.ChangeAt Go.RowKit
open Plain CSat CShape
set_option linter.unusedVariables false
/-- is there such a number? -/
def placeB (H W C : Int) (n : Nat) (h v c : Int) : Bool := tensB H W C n && inB H W C h v c
theorem pos_yes (H W C : Int) (A : Option Addr) (n k : Nat) (h v c : Int) (p : Nat) (hb : placeB H W C n h v c = true) (hp : (h * W + v) * C + c = p) (w : World) :
    Calls Tryz.prog 142 #[.agg #[.int .i64 H, .int .i64 W, .int .i64 C, .slice A n k], .int .i64 h, .int .i64 v, .int .i64 c] w fun e w' => e = .returned (.tuple #[.int .i64 p, .bool true]) ∧ Below w.heap.size w w' := by
  simp only [placeB, Bool.and_eq_true] at hb
  obtain ⟨ht, hi⟩ := hb
  simp only [inB, Bool.and_eq_true, decide_eq_true_eq] at hi
  obtain ⟨hs, h1, h2, h3, h4, h5, h6⟩ := hi
  have HT := Lib.hid ht
  have HS := Lib.hid hs
  have HP := Lib.hid hp
  clear ht hs hp
  go_enter Tryz.func142, Tryz.ntmps142
  go_wp2_with (first
    | (go_at_call 17; ((with_reducible refine (right_to H W C A n k true HT.out _).mono ?_); (rintro e w1 ⟨rfl, hb⟩; obtain ⟨hc, hf⟩ := Kit.bcell hb; have hz : w.heap.size < w1.heap.size := (by have := hb.size; simp at this; omega); have hw1 : Below w.heap.size w w1 := Below.trans (by go_grown) (hb.mono (by simp)))))
    | (go_at_call 133; ((with_reducible refine (index_yes H W C h v c _ HS.out h1 h2 h3 h4 h5 h6 HP.out _).mono ?_); (rintro e w2 ⟨rfl, hb2⟩; have HB := Lib.hid (hw1.trans (hb2.mono (Nat.le_of_lt hz))); clear hb2))))
  go_ret2
  exact ⟨rfl, HB.out⟩
theorem pos_no (H W C : Int) (A : Option Addr) (n k : Nat) (h v c : Int) (hb : placeB H W C n h v c = false) (w : World) :
    Calls Tryz.prog 142 #[.agg #[.int .i64 H, .int .i64 W, .int .i64 C, .slice A n k], .int .i64 h, .int .i64 v, .int .i64 c] w fun e w' => e = .returned (.tuple #[.int .i64 0, .bool false]) ∧ Below w.heap.size w w' := by
  cases ht : tensB H W C n
  · have HT := Lib.hid ht
    clear ht hb
    go_enter Tryz.func142, Tryz.ntmps142
    go_wp2_with (go_at_call 17; ((with_reducible refine (right_to H W C A n k false HT.out _).mono ?_); (rintro e w1 ⟨rfl, hb⟩; have HB := Lib.hid (show Below w.heap.size w w1 from Below.trans (by go_grown) (hb.mono (by simp))); clear hb)))
    go_ret2
    exact ⟨rfl, HB.out⟩
  · have hi : inB H W C h v c = false := by simpa [placeB, ht] using hb
    have HT := Lib.hid ht
    have HI := Lib.hid hi
    clear ht hb hi
    go_enter Tryz.func142, Tryz.ntmps142
    go_wp2_with (first
      | (go_at_call 17; ((with_reducible refine (right_to H W C A n k true HT.out _).mono ?_); (rintro e w1 ⟨rfl, hb⟩; obtain ⟨hc, hf⟩ := Kit.bcell hb; have hz : w.heap.size < w1.heap.size := (by have := hb.size; simp at this; omega); have hw1 : Below w.heap.size w w1 := Below.trans (by go_grown) (hb.mono (by simp)))))
      | (go_at_call 133; ((with_reducible refine (index_no H W C h v c HI.out _).mono ?_); (rintro e w2 ⟨rfl, hb2⟩; have HB := Lib.hid (hw1.trans (hb2.mono (Nat.le_of_lt hz))); clear hb2))))
    go_ret2
    exact ⟨rfl, HB.out⟩
theorem at_no (H W C : Int) (A : Option Addr) (n k : Nat) (h v c : Int) (hb : placeB H W C n h v c = false) (w : World) :
    Calls Tryz.prog 110 #[.agg #[.int .i64 H, .int .i64 W, .int .i64 C, .slice A n k], .int .i64 h, .int .i64 v, .int .i64 c] w fun e w' => e = .returned (.tuple #[.int .i8 0, .bool false]) ∧ Below w.heap.size w w' := by
  have HB0 := Lib.hid hb
  clear hb
  go_enter Tryz.func110, Tryz.ntmps110
  go_wp2_with (go_at_call 142; ((with_reducible refine (pos_no H W C A n k h v c HB0.out _).mono ?_); (rintro e w1 ⟨rfl, hb⟩; have HB := Lib.hid (show Below w.heap.size w w1 from Below.trans (by go_grown) (hb.mono (by simp))); clear hb)))
  go_ret2
  exact ⟨rfl, HB.out⟩
theorem at_yes (H W C : Int) (A : Option Addr) (zs : List Int) (n k : Nat) (hn : zs.length = n) (hk : n ≤ k) (hk9 : n ≤ 1000000) (h v c : Int) (p : Nat) (hb : placeB H W C n h v c = true) (hp : (h * W + v) * C + c = p) (x : Int) (hx : zs[p]? = some x) {B : Nat} (w : World) (hB : B ≤ w.heap.size) (hr : Kit.Rd w B A (zs.map (.int .i8))) :
    Calls Tryz.prog 110 #[.agg #[.int .i64 H, .int .i64 W, .int .i64 C, .slice A n k], .int .i64 h, .int .i64 v, .int .i64 c] w fun e w' => e = .returned (.tuple #[.int .i8 x, .bool true]) ∧ Below w.heap.size w w' := by
  have hpl : p < zs.length := by
    rcases Nat.lt_or_ge p zs.length with h | h
    · exact h
    · rw [List.getElem?_eq_none h] at hx; cases hx
  obtain ⟨b, off, rfl, hbB, hcell⟩ := hr.ints hpl
  rw [List.getElem?_eq_getElem hpl] at hx
  cases hx
  generalize zs[p] = x at hcell ⊢
  have hbw : b < w.heap.size := by omega
  have hpn : p < n := by omega
  have HB0 := Lib.hid hb
  have HP := Lib.hid hp
  clear hb hp hr hn
  go_enter Tryz.func110, Tryz.ntmps110
  go_wp2_with (go_at_call 142; ((with_reducible refine (pos_yes H W C _ n k h v c p HB0.out HP.out _).mono ?_); (rintro e w1 ⟨rfl, hb⟩; obtain ⟨hc, hf⟩ := Kit.bcell hb; have hz : w.heap.size < w1.heap.size := (by have := hb.size; simp at this; omega); have hcl : w1.cell? ⟨b, off + p, none⟩ = some (.int .i8 x) := ((hb.cell (p := ⟨b, off + p, none⟩) (by simp; omega)).trans ((World.cell?_alloc_lt _ _ _ hbw).trans hcell)); have HB := Lib.hid (show Below w.heap.size w w1 from Below.trans (by go_grown) (hb.mono (by simp))); clear hb)))
  go_ret2
  exact ⟨rfl, HB.out⟩
end Go.Proofs.YtoghpoopgkahiaaGreatDoor.CTensor
end
