/- Contracts of fix.All and of the document's own list. -/
import Derived.Test.YtpokeklphmfcnaaFixKnown
import Derived.Deep.RegionHeld3
namespace Go.Proofs.Ytpokeklphmfcnaa.CFix
open Go Go.ChangeShapes Go.WideShapes Go.ChangeAt Go.RowKit
open Plain CSat
set_option linter.unusedVariables false

/-- a call that hands back a list of its own. -/
def Owned (w : World) (T size n : Nat) (xs : List Value) (e : Ending) (w' : World) : Prop :=
  ∃ v, e = .returned v ∧ w'.ownsRow w.heap.size T size v n xs ∧ Below w.heap.size w w'

def allZ (zs : List Int) (m s z lo hi : Int) : List Int := if rightB m s then zs.map fun a => heldZ a m s z lo hi else []

theorem all_no (A : Option Addr) (n c : Nat) (m s z lo hi : Int) (hr : rightB m s = false) (w : World) :
    Calls Try.prog 27 #[.slice A n c, .agg #[.int .i32 m, .int .i64 s, .int .i8 z], .int .i8 lo, .int .i8 hi] w fun e w' => e = .returned (.slice none 0 0) ∧ Below w.heap.size w w' := by
  have HR := Lib.hid hr
  clear hr
  go_enter Try.func27, Try.ntmps27
  go_wp2_with (go_at_call 19; refine (isRight_no _ _ _ HR.out _).mono ?_; rintro e w1 ⟨rfl, hb⟩; obtain ⟨hc, hf⟩ := Kit.bcell hb)
  go_ret
  exact ⟨rfl, ((Below.refl _ _).alloc (Nat.le_refl _) _).trans (hb.mono (by simp))⟩

def I32s (zs : List Int) : Prop := ∀ z ∈ zs, -2147483648 ≤ z ∧ z ≤ 2147483647

theorem info8 : (Try.prog.info? 27).map (fun i => (i.zero, i.size, i.bytes)) = some (some (.int .i8 0), 1, 1) := by kernel_rfl

theorem all_yes (A : Option Addr) (zs : List Int) (c : Nat) (m s z lo hi : Int) (hr : rightB m s = true) (hlen : zs.length ≤ 1000000) (hzs : I32s zs) (hm1 : -2147483648 ≤ m) (hm2 : m ≤ 2147483647) (hz1 : -128 ≤ z) (hz2 : z ≤ 127)
    (hl1 : -128 ≤ lo) (hl2 : lo ≤ 127) (hh1 : -128 ≤ hi) (hh2 : hi ≤ 127) (L : List Value) (hL : L = (zs.map fun a => heldZ a m s z lo hi).map (Value.int .i8)) (w : World) (hrd : Kit.Rd w w.heap.size A (zs.map (.int .i32))) :
    Calls Try.prog 27 #[.slice A zs.length c, .agg #[.int .i32 m, .int .i64 s, .int .i8 z], .int .i8 lo, .int .i8 hi] w
      (Owned w 27 1 zs.length L) := by
  have hLl : L.length = zs.length := by rw [hL]; simp
  have HL := Lib.hid hL
  have HLL := Lib.hid hLl
  have HR := Lib.hid hr
  clear hr hL hLl
  go_enter Try.func27, Try.ntmps27
  obtain ⟨i0, hi0, hi1, hi2, hi3⟩ := info_parts info8
  go_wp2_with (first
    | (go_at_call 19; refine (isRight_yes _ _ _ HR.out _).mono ?_; rintro e w1 ⟨rfl, hb⟩)
    | (at_make; refine wpList_make_full _ rfl (.tmp 15) (.tmp 15) _ rfl (w.heap.size + 1) 27 i0 (.int .i8 0) 1 Try.underlying24 hi0 hi1 hi2 .i64 .i64 _ _ zs.length rfl rfl rfl rfl (by rw [hi3]; omega) (by unfold maxLen; omega) (by have := hb.size; simpa using this) ?_; intro w2 hown hg2))
  have hB2 : Below (w.heap.size + 1) (w.alloc (.cells #[.int .i32 m, .int .i64 s, .int .i8 z] 30)) w2 :=
    (by simpa using hb : Below (w.heap.size + 1) _ w1).grown hg2 (by simpa using hb.size) (fun q hq => by cases hq)
  have hgs : w.heap.size < w1.heap.size := by have := hb.size; simp at this; omega
  rw [show (madeCells (Value.int IntKind.i8 0).cells (zs.length * 1)).toList = List.replicate zs.length (.int .i8 0) by rw [Nat.mul_one]; exact toList_madeCells_one _ _] at hown
  generalize w1.heap.size = g at *
  have hown0 : w2.ownsRow (w.heap.size + 1) 27 1 (.slice (some ⟨g, 0, none⟩) zs.length zs.length) zs.length (Kit.filled L (.int .i8 0) 0) := by rw [Kit.filled_zero, HLL.out]; exact hown
  have HOWN := Lib.hid hown0
  have HB2 := Lib.hid hB2
  have HRD := Lib.hid hrd
  clear hb hg2 hB2 hrd hown hown0
  go_loopw [19] (fun i wr => ∃ k : Nat, k ≤ zs.length ∧ i = .int .i64 k ∧ Hid (wr.ownsRow (w.heap.size + 1) 27 1 (.slice (some ⟨g, 0, none⟩) zs.length zs.length) zs.length (Kit.filled L (.int .i8 0) k)) ∧ Hid (Below (w.heap.size + 1) w2 wr)) (fun i _ => zs.length - (intOf i).toNat)
  case atStart => exact ⟨0, Nat.zero_le _, rfl, HOWN, Lib.hid (Below.refl _ _)⟩
  case round =>
    obtain ⟨k, hk, rfl, hown1, hb1⟩ := hrel
    by_cases hlt : k < zs.length
    · obtain ⟨b, off, rfl, hbw, hx⟩ := HRD.out.ints hlt
      obtain ⟨hx1, hx2⟩ := hzs zs[k] (List.getElem_mem hlt)
      have hbt := HB2.out.trans hb1.out
      have hszt : w.heap.size + 1 ≤ wr.heap.size := by have := hbt.size; simpa using this
      have hga : g < wr.heap.size := Kit.block_lt_of_own hown1.out
      have cx : wr.cell? ⟨b, off + k, none⟩ = some (.int .i32 zs[k]) := by rw [hbt.cell (p := ⟨b, off + k, none⟩) (by simp; omega), World.cell?_alloc_lt _ _ _ hbw]; exact hx
      have c0 : wr.cell? ⟨w.heap.size, 0, none⟩ = some (.int .i32 m) := (hbt.cell (p := ⟨w.heap.size, 0, none⟩) (by simp)).trans (Kit.new_cell _ _ _ _)
      have c1 : wr.cell? ⟨w.heap.size, 1, none⟩ = some (.int .i64 s) := (hbt.cell (p := ⟨w.heap.size, 1, none⟩) (by simp)).trans (Kit.new_cell _ _ _ _)
      have c2 : wr.cell? ⟨w.heap.size, 2, none⟩ = some (.int .i8 z) := (hbt.cell (p := ⟨w.heap.size, 2, none⟩) (by simp)).trans (Kit.new_cell _ _ _ _)
      have cd : wr.cell? ⟨g, k, none⟩ = some (.int .i8 0) := by
        rw [hown1.out.cellAt k (by omega)]
        exact Kit.filled_at L _ (by rw [HLL.out]; exact hlt)
      have fd : wr.frozen? ⟨g, k, none⟩ = false := hown1.out.frozenAt k
      have lw : w.heap.size < wr.heap.size := by omega
      have lb : b < wr.heap.size := by omega
      have nb : g ≠ b := by omega
      have nw : g ≠ w.heap.size := by omega
      generalize hxe : zs[k] = x at *
      have HX := Lib.hid hxe
      have HBT := Lib.hid hbt
      clear hxe hbt hx
      go_wp2_with fail
      go_region_held3 (fun w' => w'.cell? ⟨b, off + k, none⟩ = some (.int .i32 x) ∧ w'.cell? ⟨w.heap.size, 0, none⟩ = some (.int .i32 m) ∧ w'.cell? ⟨w.heap.size, 1, none⟩ = some (.int .i64 s) ∧ w'.cell? ⟨w.heap.size, 2, none⟩ = some (.int .i8 z)) (first | go_keep | exact ⟨(World.cell?_setCell_far _ _ _ _ nb).trans e0, (World.cell?_setCell_far _ _ _ _ nw).trans e1, (World.cell?_setCell_far _ _ _ _ nw).trans e2, (World.cell?_setCell_far _ _ _ _ nw).trans e3⟩) ((first
        | (go_at_call 23; refine (held _ _ _ _ _ _ hx1 hx2 hm1 hm2 hz1 hz2 hl1 hl2 hh1 hh2 _).mono ?_; rintro e w3 ⟨rfl, hb3⟩; obtain ⟨hc3, hf3⟩ := Kit.bcell hb3; have e0 := (hc3 _ _ lb).trans cx; have e1 := (hc3 _ _ lw).trans c0; have e2 := (hc3 _ _ lw).trans c1; have e3 := (hc3 _ _ lw).trans c2; have ed := (hc3 _ _ hga).trans cd; have ef := (hf3 _ _ hga).trans fd; clear hc3 hf3)))
      have hn3 := ((Kit.own_below hown1.out ((Below.refl _ _).drew.trans hb3)).stored k (.int .i8 (heldZ x m s z lo hi))).1
      have hval : Value.int .i8 (heldZ x m s z lo hi) = L[k]'(by rw [HLL.out]; exact hlt) := by
        have hLo := HL.out
        subst hLo
        simp [HX.out]
      have hn4 : (w3.setCell ⟨g, k, none⟩ (.int .i8 (heldZ x m s z lo hi))).ownsRow (w.heap.size + 1) 27 1 (.slice (some ⟨g, 0, none⟩) zs.length zs.length) zs.length (Kit.filled L (.int .i8 0) (k + 1)) := by
        rw [← Kit.filled_set L _ (by rw [HLL.out]; exact hlt), ← hval]; exact hn3
      have hbn : Below (w.heap.size + 1) w2 (w3.setCell ⟨g, k, none⟩ (.int .i8 (heldZ x m s z lo hi))) :=
        (hb1.out.trans (((Below.refl _ _).drew.trans hb3).mono hszt)).setCell (by simp; omega) _
      have HN4 := Lib.hid hn4
      have HBN := Lib.hid hbn
      clear hn3 hval hn4 hbn hb3 e0 e1 e2 e3 ed ef cx c0 c1 c2 cd fd
      go_wp2
      go_roundw
      case rel => exact ⟨k + 1, by omega, by go_num, HN4, HBN⟩
      case measure => simp [intOf]; omega
    · have hke : k = zs.length := by omega
      have hfin : wr.ownsRow (w.heap.size + 1) 27 1 (.slice (some ⟨g, 0, none⟩) zs.length zs.length) zs.length L := by
        have := hown1.out
        rwa [Kit.filled_all L _ (by rw [HLL.out]; omega)] at this
      have HF := Lib.hid hfin
      clear hke hfin
      go_wp2_with fail
      go_ret
      exact ⟨_, rfl, Kit.own_base HF.out (by omega), ((Below.refl w.heap.size w).alloc (Nat.le_refl _) _).trans ((HB2.out.trans hb1.out).mono (by omega))⟩
end Go.Proofs.Ytpokeklphmfcnaa.CFix
