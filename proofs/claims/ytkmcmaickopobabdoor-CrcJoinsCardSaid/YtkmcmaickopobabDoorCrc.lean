/- Contracts of package crc (layer 7), and of the document's own answers. -/
import Derived.Test.YtkmcmaickopobabDoorCrcNum
import Derived.Test.YtkmcmaickopobabDoorKit
import Derived.Test.YtkmcmaickopobabDoorRows
import Derived.Outline
namespace Go.Proofs.YtkmcmaickopobabDoor.CCrc
open Go Go.ChangeShapes Go.WideShapes Go.ChangeAt Go.RowKit
open CrcNum
set_option linter.unusedVariables false

theorem ret_int {k : IntKind} {a b : Int} (h : a = b) : Ending.returned (.int k a) = .returned (.int k b) := by rw [h]
theorem st_odd {x : R} (h : toI x % 2 = 1) : bits .xor .u32 (toI x / 2) 3988292384 = toI (st x) := by
  rw [half_toI]
  have hb : x.getLsbD 0 = true := by
    rw [odd_toI] at h
    cases e : x.getLsbD 0
    · rw [e] at h; simp at h
    · rfl
  have e : (3988292384 : Int) = toI poly := by decide
  rw [e, xor_toI]; unfold st; rw [hb]; rfl
theorem st_ev {x : R} (h : toI x % 2 = 0) : toI x / 2 = toI (st x) := by
  rw [half_toI]
  have hb : x.getLsbD 0 = false := by
    rw [odd_toI] at h
    cases e : x.getLsbD 0
    · rfl
    · rw [e] at h; simp at h
  rw [st_even hb]
theorem shift (x : R) (w : World) :
    Calls Tryd.prog 19 #[.int .u32 (toI x)] w fun e w' => e = .returned (.int .u32 (toI (st x))) ∧ w = w' := by
  obtain ⟨hx0, hx1⟩ := toI_bd x
  rcases (by omega : toI x % 2 = 0 ∨ toI x % 2 = 1) with h | h
  · have H := st_ev h
    go_enter Tryd.func19, Tryd.ntmps19
    go_wp2_with fail
    go_ret
    first | exact ⟨rfl, rfl⟩ | exact ⟨ret_int H, rfl⟩
  · have H := st_odd h
    go_enter Tryd.func19, Tryd.ntmps19
    go_wp2_with fail
    go_ret
    first | exact ⟨rfl, rfl⟩ | exact ⟨ret_int H, rfl⟩
theorem refStep (x : R) (w : World) :
    Calls Tryd.prog 15 #[.int .u32 (toI x)] w fun e w' => e = .returned (.int .u32 (toI (st x))) ∧ w = w' := by
  obtain ⟨hx0, hx1⟩ := toI_bd x
  rcases (by omega : toI x % 2 = 0 ∨ toI x % 2 = 1) with h | h
  · have H := st_ev h
    go_enter Tryd.func15, Tryd.ntmps15
    go_wp2_with fail
    go_ret
    first | exact ⟨rfl, rfl⟩ | exact ⟨ret_int H, rfl⟩
  · have H := st_odd h
    go_enter Tryd.func15, Tryd.ntmps15
    go_wp2_with fail
    go_ret
    first | exact ⟨rfl, rfl⟩ | exact ⟨ret_int H, rfl⟩
theorem refTable (x : R) (w : World) :
    Calls Tryd.prog 12 #[.int .i64 (toI x)] w fun e w' => e = .returned (.int .u32 (toI (stn 4 x))) ∧ w = w' := by
  obtain ⟨hx0, hx1⟩ := toI_bd x
  go_enter Tryd.func12, Tryd.ntmps12
  go_wp2_with (go_at_call 15; (with_reducible refine (refStep _ _).mono ?_); rintro e w' ⟨rfl, rfl⟩)
  go_ret
  exact ⟨rfl, rfl⟩
theorem times (a b : R) (w : World) :
    Calls Tryd.prog 18 #[.int .u32 (toI a), .int .u32 (toI b)] w fun e w' => e = .returned (.int .u32 (toI (mul a b))) ∧ w = w' := by
  obtain ⟨ha0, ha1⟩ := toI_bd a
  go_enter Tryd.func18, Tryd.ntmps18
  go_wp2_with fail
  go_loop [1, 5, 7] (fun s p i => ∃ k : Nat, k ≤ 32 ∧ i = .int .i64 k ∧ p = .int .u32 (toI (mulP k a b)) ∧ s = .int .u32 (toI (stn k b))) (fun _ _ i => 32 - (intOf i).toNat)
  case atStart => exact ⟨0, by omega, rfl, rfl, rfl⟩
  case round =>
    obtain ⟨k, hk, rfl, rfl, rfl⟩ := hrel
    by_cases hlt : k < 32
    · have ht := pow_test a k hlt
      have hx := xor_toI (mulP k a b) (stn k b)
      cases hb : a.getLsbD (31 - k)
      · have hm : mulP (k + 1) a b = mulP k a b := by simp [mulP, hb]
        have HM := Lib.hid hm
        rw [hb] at ht
        clear hb hm hx
        go_wp2_with (go_at_call 19; refine (shift _ _).mono ?_; rintro e w' ⟨rfl, rfl⟩)
        go_round
        case rel => exact ⟨k + 1, by omega, by go_num, by rw [HM.out], rfl⟩
        case measure => simp [intOf]; omega
      · have hm : mulP (k + 1) a b = mulP k a b ^^^ stn k b := by simp [mulP, hb]
        have HM := Lib.hid hm
        rw [hb] at ht
        clear hb hm
        go_wp2_with (go_at_call 19; refine (shift _ _).mono ?_; rintro e w' ⟨rfl, rfl⟩)
        go_round
        case rel => exact ⟨k + 1, by omega, by go_num, by rw [HM.out], rfl⟩
        case measure => simp [intOf]; omega
    · obtain rfl : k = 32 := by omega
      go_wp2_with fail
      go_ret
      exact ⟨rfl, rfl⟩

def U8s (zs : List Int) : Prop := ∀ z ∈ zs, 0 ≤ z ∧ z ≤ 255
theorem take_next {zs : List Int} {k : Nat} (h : k < zs.length) : zs.take (k + 1) = zs.take k ++ [zs[k]] := by
  rw [List.take_succ_eq_append_getElem h]
/-- the table lies in the first block. -/
def TableIn (w : World) : Prop := ∀ n : Nat, n < 16 → w.cell? ⟨0, n, none⟩ = some (.int .u32 (toI (tab n)))

theorem refrun (v : R) (A : Option Addr) (zs : List Int) (c : Nat) (hl : zs.length ≤ 9223372036854775807) (hz : U8s zs) (w : World) {B : Nat} (hr : Kit.Rd w B A (zs.map (.int .u8))) :
    Calls Tryd.prog 14 #[.int .u32 (toI v), .slice A zs.length c] w fun e w' => e = .returned (.int .u32 (toI (run v zs))) ∧ w = w' := by
  go_enter Tryd.func14, Tryd.ntmps14
  go_wp2_with fail
  go_loop [0, 5] (fun s i => ∃ (k : Nat) (x : R), k ≤ zs.length ∧ i = .int .i64 k ∧ s = .int .u32 (toI x) ∧ Hid (run v (zs.take k) = x)) (fun _ i => zs.length - (intOf i).toNat)
  case atStart => exact ⟨0, v, Nat.zero_le _, rfl, rfl, Lib.hid rfl⟩
  case round =>
    obtain ⟨k, x, hk, rfl, rfl, hs⟩ := hrel
    by_cases hlt : k < zs.length
    · obtain ⟨ad, rfl, _, hc⟩ := hr.int hlt
      obtain ⟨hz1, hz2⟩ := hz zs[k] (List.getElem_mem hlt)
      have ht := take_next hlt
      generalize zs[k] = z at hc hz1 hz2 ht
      have hn : run v (zs.take (k + 1)) = stn 8 (x ^^^ byteR z) := by
        rw [ht, run_snoc, hs.out]; rfl
      have HN := Lib.hid hn
      have h1 := first_step x z hz1 hz2
      clear ht hn hr
      generalize x ^^^ byteR z = y at h1 HN
      go_wp2_with fail
      clear h1
      go_loop [0, 6] (fun s i => ∃ m : Nat, m ≤ 8 ∧ i = .int .i64 m ∧ s = .int .u32 (toI (stn m y))) (fun _ i => 8 - (intOf i).toNat)
      case atStart => exact ⟨0, by omega, rfl, rfl⟩
      case round =>
        obtain ⟨m, hm, rfl, rfl⟩ := hrel
        by_cases hml : m < 8
        · go_wp2_with (go_at_call 15; (with_reducible refine (refStep _ _).mono ?_); rintro e w' ⟨rfl, rfl⟩)
          go_round
          case rel => exact ⟨m + 1, by omega, by go_num, rfl⟩
          case measure => simp [intOf]; omega
        · obtain rfl : m = 8 := by omega
          go_wp2_with fail
          go_round
          case rel => exact ⟨k + 1, _, by omega, by go_num, rfl, HN⟩
          case measure => simp [intOf]; omega
    · have hall : run v zs = x := by rw [← hs.out, List.take_of_length_le (by omega)]
      have He := Lib.hid hall
      clear hall
      go_wp2_with fail
      go_ret
      exact ⟨by rw [He.out]; rfl, rfl⟩
theorem refrun_to {n : Int} {v : R} (hn : n = toI v) (A : Option Addr) (zs : List Int) (c : Nat) (hl : zs.length ≤ 9223372036854775807) (hz : U8s zs) (w : World) {B : Nat} (hr : Kit.Rd w B A (zs.map (.int .u8))) :
    Calls Tryd.prog 14 #[.int .u32 n, .slice A zs.length c] w fun e w' => e = .returned (.int .u32 (toI (run v zs))) ∧ w = w' := by
  subst hn; exact refrun v A zs c hl hz w hr
theorem not_toI (x : R) : bits .xor .u32 4294967295 (toI x) = toI (~~~ x) := by
  have e : (4294967295 : Int) = toI (BitVec.allOnes 32) := by decide
  rw [e, xor_toI, ← not_xor]
theorem refOf (A : Option Addr) (zs : List Int) (c : Nat) (hl : zs.length ≤ 9223372036854775807) (hz : U8s zs) (w : World) {B : Nat} (hr : Kit.Rd w B A (zs.map (.int .u8))) :
    Calls Tryd.prog 9 #[.slice A zs.length c] w fun e w' => e = .returned (.int .u32 (toI (crcOf zs))) ∧ w = w' := by
  have hsg : IntKind.u32.signed = false := rfl
  have hmx : IntKind.u32.max = 4294967295 := by decide
  have hnot := not_toI (run (BitVec.allOnes 32) zs)
  go_enter Tryd.func9, Tryd.ntmps9
  go_wp2_with (go_at_call 14; (with_reducible refine (refrun_to (v := BitVec.allOnes 32) (by decide) A zs c hl hz _ hr).mono ?_); rintro e w' ⟨rfl, rfl⟩)
  go_ret
  first | exact ⟨rfl, rfl⟩ | exact ⟨ret_int (not_toI _), rfl⟩
theorem refMore (v : R) (A : Option Addr) (zs : List Int) (c : Nat) (hl : zs.length ≤ 9223372036854775807) (hz : U8s zs) (w : World) {B : Nat} (hr : Kit.Rd w B A (zs.map (.int .u8))) :
    Calls Tryd.prog 11 #[.int .u32 (toI v), .slice A zs.length c] w fun e w' => e = .returned (.int .u32 (toI (crcMore v zs))) ∧ w = w' := by
  have hsg : IntKind.u32.signed = false := rfl
  have hmx : IntKind.u32.max = 4294967295 := by decide
  have hnot := not_toI (run (~~~ v) zs)
  have hnot2 := not_toI v
  go_enter Tryd.func11, Tryd.ntmps11
  go_wp2_with (go_at_call 14; (with_reducible refine (refrun (~~~ v) A zs c hl hz _ hr).mono ?_); rintro e w' ⟨rfl, rfl⟩)
  go_ret
  exact ⟨rfl, rfl⟩
theorem more (v : R) (A : Option Addr) (zs : List Int) (c : Nat) (hl : zs.length ≤ 9223372036854775807) (hz : U8s zs) (w : World) (hT : TableIn w) {B : Nat} (hr : Kit.Rd w B A (zs.map (.int .u8))) :
    Calls Tryd.prog 10 #[.int .u32 (toI v), .slice A zs.length c] w fun e w' => e = .returned (.int .u32 (toI (crcMore v zs))) ∧ w = w' := by
  have HT := Lib.hid hT
  clear hT
  have hsg : IntKind.u32.signed = false := rfl
  have hmx : IntKind.u32.max = 4294967295 := by decide
  have hnot := not_toI v
  go_enter Tryd.func10, Tryd.ntmps10
  go_wp2_with fail
  clear hnot
  go_loop [5, 12] (fun s i => ∃ (k : Nat) (x : R), k ≤ zs.length ∧ i = .int .i64 k ∧ s = .int .u32 (toI x) ∧ Hid (run (~~~ v) (zs.take k) = x)) (fun _ i => zs.length - (intOf i).toNat)
  case atStart => exact ⟨0, ~~~ v, Nat.zero_le _, rfl, rfl, Lib.hid rfl⟩
  case round =>
    obtain ⟨k, x, hk, rfl, rfl, hs⟩ := hrel
    by_cases hlt : k < zs.length
    · obtain ⟨ad, rfl, _, hc⟩ := hr.int hlt
      obtain ⟨hz1, hz2⟩ := hz zs[k] (List.getElem_mem hlt)
      have ht := take_next hlt
      generalize zs[k] = z at hc hz1 hz2 ht
      have hn : run (~~~ v) (zs.take (k + 1)) = stn 4 (stn 4 (x ^^^ byteR z)) := by
        rw [ht, run_snoc, hs.out, eat_four]
      have HN := Lib.hid hn
      have h1 := first_step x z hz1 hz2
      clear ht hn hr hsg hmx
      generalize x ^^^ byteR z = y at h1 HN
      obtain ⟨n, hn, h2, h3⟩ := half_step y
      obtain ⟨m, hm, h4, h5⟩ := half_step (stn 4 y)
      have hc1 := HT.out n hn
      have hc2 := HT.out m hm
      generalize stn 4 (stn 4 y) = y2 at HN h5
      generalize stn 4 y = y1 at h3 h4 h5
      generalize tab n = t1 at hc1 h3
      generalize tab m = t2 at hc2 h5
      obtain ⟨hy0, hy1⟩ := toI_bd y
      obtain ⟨hy2, hy3⟩ := toI_bd y1
      go_wp2_with fail
      go_round
      case rel => exact ⟨k + 1, _, by omega, by go_num, rfl, HN⟩
      case measure => simp [intOf]; omega
    · have hall : run (~~~ v) zs = x := by rw [← hs.out, List.take_of_length_le (by omega)]
      have hnot := not_toI x
      have hfin : toI (~~~ x) = toI (crcMore v zs) := by unfold crcMore; rw [hall]
      have He := Lib.hid hfin
      clear hall hfin
      go_wp2_with fail
      go_ret
      exact ⟨ret_int He.out, rfl⟩
theorem more_to {n : Int} {v : R} (hn : n = toI v) (A : Option Addr) (zs : List Int) (c : Nat) (hl : zs.length ≤ 9223372036854775807) (hz : U8s zs) (w : World) (hT : TableIn w) {B : Nat} (hr : Kit.Rd w B A (zs.map (.int .u8))) :
    Calls Tryd.prog 10 #[.int .u32 n, .slice A zs.length c] w fun e w' => e = .returned (.int .u32 (toI (crcMore v zs))) ∧ w = w' := by
  subst hn; exact more v A zs c hl hz w hT hr
theorem of (A : Option Addr) (zs : List Int) (c : Nat) (hl : zs.length ≤ 9223372036854775807) (hz : U8s zs) (w : World) (hT : TableIn w) {B : Nat} (hr : Kit.Rd w B A (zs.map (.int .u8))) :
    Calls Tryd.prog 8 #[.slice A zs.length c] w fun e w' => e = .returned (.int .u32 (toI (crcOf zs))) ∧ w = w' := by
  have HT := Lib.hid hT
  clear hT
  have he : toI (crcMore 0#32 zs) = toI (crcOf zs) := by rfl
  have HE := Lib.hid he
  clear he
  go_enter Tryd.func8, Tryd.ntmps8
  go_wp2_with (go_at_call 10; (with_reducible refine (more_to (v := 0#32) (by decide) A zs c hl hz _ HT.out hr).mono ?_); rintro e w' ⟨rfl, rfl⟩)
  go_ret
  exact ⟨ret_int HE.out, rfl⟩
end Go.Proofs.YtkmcmaickopobabDoor.CCrc
