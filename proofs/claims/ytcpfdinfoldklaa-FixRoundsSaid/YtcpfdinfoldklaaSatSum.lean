/- Contracts of sat.Sum and of the document's own answers of layer 1. -/
import Derived.Test.YtcpfdinfoldklaaSat
import Derived.Test.YtcpfdinfoldklaaKit
namespace Go.Proofs.Ytcpfdinfoldklaa.CSat
open Go Go.ChangeShapes Go.WideShapes Go.ChangeAt Go.RowKit
open Plain
set_option linter.unusedVariables false

/-- all from the first one on, each sum within 64 bits; none if one is not. -/
def sumO (t : Int) : List Int → Option Int
  | [] => some t
  | z :: zs => if fits (t + z) then sumO (t + z) zs else none

theorem sumO_append (t : Int) (xs ys : List Int) : sumO t (xs ++ ys) = (sumO t xs).bind fun s => sumO s ys := by
  induction xs generalizing t with
  | nil => rfl
  | cons x xs ih =>
    show (if fits (t + x) then sumO (t + x) (xs ++ ys) else none) = _
    simp only [sumO]
    split
    · exact ih _
    · rfl

theorem sumO_bd {t s : Int} {zs : List Int} (ht : -9223372036854775808 ≤ t ∧ t ≤ 9223372036854775807) (h : sumO t zs = some s) : -9223372036854775808 ≤ s ∧ s ≤ 9223372036854775807 := by
  induction zs generalizing t with
  | nil => simp [sumO] at h; subst h; exact ht
  | cons z zs ih =>
    simp only [sumO] at h
    split at h
    · rename_i hf
      exact ih (by simpa [fits] using hf) h
    · cases h

theorem take_next {zs : List Int} {k : Nat} (h : k < zs.length) : zs.take (k + 1) = zs.take k ++ [zs[k]] := by
  rw [List.take_succ_eq_append_getElem h]

def I64s (zs : List Int) : Prop := ∀ z ∈ zs, -9223372036854775808 ≤ z ∧ z ≤ 9223372036854775807

theorem plus_yes (a b : Int) (ha1 : -9223372036854775808 ≤ a) (ha2 : a ≤ 9223372036854775807) (hb1 : -9223372036854775808 ≤ b) (hb2 : b ≤ 9223372036854775807) (h : fits (a + b) = true) (w : World) :
    Calls Try.prog 19 #[.int .i64 a, .int .i64 b] w fun e w' => e = .returned (.tuple #[.int .i64 (a + b), .bool true]) ∧ w = w' := by
  refine (plus a b ha1 ha2 hb1 hb2 w).mono fun e w' ⟨he, hw⟩ => ⟨?_, hw⟩
  rw [he, h]; unfold fitZ; rw [if_pos h]
theorem plus_no (a b : Int) (ha1 : -9223372036854775808 ≤ a) (ha2 : a ≤ 9223372036854775807) (hb1 : -9223372036854775808 ≤ b) (hb2 : b ≤ 9223372036854775807) (h : fits (a + b) = false) (w : World) :
    Calls Try.prog 19 #[.int .i64 a, .int .i64 b] w fun e w' => e = .returned (.tuple #[.int .i64 0, .bool false]) ∧ w = w' := by
  refine (plus a b ha1 ha2 hb1 hb2 w).mono fun e w' ⟨he, hw⟩ => ⟨?_, hw⟩
  rw [he, h]; unfold fitZ; rw [if_neg (by simp [h])]

theorem sum (A : Option Addr) (zs : List Int) (c : Nat) (hl : zs.length ≤ 9223372036854775807) (hz : I64s zs) (w : World) {B : Nat} (hr : Kit.Rd w B A (zs.map (.int .i64))) :
    Calls Try.prog 23 #[.slice A zs.length c] w fun e w' => e = .returned (.tuple #[.int .i64 ((sumO 0 zs).getD 0), .bool (sumO 0 zs).isSome]) ∧ w = w' := by
  go_enter Try.func23, Try.ntmps23
  go_wp2_with fail
  go_loop [4, 5, 9] (fun t ok i => ∃ (k : Nat) (s : Int), k ≤ zs.length ∧ i = .int .i64 k ∧ t = .int .i64 s ∧ ok = .bool true ∧ Hid (sumO 0 (zs.take k) = some s)) (fun _ _ i => zs.length - (intOf i).toNat)
  case atStart => exact ⟨0, 0, Nat.zero_le _, rfl, rfl, rfl, rfl⟩
  case round =>
    obtain ⟨k, s, hk, rfl, rfl, rfl, hs⟩ := hrel
    have hsb := sumO_bd (by omega) hs.out
    obtain ⟨hs1, hs2⟩ := hsb
    by_cases hlt : k < zs.length
    · obtain ⟨ad, rfl, _, hc⟩ := hr.int hlt
      obtain ⟨hz1, hz2⟩ := hz zs[k] (List.getElem_mem hlt)
      have ht := take_next hlt
      generalize hzk : zs[k] = z at hc hz1 hz2 ht
      have hnext : sumO 0 (zs.take (k + 1)) = if fits (s + z) then some (s + z) else none := by
        rw [ht, sumO_append, hs.out]; simp only [Option.bind_some, sumO]
      have hall : sumO 0 zs = (sumO 0 (zs.take (k + 1))).bind fun s => sumO s (zs.drop (k + 1)) := by
        rw [← sumO_append, List.take_append_drop]
      have Ht := Lib.hid ht
      have Hn := Lib.hid hnext
      have Ha := Lib.hid hall
      clear ht hzk hnext hall hr
      cases hf : fits (s + z)
      · have hend : sumO 0 zs = none := by rw [Ha.out, Hn.out, hf]; rfl
        have He := Lib.hid hend
        clear hend
        have HF := Lib.hid hf
        clear hf
        go_wp2_with (go_at_call 19; refine (plus_no _ _ hs1 hs2 hz1 hz2 HF.out _).mono ?_; rintro e w' ⟨rfl, rfl⟩)
        go_ret2
        exact ⟨by rw [He.out]; rfl, rfl⟩
      · have HF := Lib.hid hf
        clear hf
        go_wp2_with (go_at_call 19; refine (plus_yes _ _ hs1 hs2 hz1 hz2 HF.out _).mono ?_; rintro e w' ⟨rfl, rfl⟩)
        go_round
        case rel => exact ⟨k + 1, s + z, by omega, by go_num, rfl, rfl, by rw [Hn.out, HF.out]; rfl⟩
        case measure => simp [intOf]; omega
    · have hall : sumO 0 zs = some s := by rw [← hs.out, List.take_of_length_le (by omega)]
      have He := Lib.hid hall
      clear hall
      go_wp2_with fail
      go_ret2
      exact ⟨by rw [He.out]; rfl, rfl⟩
end Go.Proofs.Ytcpfdinfoldklaa.CSat
