/- Contracts of package octet (layer 8), and of the document's own answers: putting. -/
import Derived.Test.YtkmcmaickopobacLebRefTwo
import Derived.Deep.QuietTactic
import Derived.BigQuiet
import Derived.OwnWalk
namespace Go.Proofs.Ytkmcmaickopobac.COctet
open Go Go.ChangeShapes Go.WideShapes Go.ChangeAt Go.RowKit
open LebNum CLeb
set_option linter.unusedVariables false

theorem take_next {zs : List Int} {k : Nat} (h : k < zs.length) : zs.take (k + 1) = zs.take k ++ [zs[k]] := by
  rw [List.take_succ_eq_append_getElem h]
def smallZ (zs : List Int) : List Int := zs.map fun z => z % 256
def encZ (zs : List Int) : List Int := zs.flatMap fun z => digZ (foldZ z)
theorem encZ_snoc (zs : List Int) (z : Int) : encZ (zs ++ [z]) = encZ zs ++ digZ (foldZ z) := by simp [encZ]
def I32s (zs : List Int) : Prop := ∀ z ∈ zs, -2147483648 ≤ z ∧ z ≤ 2147483647
def I8r (zs : List Int) : Prop := ∀ z ∈ zs, -128 ≤ z ∧ z ≤ 127
theorem dig_len {z : Int} (h : -2147483648 ≤ z ∧ z ≤ 2147483647) : 1 ≤ (digZ (foldZ z)).length ∧ (digZ (foldZ z)).length ≤ 10 := by
  obtain ⟨h1, h2⟩ := foldZ_bd (v := z) (by omega) (by omega)
  exact digZ_len h1 h2
theorem encZ_len : ∀ (zs : List Int), I32s zs → zs.length ≤ (encZ zs).length ∧ (encZ zs).length ≤ 10 * zs.length
  | [], _ => by simp [encZ]
  | z :: zs, h => by
    obtain ⟨h1, h2⟩ := encZ_len zs (fun x hx => h x (List.mem_cons_of_mem _ hx))
    obtain ⟨h3, h4⟩ := dig_len (h z (by simp))
    have e : encZ (z :: zs) = digZ (foldZ z) ++ encZ zs := by simp [encZ]
    rw [e]; simp; omega
theorem encZ_take (zs : List Int) (h : I32s zs) (k : Nat) : (encZ (zs.take k)).length ≤ 10 * zs.length := by
  have := (encZ_len (zs.take k) (fun x hx => h x (List.mem_of_mem_take hx))).2
  have h2 : (zs.take k).length ≤ zs.length := by simp; omega
  omega
theorem small1 (z : Int) (h0 : -128 ≤ z) (h1 : z ≤ 127) (w : World) :
    Calls Try.prog 24 #[.int .i64 z] w fun e w' => e = .returned (.slice (some ⟨w.heap.size, 0, none⟩) 1 1) ∧ w' = w.alloc (.cells #[.int .u8 (z % 256)] 5) := by
  go_enter Try.func24, Try.ntmps24
  go_wp2
  go_ret
  exact ⟨rfl, rfl⟩
theorem put8 (A : Option Addr) (zs : List Int) (n c : Nat) (hn : zs.length = n) (hl : n ≤ 1000) (hz : I8r zs) {B : Nat} (w : World) (hB : B ≤ w.heap.size) (hr : Kit.Rd w B A (zs.map (.int .i8))) :
    Calls Try.prog 23 #[.slice A n c, .func (.func 24) #[] #[]] w (Owned w 5 1 n (bytesV (smallZ zs))) := by
  have HN := Lib.hid hn
  have HR := Lib.hid hr
  have hlI : (n : Int) ≤ 1000 := by omega
  clear hn hr
  obtain ⟨i0, hi0, hi1, hi2, hi3⟩ := info_parts info_u8
  go_enter Try.func23, Try.ntmps23
  go_wp2_with (at_make; refine wpList_make_own _ rfl _ _ 25 rfl w.heap.size 5 i0 (.int .u8 0) 1 Try.underlying25 hi0 hi1 hi2 _ _ _ n rfl rfl (by omega) (by rw [hi3]; omega) (by unfold maxLen; omega) (Nat.le_refl _) ?_; intro w1 hown1 hg1)
  have HO := Lib.hid hown1
  have HB := Lib.hid ((Below.refl w.heap.size w).grown hg1 (Nat.le_refl _) (fun q hq => by cases hq))
  clear hown1 hg1
  go_loopw [5, 13] (fun b i wr => ∃ (k : Nat) (v : Value), k ≤ n ∧ i = .int .i64 k ∧ b = v ∧ Hid (wr.ownsRow w.heap.size 5 1 v k (bytesV (smallZ (zs.take k)))) ∧ Hid (Below w.heap.size w wr)) (fun _ i _ => n - (intOf i).toNat)
  case atStart => exact ⟨0, _, Nat.zero_le _, rfl, rfl, HO, HB⟩
  case round =>
    obtain ⟨k, v, hk, rfl, rfl, hO, hBw⟩ := hrel
    clear HO HB
    obtain ⟨Av, cv, rfl, -, -, -⟩ := Kit.own_rd hO.out
    by_cases hlt : k < n
    · have hkz : k < zs.length := by have := HN.out; omega
      have hkI : (k : Int) < (n : Int) := by omega
      obtain ⟨b1, off1, rfl, -, hcx⟩ := (HR.out.below (hBw.out.mono hB)).ints hkz
      obtain ⟨z1, z2⟩ := hz zs[k] (List.getElem_mem hkz)
      have ht := take_next hkz
      generalize zs[k] = z at hcx z1 z2 ht
      have HT := Lib.hid ht
      clear ht
      go_wp2_with (first
        | (go_at_call 24; (with_reducible refine (small1 z z1 z2 _).mono ?_); rintro e w' ⟨rfl, rfl⟩)
        | (at_builtin
           refine Kit.wpList_append_rd _ rfl (.tmp 17) (.tmp 21) _ rfl w.heap.size 5 i0 (.int .u8 0) 1 1 Try.underlying25 hi0 hi1 hi2 hi3 rfl (by decide) _ k (bytesV (smallZ (zs.take k))) rfl (hO.out.alloc _) _ _ 1 1 [.int .u8 (z % 256)] rfl rfl (Kit.Rd.new _ _ _ (Nat.lt_succ_self _)) (Kit.ints_one .u8 [z % 256]) (by unfold maxLen; omega) (by omega) (by have := hBw.out.size; simp; omega) ?_
           intro v2 w2 hown2 hg2 hat2
           have hB2 : Below w.heap.size w w2 := (hBw.out.alloc hBw.out.size _).grown hg2 (by have := hBw.out.size; simp; omega) (fun q hq => Kit.own_block_ge hO.out q hq)
           have e : bytesV (smallZ (zs.take k)) ++ [.int .u8 (z % 256)] = bytesV (smallZ (zs.take (k + 1))) := by rw [HT.out]; simp [smallZ, bytesV]
           rw [e] at hown2
           obtain ⟨A2, c2, rfl, -, -, -⟩ := Kit.own_rd hown2
           have HO3 := Lib.hid hown2
           have HB3 := Lib.hid hB2
           clear hown2 hg2 hat2 hB2 e))
      go_roundw
      case rel => exact ⟨k + 1, _, by omega, by go_num, rfl, HO3, HB3⟩
      case measure => simp [intOf]; omega
    · obtain rfl : k = n := by omega
      go_wp2_with fail
      go_ret
      refine ⟨_, rfl, ?_, hBw.out⟩
      have := hO.out
      rw [List.take_of_length_le (by have := HN.out; omega)] at this
      exact this
theorem refPut32 (n : Int) (h0 : 0 ≤ n) (h1 : n ≤ 4294967295) (w : World) :
    Calls Try.prog 8 #[.int .u32 n] w fun e w' => e = .returned (.slice (some ⟨w.heap.size, 0, none⟩) 4 4) ∧ w' = w.alloc (.cells #[.int .u8 (n % 256), .int .u8 (n / 256 % 256), .int .u8 (n / 65536 % 256), .int .u8 (n / 16777216)] 5) := by
  go_enter Try.func8, Try.ntmps8
  go_wp2
  go_ret
  exact ⟨rfl, rfl⟩
theorem put32 (n : Int) (h0 : 0 ≤ n) (h1 : n ≤ 4294967295) (w : World) :
    Calls Try.prog 9 #[.int .u32 n] w fun e w' => e = .returned (.slice (some ⟨w.heap.size, 0, none⟩) 4 4) ∧ w' = w.alloc (.cells #[.int .u8 (n % 256), .int .u8 (n / 256 % 256), .int .u8 (n / 65536 % 256), .int .u8 (n / 16777216)] 5) := by
  go_enter Try.func9, Try.ntmps9
  go_wp2
  go_ret
  exact ⟨rfl, rfl⟩
theorem get32_no (A : Option Addr) (n c : Nat) (hl : n < 4) (w : World) :
    Calls Try.prog 6 #[.slice A n c] w fun e w' => e = .returned (.tuple #[.int .u32 0, .bool false]) ∧ w = w' := by
  have hlI : (n : Int) < 4 := by omega
  go_enter Try.func6, Try.ntmps6
  go_wp2
  go_ret2
  exact ⟨rfl, rfl⟩
theorem or_z (i : Nat) (p x y : Int) (hp : p = ((2 ^ i : Nat) : Int)) (h0 : 0 ≤ x) (hx : x < p) (hy0 : 0 ≤ y) (hs : x + y * p ≤ 4294967295) : bits .or .u32 x (y * p) = x + y * p := by
  subst hp
  obtain ⟨a, rfl⟩ := Int.eq_ofNat_of_zero_le h0
  obtain ⟨b, rfl⟩ := Int.eq_ofNat_of_zero_le hy0
  have hx2 : a < 2 ^ i := by omega
  have hs2 : a + b * 2 ^ i ≤ 4294967295 := by
    have : ((a + b * 2 ^ i : Nat) : Int) ≤ 4294967295 := by simpa using hs
    omega
  have e : ((b : Int) * ((2 ^ i : Nat) : Int)) = ((b * 2 ^ i : Nat) : Int) := by simp
  rw [e]
  show IntKind.u32.wrap ((BitVec.ofInt 32 (a : Int) ||| BitVec.ofInt 32 ((b * 2 ^ i : Nat) : Int)).toNat : Int) = _
  rw [BitVec.toNat_or, BitVec.toNat_ofInt, BitVec.toNat_ofInt]
  have e1 : ((a : Int) % ((2 ^ 32 : Nat) : Int)).toNat = a := by omega
  have e2 : (((b * 2 ^ i : Nat) : Int) % ((2 ^ 32 : Nat) : Int)).toNat = b * 2 ^ i := by omega
  rw [e1, e2, Nat.or_comm, Nat.mul_comm b, ← Nat.two_pow_add_eq_or_of_lt hx2 b, IntKind.wrap_u32]
  have : a + 2 ^ i * b ≤ 4294967295 := by rw [Nat.mul_comm]; exact hs2
  omega
theorem get32_yes (b off n c : Nat) (hl : 4 ≤ n) (x0 x1 x2 x3 : Int) (w : World) (h0 : w.cell? ⟨b, off, none⟩ = some (.int .u8 x0)) (h1 : w.cell? ⟨b, off + 1, none⟩ = some (.int .u8 x1)) (h2 : w.cell? ⟨b, off + 2, none⟩ = some (.int .u8 x2)) (h3 : w.cell? ⟨b, off + 3, none⟩ = some (.int .u8 x3))
    (a0 : 0 ≤ x0 ∧ x0 ≤ 255) (a1 : 0 ≤ x1 ∧ x1 ≤ 255) (a2 : 0 ≤ x2 ∧ x2 ≤ 255) (a3 : 0 ≤ x3 ∧ x3 ≤ 255) :
    Calls Try.prog 6 #[.slice (some ⟨b, off, none⟩) n c] w fun e w' => e = .returned (.tuple #[.int .u32 (x0 + 256 * x1 + 65536 * x2 + 16777216 * x3), .bool true]) ∧ ∃ m, w' = w.drewN m := by
  have hlI : (4 : Int) ≤ (n : Int) := by omega
  obtain ⟨b0, b1⟩ := a0
  obtain ⟨b2, b3⟩ := a1
  obtain ⟨b4, b5⟩ := a2
  obtain ⟨b6, b7⟩ := a3
  have q1 := or_z 8 256 x0 x1 (by decide) b0 (by omega) b2 (by omega)
  have q2 := or_z 16 65536 (x0 + x1 * 256) x2 (by decide) (by omega) (by omega) b4 (by omega)
  have q3 := or_z 24 16777216 (x0 + x1 * 256 + x2 * 65536) x3 (by decide) (by omega) (by omega) b6 (by omega)
  go_enter Try.func6, Try.ntmps6
  go_wp2
  go_quiet (fail)
  go_wp2
  go_ret2
  refine ⟨?_, _, rfl⟩
  have e : x0 + x1 * 256 + x2 * 65536 + x3 * 16777216 = x0 + 256 * x1 + 65536 * x2 + 16777216 * x3 := by omega
  rw [← e]
  first | rfl | (simp only [q1, q2, q3]; rfl) | (show Ending.returned (.tuple #[.int .u32 (bits .or .u32 (bits .or .u32 (bits .or .u32 x0 (x1 * 256)) (x2 * 65536)) (x3 * 16777216)), .bool true]) = _; rw [q1, q2, q3])
theorem refSmall (A : Option Addr) (zs : List Int) (n c : Nat) (hn : zs.length = n) (hl : n ≤ 1000) (hz : I8r zs) {B : Nat} (w : World) (hB : B ≤ w.heap.size) (hr : Kit.Rd w B A (zs.map (.int .i8))) :
    Calls Try.prog 11 #[.slice A n c] w (Owned w 5 1 n (bytesV (smallZ zs))) := by
  have HN := Lib.hid hn
  have HR := Lib.hid hr
  have hlI : (n : Int) ≤ 1000 := by omega
  clear hn hr
  obtain ⟨i0, hi0, hi1, hi2, hi3⟩ := info_parts info_u8
  go_enter Try.func11, Try.ntmps11
  go_wp2_with fail
  go_loopw [3, 4] (fun b i wr => ∃ (k : Nat) (v : Value), k ≤ n ∧ i = .int .i64 k ∧ b = v ∧ Hid (wr.ownsRow w.heap.size 5 1 v k (bytesV (smallZ (zs.take k)))) ∧ Hid (Below w.heap.size w wr)) (fun _ i _ => n - (intOf i).toNat)
  case atStart => exact ⟨0, _, Nat.zero_le _, rfl, rfl, Lib.hid ⟨by simp [bytesV, smallZ], .inl ⟨rfl, rfl⟩⟩, Lib.hid (Below.refl _ _)⟩
  case round =>
    obtain ⟨k, v, hk, rfl, rfl, hO, hBw⟩ := hrel
    obtain ⟨Av, cv, rfl, -, -, -⟩ := Kit.own_rd hO.out
    by_cases hlt : k < n
    · have hkz : k < zs.length := by have := HN.out; omega
      have hkI : (k : Int) < (n : Int) := by omega
      obtain ⟨b1, off1, rfl, -, hcx⟩ := (HR.out.below (hBw.out.mono hB)).ints hkz
      obtain ⟨z1, z2⟩ := hz zs[k] (List.getElem_mem hkz)
      have ht := take_next hkz
      generalize zs[k] = z at hcx z1 z2 ht
      have HT := Lib.hid ht
      clear ht
      go_wp2_with (
           at_builtin
           refine Kit.wpList_append_rd _ rfl (.tmp 11) (.tmp 17) _ rfl w.heap.size 5 i0 (.int .u8 0) 1 1 Try.underlying25 hi0 hi1 hi2 hi3 rfl (by decide) _ k (bytesV (smallZ (zs.take k))) rfl (hO.out.alloc _) _ _ 1 1 [.int .u8 (z % 256)] rfl rfl (Kit.Rd.new _ _ _ (Nat.lt_succ_self _)) (Kit.ints_one .u8 [z % 256]) (by unfold maxLen; omega) (by omega) (by have := hBw.out.size; simp; omega) ?_
           intro v2 w2 hown2 hg2 hat2
           have hB2 : Below w.heap.size w w2 := (hBw.out.alloc hBw.out.size _).grown hg2 (by have := hBw.out.size; simp; omega) (fun q hq => Kit.own_block_ge hO.out q hq)
           have e : bytesV (smallZ (zs.take k)) ++ [.int .u8 (z % 256)] = bytesV (smallZ (zs.take (k + 1))) := by rw [HT.out]; simp [smallZ, bytesV]
           rw [e] at hown2
           obtain ⟨A2, c2, rfl, -, -, -⟩ := Kit.own_rd hown2
           have HO3 := Lib.hid hown2
           have HB3 := Lib.hid hB2
           clear hown2 hg2 hat2 hB2 e)
      go_roundw
      case rel => exact ⟨k + 1, _, by omega, by go_num, rfl, HO3, HB3⟩
      case measure => simp [intOf]; omega
    · obtain rfl : k = n := by omega
      go_wp2_with fail
      go_ret
      refine ⟨_, rfl, ?_, hBw.out⟩
      have := hO.out
      rw [List.take_of_length_le (by have := HN.out; omega)] at this
      exact this
set_option maxHeartbeats 1000000 in
theorem putW (A : Option Addr) (zs : List Int) (n c : Nat) (hn : zs.length = n) (hl : n ≤ 1000) (hz : I32s zs) {B : Nat} (w : World) (hB : B ≤ w.heap.size) (hr : Kit.Rd w B A (zs.map (.int .i32))) :
    Calls Try.prog 25 #[.slice A n c, .func (.func 26) #[] #[]] w (Owned w 5 1 (encZ zs).length (bytesV (encZ zs))) := by
  have HN := Lib.hid hn
  have HR := Lib.hid hr
  have HZ := Lib.hid hz
  have hlI : (n : Int) ≤ 1000 := by omega
  clear hn hr
  obtain ⟨i0, hi0, hi1, hi2, hi3⟩ := info_parts info_u8
  go_enter Try.func25, Try.ntmps25
  go_wp2_with (at_make; refine wpList_make_own _ rfl _ _ 25 rfl w.heap.size 5 i0 (.int .u8 0) 1 Try.underlying25 hi0 hi1 hi2 _ _ _ n rfl rfl (by omega) (by rw [hi3]; omega) (by unfold maxLen; omega) (Nat.le_refl _) ?_; intro w1 hown1 hg1)
  have HO := Lib.hid hown1
  have HB := Lib.hid ((Below.refl w.heap.size w).grown hg1 (Nat.le_refl _) (fun q hq => by cases hq))
  clear hown1 hg1
  go_loopw [5, 13] (fun b i wr => ∃ (k : Nat) (v : Value), k ≤ n ∧ i = .int .i64 k ∧ b = v ∧ Hid (wr.ownsRow w.heap.size 5 1 v (encZ (zs.take k)).length (bytesV (encZ (zs.take k)))) ∧ Hid (Below w.heap.size w wr)) (fun _ i _ => n - (intOf i).toNat)
  case atStart => exact ⟨0, _, Nat.zero_le _, rfl, rfl, HO, HB⟩
  case round =>
    obtain ⟨k, v, hk, rfl, rfl, hO, hBw⟩ := hrel
    clear HO HB
    have hLb := encZ_take zs HZ.out k
    obtain ⟨es, hes⟩ : ∃ es, encZ (zs.take k) = es := ⟨_, rfl⟩
    rw [hes] at hO hLb
    obtain ⟨L, hL⟩ : ∃ L, es.length = L := ⟨_, rfl⟩
    rw [hL] at hO hLb
    rw [HN.out] at hLb
    have HES := Lib.hid hes
    have HL := Lib.hid hL
    clear hes hL
    obtain ⟨Av, cv, rfl, -, -, -⟩ := Kit.own_rd hO.out
    by_cases hlt : k < n
    · have hkz : k < zs.length := by have := HN.out; omega
      have hkI : (k : Int) < (n : Int) := by omega
      obtain ⟨b1, off1, rfl, -, hcx⟩ := (HR.out.below (hBw.out.mono hB)).ints hkz
      have hzb := hz zs[k] (List.getElem_mem hkz)
      have ht := take_next hkz
      generalize zs[k] = z at hcx hzb ht
      obtain ⟨z1, z2⟩ := hzb
      obtain ⟨d1, d2⟩ := dig_len (z := z) ⟨z1, z2⟩
      obtain ⟨f, hf⟩ : ∃ f, foldZ z = f := ⟨_, rfl⟩
      obtain ⟨f1, f2⟩ := foldZ_bd (v := z) (by omega) (by omega)
      rw [hf] at f1 f2 d1 d2
      obtain ⟨ds, hds⟩ : ∃ ds, digZ f = ds := ⟨_, rfl⟩
      rw [hds] at d1 d2
      obtain ⟨D, hD⟩ : ∃ D, ds.length = D := ⟨_, rfl⟩
      rw [hD] at d1 d2
      have HT := Lib.hid ht
      have HF := Lib.hid hf
      have HD := Lib.hid hds
      have HDL := Lib.hid hD
      have HFD := Lib.hid (show digZ (foldZ z) = ds by rw [hf, hds])
      clear ht hf hds hD
      go_wp2_with (first
        | (go_at_call 26
           with_reducible refine (putInt_to z (by omega) (by omega) ds D HFD.out HDL.out _).mono ?_
           rintro e w1 ⟨A1, c1, rfl, -, -, hr1, hb1⟩
           have HO1 := Lib.hid (Kit.own_below hO.out hb1)
           have HR1 := Lib.hid hr1
           have HB1 := Lib.hid (hBw.out.trans (hb1.mono hBw.out.size))
           clear hr1 hb1)
        | (at_builtin
           refine Kit.wpList_append_rd _ rfl (.tmp 17) (.tmp 21) _ rfl w.heap.size 5 i0 (.int .u8 0) 1 1 Try.underlying25 hi0 hi1 hi2 hi3 rfl (by decide) _ L (bytesV es) rfl HO1.out _ A1 D c1 (bytesV ds) rfl (by simp [bytesV, HDL.out]) HR1.out (Kit.ints_one .u8 ds) (by unfold maxLen; omega) (by omega) HB1.out.size ?_
           intro v2 w2 hown2 hg2 hat2
           have hB2 : Below w.heap.size w w2 := HB1.out.grown hg2 HB1.out.size (fun q hq => Kit.own_block_ge HO1.out q hq)
           have e : bytesV es ++ bytesV ds = bytesV (encZ (zs.take (k + 1))) := by rw [HT.out, encZ_snoc, HES.out, HFD.out]; simp [bytesV]
           have e2 : L + D = (encZ (zs.take (k + 1))).length := by rw [HT.out, encZ_snoc, HES.out, HFD.out, List.length_append, HL.out, HDL.out]
           obtain ⟨A2, c2, rfl, -, -, -⟩ := Kit.own_rd hown2
           have HO3 : Hid (w2.ownsRow w.heap.size 5 1 (.slice A2 (L + D) c2) (encZ (zs.take (k + 1))).length (bytesV (encZ (zs.take (k + 1))))) := by
             rw [← e2, ← e]; exact Lib.hid hown2
           have HB3 := Lib.hid hB2
           clear hown2 hg2 hat2 hB2 e e2))
      go_roundw
      case rel => exact ⟨k + 1, _, by omega, by go_num, rfl, HO3, HB3⟩
      case measure => simp [intOf]; omega
    · obtain rfl : k = n := by omega
      go_wp2_with fail
      go_ret
      refine ⟨_, rfl, ?_, hBw.out⟩
      have h1 := hO.out
      have h2 : encZ zs = es := by rw [← HES.out, List.take_of_length_le (by have := HN.out; omega)]
      rw [h2, HL.out]
      exact h1
set_option maxHeartbeats 1000000 in
theorem refWide (A : Option Addr) (zs : List Int) (n c : Nat) (hn : zs.length = n) (hl : n ≤ 1000) (hz : I32s zs) {B : Nat} (w : World) (hB : B ≤ w.heap.size) (hr : Kit.Rd w B A (zs.map (.int .i32))) :
    Calls Try.prog 13 #[.slice A n c] w (Owned w 5 1 (encZ zs).length (bytesV (encZ zs))) := by
  have HN := Lib.hid hn
  have HR := Lib.hid hr
  have HZ := Lib.hid hz
  have hlI : (n : Int) ≤ 1000 := by omega
  clear hn hr
  obtain ⟨i0, hi0, hi1, hi2, hi3⟩ := info_parts info_u8
  go_enter Try.func13, Try.ntmps13
  go_wp2_with fail
  go_loopw [3, 4] (fun b i wr => ∃ (k : Nat) (v : Value), k ≤ n ∧ i = .int .i64 k ∧ b = v ∧ Hid (wr.ownsRow w.heap.size 5 1 v (encZ (zs.take k)).length (bytesV (encZ (zs.take k)))) ∧ Hid (Below w.heap.size w wr)) (fun _ i _ => n - (intOf i).toNat)
  case atStart => exact ⟨0, _, Nat.zero_le _, rfl, rfl, Lib.hid ⟨by simp [bytesV, encZ], .inl ⟨rfl, by simp [encZ]⟩⟩, Lib.hid (Below.refl _ _)⟩
  case round =>
    obtain ⟨k, v, hk, rfl, rfl, hO, hBw⟩ := hrel
    have hLb := encZ_take zs HZ.out k
    obtain ⟨es, hes⟩ : ∃ es, encZ (zs.take k) = es := ⟨_, rfl⟩
    rw [hes] at hO hLb
    obtain ⟨L, hL⟩ : ∃ L, es.length = L := ⟨_, rfl⟩
    rw [hL] at hO hLb
    rw [HN.out] at hLb
    have HES := Lib.hid hes
    have HL := Lib.hid hL
    clear hes hL
    obtain ⟨Av, cv, rfl, -, -, -⟩ := Kit.own_rd hO.out
    by_cases hlt : k < n
    · have hkz : k < zs.length := by have := HN.out; omega
      have hkI : (k : Int) < (n : Int) := by omega
      obtain ⟨b1, off1, rfl, -, hcx⟩ := (HR.out.below (hBw.out.mono hB)).ints hkz
      have hzb := hz zs[k] (List.getElem_mem hkz)
      have ht := take_next hkz
      generalize zs[k] = z at hcx hzb ht
      obtain ⟨z1, z2⟩ := hzb
      obtain ⟨d1, d2⟩ := dig_len (z := z) ⟨z1, z2⟩
      obtain ⟨f, hf⟩ : ∃ f, foldZ z = f := ⟨_, rfl⟩
      obtain ⟨f1, f2⟩ := foldZ_bd (v := z) (by omega) (by omega)
      rw [hf] at f1 f2 d1 d2
      obtain ⟨ds, hds⟩ : ∃ ds, digZ f = ds := ⟨_, rfl⟩
      rw [hds] at d1 d2
      obtain ⟨D, hD⟩ : ∃ D, ds.length = D := ⟨_, rfl⟩
      rw [hD] at d1 d2
      have HT := Lib.hid ht
      have HF := Lib.hid hf
      have HD := Lib.hid hds
      have HDL := Lib.hid hD
      have HFD := Lib.hid (show digZ (foldZ z) = ds by rw [hf, hds])
      clear ht hf hds hD
      go_wp2_with (first
        | (go_at_call 27
           with_reducible refine (fold_to z f (by omega) (by omega) HF.out _).mono ?_
           rintro e w' ⟨rfl, rfl⟩)
        | (go_at_call 14
           with_reducible refine (refPut_to f f1 f2 ds D HD.out HDL.out _).mono ?_
           rintro e w1 ⟨A1, c1, rfl, -, -, hr1, hb1⟩
           have HO1 := Lib.hid (Kit.own_below hO.out hb1)
           have HR1 := Lib.hid hr1
           have HB1 := Lib.hid (hBw.out.trans (hb1.mono hBw.out.size))
           clear hr1 hb1)
        | (at_builtin
           refine Kit.wpList_append_rd _ rfl (.tmp 11) (.tmp 18) _ rfl w.heap.size 5 i0 (.int .u8 0) 1 1 Try.underlying25 hi0 hi1 hi2 hi3 rfl (by decide) _ L (bytesV es) rfl HO1.out _ A1 D c1 (bytesV ds) rfl (by simp [bytesV, HDL.out]) HR1.out (Kit.ints_one .u8 ds) (by unfold maxLen; omega) (by omega) HB1.out.size ?_
           intro v2 w2 hown2 hg2 hat2
           have hB2 : Below w.heap.size w w2 := HB1.out.grown hg2 HB1.out.size (fun q hq => Kit.own_block_ge HO1.out q hq)
           have e : bytesV es ++ bytesV ds = bytesV (encZ (zs.take (k + 1))) := by rw [HT.out, encZ_snoc, HES.out, HFD.out]; simp [bytesV]
           have e2 : L + D = (encZ (zs.take (k + 1))).length := by rw [HT.out, encZ_snoc, HES.out, HFD.out, List.length_append, HL.out, HDL.out]
           obtain ⟨A2, c2, rfl, -, -, -⟩ := Kit.own_rd hown2
           have HO3 : Hid (w2.ownsRow w.heap.size 5 1 (.slice A2 (L + D) c2) (encZ (zs.take (k + 1))).length (bytesV (encZ (zs.take (k + 1))))) := by
             rw [← e2, ← e]; exact Lib.hid hown2
           have HB3 := Lib.hid hB2
           clear hown2 hg2 hat2 hB2 e e2))
      go_roundw
      case rel => exact ⟨k + 1, _, by omega, by go_num, rfl, HO3, HB3⟩
      case measure => simp [intOf]; omega
    · obtain rfl : k = n := by omega
      go_wp2_with fail
      go_ret
      refine ⟨_, rfl, ?_, hBw.out⟩
      have h1 := hO.out
      have h2 : encZ zs = es := by rw [← HES.out, List.take_of_length_le (by have := HN.out; omega)]
      rw [h2, HL.out]
      exact h1
end Go.Proofs.Ytkmcmaickopobac.COctet
