/- OctetBack: what was put is read, whatever stands behind it; the call returns true and leaves its arguments as they were. No condition. -/
import Derived.Test.YtkmcmaickopobacOctetSame
import Derived.Deep.RegionHeld3
import Derived.Deep.CutRange
namespace Go.Proofs.Ytkmcmaickopobac.lawOctetBack
open Go Go.ChangeShapes Go.WideShapes Go.ChangeAt Go.RowKit
open LebNum CLeb COctet
set_option linter.unusedVariables false

theorem bytes_of {zs : List Int} (hw : ∀ n ∈ zs, (Lit.int .u8 n).wf = true) : Bytes zs := fun z hz => by
  obtain ⟨h1, h2⟩ := bounds_u8 (hw z hz)
  omega
theorem digN_bytes (k : Nat) : ∀ n : Nat, n ≤ k → Bytes (digN n) := by
  induction k with
  | zero => intro n hn z hz; rw [digN, dif_pos (by omega)] at hz; simp at hz; omega
  | succ k ih =>
    intro n hn z hz
    rw [digN] at hz
    by_cases h : n < 128
    · rw [dif_pos h] at hz; simp at hz; omega
    · rw [dif_neg h] at hz
      rcases List.mem_cons.1 hz with rfl | hz
      · omega
      · exact ih (n / 128) (by omega) z hz
theorem digZ_bytes (n : Int) : Bytes (digZ n) := digN_bytes n.toNat n.toNat (Nat.le_refl _)
theorem bytes_app {xs ys : List Int} (h1 : Bytes xs) (h2 : Bytes ys) : Bytes (xs ++ ys) := fun z hz => by
  rcases List.mem_append.1 hz with h | h
  · exact h1 z h
  · exact h2 z h
theorem smallZ_bytes (zs : List Int) : Bytes (smallZ zs) := fun z hz => by
  unfold smallZ at hz
  obtain ⟨a, _, rfl⟩ := List.mem_map.1 hz
  omega
theorem encZ_bytes (zs : List Int) : Bytes (encZ zs) := fun z hz => by
  unfold encZ at hz
  obtain ⟨a, _, h⟩ := List.mem_flatMap.1 hz
  exact digZ_bytes _ z h
theorem i8s_of {zs : List Int} (hw : ∀ n ∈ zs, (Lit.int .i8 n).wf = true) : I8r zs := fun z h => bounds_i8 (hw z h)
theorem i32s_of {zs : List Int} (hw : ∀ n ∈ zs, (Lit.int .i32 n).wf = true) : I32s zs := fun z h => bounds_i32 (hw z h)
theorem own_empty (w : World) (T : TypeId) : (w.alloc (.cells #[] T)).ownsRow w.heap.size T 1 (.slice (some ⟨w.heap.size, 0, none⟩) 0 0) 0 [] :=
  ⟨rfl, .inr ⟨w.heap.size, 0, #[], rfl, Nat.le_refl _, heap_alloc_new w _, Nat.le_refl _, Nat.zero_le _, rfl, rfl⟩⟩
theorem info_u8 : (Try.prog.info? 5).map (fun i => (i.zero, i.size, i.bytes)) = some (some (.int .u8 0), 1, 1) := by kernel_rfl
theorem info_parts {P : Program} {t : TypeId} {z : Option Value} {s b : Nat} (h : (P.info? t).map (fun i => (i.zero, i.size, i.bytes)) = some (z, s, b)) : ∃ i, P.info? t = some i ∧ i.zero = z ∧ i.size = s ∧ i.bytes = b := by
  cases hi : P.info? t with
  | none => rw [hi] at h; cases h
  | some i => rw [hi] at h; simp at h; exact ⟨i, rfl, h.1, h.2.1, h.2.2⟩
theorem rd_past {w w' : World} {g : Nat} {A : Option Addr} {xs : List Value} (h : Kit.Rd w w.heap.size A xs) (ha : ∀ ad, A = some ad → g < ad.block) (hg : w.grownBy w' (some g)) : Kit.Rd w' w'.heap.size A xs := fun j u hu => by
  obtain ⟨ad, rfl, hb, hc⟩ := h j u hu
  refine ⟨ad, rfl, Nat.lt_of_lt_of_le hb hg.size, ?_⟩
  have h1 := ha ad rfl
  refine (World.cell?_of_block (w := w) ?_).trans hc
  rw [Kit.add_block]
  exact hg.block ad.block hb (fun e => by cases e; omega)
theorem _root_.Go.Proofs.Ytkmcmaickopobac.COctet.ReaderAt.drewN {B n c : Nat} {A : Option Addr} {W : World} (h : ReaderAt B A n c W) (m : Nat) : ReaderAt B A n c (W.drewN m) := h

theorem walk_long {w : World} (n : Int) (A : Option Addr) (N k : Nat) (B : Option Addr) (M l : Nat) (C : Option Addr) (L m : Nat) (hl : 300 < N ∨ 300 < M ∨ 300 < L) :
    Calls Try.prog 4 #[.slice A N k, .slice B M l, .int .u16 n, .slice C L m] w fun e w' => e = .returned (.bool true) ∧ Below w.heap.size w w' := by
  have fin : ∀ (q : Nat), 300 < q ∨ q ≤ 300 := fun q => by omega
  rcases fin N with h1 | h1
  · have h1I : (300 : Int) < (N : Int) := by omega
    clear hl
    go_enter Try.func4, Try.ntmps4
    go_wp2_with (go_at_call 5; (refine (known08 _).mono ?_); rintro e w1 ⟨rfl, hb1⟩; (have HB := Lib.hid hb1); clear hb1)
    go_ret
    exact ⟨rfl, HB.out⟩
  · have h1I : (N : Int) ≤ 300 := by omega
    rcases fin M with h2 | h2
    · have h2I : (300 : Int) < (M : Int) := by omega
      clear hl
      go_enter Try.func4, Try.ntmps4
      go_wp2_with (go_at_call 5; (refine (known08 _).mono ?_); rintro e w1 ⟨rfl, hb1⟩; (have HB := Lib.hid hb1); clear hb1)
      go_ret
      exact ⟨rfl, HB.out⟩
    · have h2I : (M : Int) ≤ 300 := by omega
      have h3 : 300 < L := by omega
      have h3I : (300 : Int) < (L : Int) := by omega
      clear hl
      go_enter Try.func4, Try.ntmps4
      go_wp2_with (go_at_call 5; (refine (known08 _).mono ?_); rintro e w1 ⟨rfl, hb1⟩; (have HB := Lib.hid hb1); clear hb1)
      go_ret
      exact ⟨rfl, HB.out⟩
set_option maxRecDepth 100000 in
set_option maxHeartbeats 4000000 in
theorem walk_short {w : World} (n : Int) (n1 : 0 ≤ n) (n2 : n ≤ 65535) (A : Option Addr) (zs : List Int) (N k : Nat) (hN : zs.length = N) (hNl : N ≤ 300) (hz : I8r zs) (hrA : Kit.Rd w w.heap.size A (zs.map (.int .i8)))
    (B : Option Addr) (ws : List Int) (M l : Nat) (hM : ws.length = M) (hMl : M ≤ 300) (hw : I32s ws) (hrB : Kit.Rd w w.heap.size B (ws.map (.int .i32)))
    (C : Option Addr) (bs : List Int) (L m : Nat) (hL : bs.length = L) (hLl : L ≤ 300) (hb : Bytes bs) (hrC : Kit.Rd w w.heap.size C (bytesV bs)) (r : Int) (hr : (if 0 < L then 24 else 0) = r) (qq : Bool) (hq1 : ((L : Int) == 0) = qq) (hq2 : (r == 0) = qq) :
    Calls Try.prog 4 #[.slice A N k, .slice B M l, .int .u16 n, .slice C L m] w fun e w' => e = .returned (.bool true) ∧ Below w.heap.size w w' := by
  have hNI : (N : Int) ≤ 300 := by omega
  have hMI : (M : Int) ≤ 300 := by omega
  have hLI : (L : Int) ≤ 300 := by omega
  have n3 : n ≤ 18446744073709551615 := by omega
  have n4 : n ≤ 9223372036854775807 := by omega
  obtain ⟨D0, hD0⟩ : ∃ D0, (digZ n).length = D0 := ⟨_, rfl⟩
  obtain ⟨D, hD⟩ : ∃ D, (encZ ws).length = D := ⟨_, rfl⟩
  have hD0l : D0 ≤ 10 := by have := (digZ_len n1 n3).2; omega
  have hDl : D ≤ 3000 := by have := (encZ_len ws hw).2; omega
  have hN6 : N ≤ 1000 := by omega
  have hM6 : M ≤ 1000 := by omega
  have hN7 : N ≤ 1000000 := by omega
  have hM7 : M ≤ 1000000 := by omega
  have hsz : (smallZ zs).length = N := by simp [smallZ, hN]
  have hall : (digZ n ++ (encZ ws ++ (smallZ zs ++ bs))).length = D0 + D + N + L := by simp [hD0, hD, hsz, hL]; omega
  have hall1 : (encZ ws ++ (smallZ zs ++ bs)).length = D + N + L := by simp [hD, hsz, hL]; omega
  have hall2 : (smallZ zs ++ bs).length = N + L := by simp [hsz, hL]
  have hb2 : Bytes (smallZ zs ++ bs) := bytes_app (smallZ_bytes zs) hb
  have hb1 : Bytes (encZ ws ++ (smallZ zs ++ bs)) := bytes_app (encZ_bytes ws) hb2
  have hb0 : Bytes (digZ n ++ (encZ ws ++ (smallZ zs ++ bs))) := bytes_app (digZ_bytes n) hb1
  have hg := getR_dig n1 n3 (encZ ws ++ (smallZ zs ++ bs))
  rw [hD0] at hg
  have T8 : D0 + D + N + L ≤ 1000000 := by omega
  have T7 : D + N + L ≤ 1000000 := by omega
  have T6 : N + L ≤ 1000000 := by omega
  have HQ1 := hq1
  have HQ2 := hq2
  have HR := Lib.hid hr
  have HN := Lib.hid hN
  have HM := Lib.hid hM
  have HL := Lib.hid hL
  have HZ := Lib.hid hz
  have HW := Lib.hid hw
  have HD0 := Lib.hid hD0
  have HDD := Lib.hid hD
  have HSZ := Lib.hid hsz
  have HALL := Lib.hid hall
  have HALL1 := Lib.hid hall1
  have HALL2 := Lib.hid hall2
  have HBY := Lib.hid hb0
  have HBY1 := Lib.hid hb1
  have HBY2 := Lib.hid hb2
  have HGET := Lib.hid hg
  have HRA := Lib.hid hrA
  have HRB := Lib.hid hrB
  have HRC := Lib.hid hrC
  clear hr hN hM hL hz hw hD0 hD hsz hall hall1 hall2 hb hb0 hb1 hb2 hg hrA hrB hrC hq1 hq2
  obtain ⟨i0, hi0, hi1, hi2, hi3⟩ := info_parts info_u8
  go_enter Try.func4, Try.ntmps4
  go_wp2_with (first
    | (go_at_call 14
       refine (refPut_to n n1 n3 (digZ n) D0 rfl HD0.out _).mono ?_
       rintro e w1 ⟨A1, c1, rfl, -, -, hr1, hb1⟩
       have HO := Lib.hid (Kit.own_below (own_empty w 5) hb1)
       have HB := Lib.hid (((Below.refl w.heap.size w).alloc (Nat.le_refl _) _).trans (hb1.mono (by simp)))
       have R1 := Lib.hid hr1
       clear hr1 hb1)
    | (at_builtin
       refine Kit.wpList_append_rd _ rfl (.tmp 28) (.tmp 31) _ rfl w.heap.size 5 i0 (.int .u8 0) 1 1 Try.underlying25 hi0 hi1 hi2 hi3 rfl (by decide) _ 0 [] rfl HO.out _ A1 D0 c1 (bytesV (digZ n)) rfl (by simp [bytesV, HD0.out]) R1.out (Kit.ints_one .u8 (digZ n)) (by unfold maxLen; omega) (by omega) HB.out.size ?_
       intro v2 w2 hown2 hg2 hat2
       have hB := HB.out.grown hg2 HB.out.size (fun q hq => Kit.own_block_ge HO.out q hq)
       rw [Nat.zero_add, List.nil_append] at hown2
       replace HO := Lib.hid hown2
       replace HB := Lib.hid hB
       clear hown2 hg2 hat2 hB R1)
    | (go_at_call 12
       refine (wide_to B ws M l HM.out hM6 HW.out D HDD.out _ HB.out.size (HRB.out.below HB.out)).mono ?_
       rintro e w3 ⟨A3, c3, rfl, -, -, hr3, hb3⟩
       replace HO := Lib.hid (Kit.own_below HO.out hb3)
       replace HB := Lib.hid (HB.out.trans (hb3.mono HB.out.size))
       have R3 := Lib.hid hr3
       clear hr3 hb3)
    | (at_builtin
       refine Kit.wpList_append_rd _ rfl (.tmp 32) (.tmp 34) _ rfl w.heap.size 5 i0 (.int .u8 0) 1 1 Try.underlying25 hi0 hi1 hi2 hi3 rfl (by decide) _ D0 (bytesV (digZ n)) rfl HO.out _ A3 D c3 (bytesV (encZ ws)) rfl (by simp [bytesV, HDD.out]) R3.out (Kit.ints_one .u8 (encZ ws)) (by unfold maxLen; omega) (by omega) HB.out.size ?_
       intro v4 w4 hown4 hg4 hat4
       have hB := HB.out.grown hg4 HB.out.size (fun q hq => Kit.own_block_ge HO.out q hq)
       replace HO := Lib.hid hown4
       replace HB := Lib.hid hB
       clear hown4 hg4 hat4 hB R3)
    | (go_at_call 10
       refine (small_to A zs N k HN.out hN6 HZ.out _ HB.out.size (HRA.out.below HB.out)).mono ?_
       rintro e w5 ⟨A5, c5, rfl, -, -, hr5, hb5⟩
       replace HO := Lib.hid (Kit.own_below HO.out hb5)
       replace HB := Lib.hid (HB.out.trans (hb5.mono HB.out.size))
       have R5 := Lib.hid hr5
       clear hr5 hb5)
    | (at_builtin
       refine Kit.wpList_append_rd _ rfl (.tmp 35) (.tmp 37) _ rfl w.heap.size 5 i0 (.int .u8 0) 1 1 Try.underlying25 hi0 hi1 hi2 hi3 rfl (by decide) _ (D0 + D) (bytesV (digZ n) ++ bytesV (encZ ws)) rfl HO.out _ A5 N c5 (bytesV (smallZ zs)) rfl (by simp [bytesV, HSZ.out]) R5.out (Kit.ints_one .u8 (smallZ zs)) (by unfold maxLen; omega) (by omega) HB.out.size ?_
       intro v6 w6 hown6 hg6 hat6
       have hB := HB.out.grown hg6 HB.out.size (fun q hq => Kit.own_block_ge HO.out q hq)
       have hrc := HRC.out.below hB
       replace HO := Lib.hid hown6
       replace HB := Lib.hid hB
       have R6 := Lib.hid hrc
       clear hown6 hg6 hat6 hB R5 hrc)
    | (at_builtin
       refine Kit.wpList_append_rd _ rfl (.tmp 38) (.tmp 39) _ rfl w.heap.size 5 i0 (.int .u8 0) 1 1 Try.underlying25 hi0 hi1 hi2 hi3 rfl (by decide) _ (D0 + D + N) (bytesV (digZ n) ++ bytesV (encZ ws) ++ bytesV (smallZ zs)) rfl HO.out _ C L m (bytesV bs) rfl (by simp [bytesV, HL.out]) R6.out (Kit.ints_one .u8 bs) (by unfold maxLen; omega) (by omega) HB.out.size ?_
       intro v7 w7 hown7 hg7 hat7
       have hB := HB.out.grown hg7 HB.out.size (fun q hq => Kit.own_block_ge HO.out q hq)
       obtain ⟨A8, c8, rfl, -, -, hrd⟩ := Kit.own_rd hown7
       rw [show bytesV (digZ n) ++ bytesV (encZ ws) ++ bytesV (smallZ zs) ++ bytesV bs = bytesV (digZ n ++ (encZ ws ++ (smallZ zs ++ bs))) by simp [bytesV]] at hrd
       replace HB := Lib.hid hB
       have R8 := Lib.hid hrd
       clear hown7 hg7 hat7 hB R6 hrd HO)
    | (go_at_call 15
       refine (read_to A8 (digZ n ++ (encZ ws ++ (smallZ zs ++ bs))) (D0 + D + N + L) c8 HALL.out T8 _ (Nat.le_refl _) R8.out).mono ?_
       rintro e w9 ⟨g, hg1, hg2, rfl, ⟨A9, c9, hr9, hc9, hrr9⟩, hb9⟩
       have hgw : w.heap.size ≤ g := Nat.le_trans HB.out.size hg1
       replace HB := Lib.hid (HB.out.trans (hb9.mono HB.out.size))
       have HRD := Lib.hid hr9
       have HRR := Lib.hid hrr9
       clear hr9 hrr9 hb9 R8 hg1)
    | (go_at_call 16
       refine (countC_to g _ A9 _ (D0 + D + N + L) c9 HALL.out hc9 T8 HBY.out n D0 HGET.out n2 HRD.out HRR.out).mono ?_
       rintro e w10 ⟨rfl, ⟨A10, c10, hr10, hc10, hrr10, hgr10⟩⟩
       rw [List.drop_left' HD0.out] at hrr10
       rw [show D0 + D + N + L - D0 = D + N + L by omega] at hr10 hc10
       have hg10 : g < w10.heap.size := Nat.lt_of_lt_of_le hg2 hgr10.size
       replace HB := Lib.hid (HB.out.grown hgr10 HB.out.size (fun q hq => by cases hq; exact hgw))
       replace HRD := Lib.hid hr10
       replace HRR := Lib.hid hrr10
       clear hr10 hrr10 hgr10)
    | (go_at_call 17
       refine (wideR_to g _ hg10 A10 _ ws (smallZ zs ++ bs) (D + N + L) c10 M HALL1.out hc10 T7 HBY1.out HM.out hM6 rfl HW.out HRD.out HRR.out).mono ?_
       rintro e w11 ⟨A11, c11, rfl, hl11, hge11, ⟨A12, c12, hr12, hc12, hrr12, hgr12⟩⟩
       rw [HALL2.out] at hr12 hc12
       have hg11 : g < w11.heap.size := Nat.lt_of_lt_of_le hg10 hgr12.size
       replace HB := Lib.hid (HB.out.grown hgr12 HB.out.size (fun q hq => by cases hq; exact hgw))
       replace HRD := Lib.hid hr12
       replace HRR := Lib.hid hrr12
       have HX := Lib.hid hl11
       have HXG := Lib.hid (show ∀ ad, A11 = some ad → g < ad.block from fun ad h => Nat.lt_of_lt_of_le hg10 (hge11 ad h))
       clear hr12 hrr12 hgr12 hl11 hge11)
    | (go_at_call 18
       refine (smallR_to g _ hg11 A12 _ zs bs (N + L) c12 N HALL2.out hc12 T6 HBY2.out HN.out hN6 rfl HZ.out HRD.out HRR.out).mono ?_
       rintro e w13 ⟨A13, c13, rfl, hl13, hge13, ⟨A14, c14, hr14, hc14, hrr14, hgr14⟩⟩
       rw [HL.out] at hr14
       replace HB := Lib.hid (HB.out.grown hgr14 HB.out.size (fun q hq => by cases hq; exact hgw))
       replace HRD := Lib.hid hr14
       replace HX := Lib.hid (rd_past HX.out HXG.out hgr14)
       have HY := Lib.hid hl13
       clear hr14 hrr14 hgr14 hl13 hge13 HRR HXG hc14)
    | (go_at_call 19
       (with_reducible refine (fsame32_yes A11 B ws M c11 l HM.out.symm hM7 _ HX.out (HRB.out.below HB.out)).mono ?_)
       rintro e w15 ⟨rfl, m15, rfl⟩
       have HB13 := HB
       have HRD13 := HRD
       replace HB := Lib.hid (Kit.below_drewN HB.out m15)
       replace HY := Lib.hid (HY.out.drewN m15)
       clear HX)
    | (go_at_call 20
       (refine (fsame_yes A13 A zs N c13 k HN.out.symm hN7 _ HY.out (HRA.out.below HB.out)).mono ?_)
       rintro e w16 ⟨rfl, m16, rfl⟩
       replace HB := Lib.hid (Kit.below_drewN HB13.out (m15 + m16))
       replace HRD := Lib.hid (HRD13.out.drewN (m15 + m16))
       clear HY)
    | (go_at_call 21; (refine (left_to g _ A14 L c14 HRD.out).mono ?_); rintro e w' ⟨rfl, rfl⟩)
    | (go_at_call 22; (refine (end_to g _ A14 L c14 r HR.out HRD.out).mono ?_); rintro e w' ⟨rfl, rfl⟩)
    | (go_at_call 5; (refine (known08 _).mono ?_); (rintro e w20 ⟨rfl, hb20⟩); replace HB := Lib.hid (HB.out.trans (hb20.mono HB.out.size)); clear hb20))
  go_ret
  exact ⟨rfl, HB.out⟩

theorem walk {w : World} (A : Option Addr) (zs : List Int) (k : Nat) (hk : zs.length ≤ k) (hkm : k ≤ maxLen) (hz : ∀ n ∈ zs, (Lit.int .i8 n).wf = true) (hrA : Kit.Rd w w.heap.size A (zs.map (.int .i8)))
    (B : Option Addr) (ws : List Int) (l : Nat) (hl : ws.length ≤ l) (hlm : l ≤ maxLen) (hw : ∀ n ∈ ws, (Lit.int .i32 n).wf = true) (hrB : Kit.Rd w w.heap.size B (ws.map (.int .i32)))
    (n : Int) (wn : (Lit.int .u16 n).wf = true)
    (C : Option Addr) (bs : List Int) (m : Nat) (hm : bs.length ≤ m) (hmm : m ≤ maxLen) (hb : ∀ n ∈ bs, (Lit.int .u8 n).wf = true) (hrC : Kit.Rd w w.heap.size C (bs.map (.int .u8))) :
    Calls Try.prog 4 #[.slice A zs.length k, .slice B ws.length l, .int .u16 n, .slice C bs.length m] w fun e w' => e = .returned (.bool true) ∧ Below w.heap.size w w' := by
  by_cases h : 300 < zs.length ∨ 300 < ws.length ∨ 300 < bs.length
  · exact walk_long n A _ k B _ l C _ m h
  · obtain ⟨n1, n2⟩ := bounds_u16 wn
    refine walk_short n n1 n2 A zs _ k rfl (by omega) (i8s_of hz) hrA B ws _ l rfl (by omega) (i32s_of hw) hrB C bs _ m rfl (by omega) (bytes_of hb) hrC _ rfl _ rfl ?_
    by_cases h0 : 0 < bs.length
    · rw [if_pos h0]
      have : ((bs.length : Int) == 0) = false := by simp; intro e; subst e; simp at h0
      rw [this]; rfl
    · have e0 : bs.length = 0 := by omega
      rw [e0]; rfl
/-! ### the frame: written by program -/
theorem own : ownKnob Try.prog.godebug = none := by kernel_rfl
theorem laid : laidOutB Try.prog = true := by kernel_rfl
theorem contract {H : Type} {enc : TypeId × Value → H} {W : World} {base : Nat} {args : Array Value} {ds gs : List (DataW H)} {before : List MemPlace}
    (hval0 : ∀ (j : Nat) t v, Try.f4.params[j]? = some t → args[j]? = some v → Value.okWide Try.prog W .any base t v)
    (hW : DataW.Whole enc Try.prog Try.f4.params.toList Rows.octetBackSpec.vars false W args.toList ds gs before) :
    Calls Try.prog 4 args W fun e W' => e = .returned (.bool true) ∧ Below W.heap.size W W' := by
  have hval : ∀ (j : Nat) t v, Try.f4.params[j]? = some t → args[j]? = some v → Value.okWide Try.prog W .any base t v := hval0
  obtain ⟨p, q, hA0, hV, rfl, hfz, hnd⟩ := hW
  have hA : DataW.TrodAll enc Try.prog W 0 (fun _ => true) true Try.f4.params.toList args.toList ds p := hA0
  rw [Try.params4] at hA hval
  obtain ⟨v0, vs0, d0, ds0, p0, q0, hargs, rfl, rfl, h0, r0⟩ := trodAll_cons hA
  obtain ⟨v1, vs1, d1, ds1, p1, q1, rfl, rfl, rfl, h1, r1⟩ := trodAll_cons r0
  obtain ⟨v2, vs2, d2, ds2, p2, q2, rfl, rfl, rfl, h2, r2⟩ := trodAll_cons r1
  obtain ⟨v3, vs3, d3, ds3, p3, q3, rfl, rfl, rfl, h3, r3⟩ := trodAll_cons r2
  obtain ⟨rfl, rfl, rfl⟩ := trodAll_nil r3
  obtain rfl : args = #[v0, v1, v2, v3] := by cases args; simp_all
  clear hA0 hval0
  obtain ⟨A0, z0, c0, rfl, hc0, hm0, hw0, hr0⟩ := Kit.open_islice Try.underlying23 Try.underlying50 (by kernel_rfl) (hval 0 23 v0 rfl rfl) h0
  obtain ⟨A1, z1, c1, rfl, hc1, hm1, hw1, hr1⟩ := Kit.open_islice Try.underlying24 Try.underlying21 (by kernel_rfl) (hval 1 24 v1 rfl rfl) h1
  obtain ⟨a2, rfl, rfl, rfl, w2⟩ := open_int Try.underlying34 (hval 2 34 v2 rfl rfl) h2
  obtain ⟨A3, z3, c3, rfl, hc3, hm3, hw3, hr3⟩ := Kit.open_islice Try.underlying25 Try.underlying5 (by kernel_rfl) (hval 3 25 v3 rfl rfl) h3
  exact walk (w := W) A0 z0 c0 hc0 hm0 hw0 hr0 A1 z1 c1 hc1 hm1 hw1 hr1 a2 w2 A3 z3 c3 hc3 hm3 hw3 hr3
theorem fnIs {H : Type} : ∀ ds : List (DataW H), ds.length = Try.f4.params.toList.length → Rows.octetBackSpec.fn H ds = { results := [.lit (.bool true)], args := ds } := by
  intro ds h
  rw [Try.params4] at h
  match ds, h with
  | [d1, d2, d3, d4], _ => rfl
set_option maxRecDepth 100000 in
theorem lifted (os : Os) (started : os.Started) (H : Type) (enc : TypeId × Value → H) :
    ReturnsInHanded {} Try.checked os 4 .any (Rows.octetBackSpec.pre6 enc Try.prog Try.f4 Rows.octetBackRow.domain false) (Rows.octetBackSpec.post enc Try.prog Try.f4 false true false false) := by
  refine returnsInHanded_of_change (C := Try.checked) own started (by kernel_rfl) Try.func4
    (ChangeSpec.witness6 (enc := enc) (C := Try.checked) false ⟨#[], #[.slice none 0 0, .slice none 0 0, .int .u16 0, .slice none 0 0], []⟩ 8 (by kernel_rfl) (by kernel_rfl) (by kernel_rfl) (by kernel_rfl)) ?_
  intro W base args ds gs before hval hW _ _
  refine (contract hval hW).mono fun e W' ⟨he, hg⟩ => ?_
  subst he
  exact ⟨_, rfl, Kit.law_post (tb := 4) laid (by kernel_rfl) rfl (by kernel_rfl) Try.underlying4 fnIs hW hg⟩
theorem over : Rows.octetBackRow.holds Try.pinned (OpenSpec.ofChange Rows.octetBackSpec) :=
  OpenClaim.holds_of_wide 4 Try.f4 rfl rfl rfl rfl rfl rfl rfl ⟨rfl, rfl, rfl, rfl, rfl⟩ rfl rfl rfl rfl rfl (by kernel_rfl) Try.func4 (by kernel_rfl)
    (of_decide_eq_true (by kernel_rfl)) (by unfold Func.isWrapper; first | (rw [if_pos (by decide +kernel)]; kernel_rfl) | (rw [if_neg (by decide +kernel)]; exact ⟨rfl, rfl⟩))
    (fun os started H enc _ => lifted os started H enc)
/-- the statement. -/
theorem proved : Rows.OctetBackSaid :=
  over
end Go.Proofs.Ytkmcmaickopobac.lawOctetBack
