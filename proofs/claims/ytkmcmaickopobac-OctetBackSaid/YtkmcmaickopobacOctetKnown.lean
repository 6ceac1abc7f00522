/- Contracts of package octet (layer 8): a reader's lists; the fixed calls. -/
import Derived.Test.YtkmcmaickopobacOctetList
namespace Go.Proofs.Ytkmcmaickopobac.COctet
open Go Go.ChangeShapes Go.WideShapes Go.ChangeAt Go.RowKit
open LebNum CLeb
set_option linter.unusedVariables false

theorem wideR_to (B : Nat) (W : World) (hBW : B < W.heap.size) (A : Option Addr) (zs ws t : List Int) (n c m : Nat) (hn : zs.length = n) (hc : n ≤ c) (hl : n ≤ 1000000) (hb : Bytes zs) (hm : ws.length = m) (hml : m ≤ 1000) (hz : zs = encZ ws ++ t) (hw : I32s ws) (hrd : ReaderAt B A n c W) (hr : Kit.Rd W B A (bytesV zs)) :
    Calls Try.prog 17 #[.pointer (some ⟨B, 0, none⟩), .int .i64 (m : Int)] W (ReadsL B (ws.map (.int .i32)) m t W) := by
  have HC := Lib.hid (list32_to B W hBW A zs ws t n c m hn hc hl hb hm hml hz hw hrd hr)
  clear hn hb hm hz hw hrd hr
  go_enter Try.func17, Try.ntmps17
  go_wp2_with (go_at_call 31; (refine HC.out.mono ?_); rintro e w1 ⟨A1, c1, rfl, h1, h2, h3⟩; (have H1 := Lib.hid h1); (have H2 := Lib.hid h2); (have H3 := Lib.hid h3); clear h1 h2 h3)
  go_ret
  exact ⟨A1, c1, rfl, H1.out, H2.out, H3.out⟩
theorem smallR_to (B : Nat) (W : World) (hBW : B < W.heap.size) (A : Option Addr) (zs ws t : List Int) (n c m : Nat) (hn : zs.length = n) (hc : n ≤ c) (hl : n ≤ 1000000) (hb : Bytes zs) (hm : ws.length = m) (hml : m ≤ 1000) (hz : zs = smallZ ws ++ t) (hw : I8r ws) (hrd : ReaderAt B A n c W) (hr : Kit.Rd W B A (bytesV zs)) :
    Calls Try.prog 18 #[.pointer (some ⟨B, 0, none⟩), .int .i64 (m : Int)] W (ReadsL B (ws.map (.int .i8)) m t W) := by
  have HC := Lib.hid (list8_to B W hBW A zs ws t n c m hn hc hl hb hm hml hz hw hrd hr)
  clear hn hb hm hz hw hrd hr
  go_enter Try.func18, Try.ntmps18
  go_wp2_with (go_at_call 33; (refine HC.out.mono ?_); rintro e w1 ⟨A1, c1, rfl, h1, h2, h3⟩; (have H1 := Lib.hid h1); (have H2 := Lib.hid h2); (have H3 := Lib.hid h3); clear h1 h2 h3)
  go_ret
  exact ⟨A1, c1, rfl, H1.out, H2.out, H3.out⟩

theorem ReaderAt.below {B N n c : Nat} {A : Option Addr} {W W' : World} (h : ReaderAt B A n c W) (hB : B < N) (hb : Below N W W') : ReaderAt B A n c W' :=
  ⟨(hb.cell (p := ⟨B, 0, none⟩) hB).trans h.1, (hb.cell (p := ⟨B, 1, none⟩) hB).trans h.2.1, (hb.frozen (p := ⟨B, 0, none⟩) hB).trans h.2.2⟩
theorem enc_1 : encZ [1, -1] = [2, 1] := by
  have h1 : digZ (foldZ 1) = [2] := digZ_lo (by decide) (by decide)
  have h2 : digZ (foldZ (-1)) = [1] := digZ_lo (by decide) (by decide)
  simp [encZ, h1, h2]
theorem str_21 : strOfNums [2, 1] = { data := #[2, 1] } := rfl
theorem bytes_219 : Bytes [2, 1, 9] := by unfold Bytes; simp
set_option maxHeartbeats 1000000 in
theorem known08 (w : World) : Calls Try.prog 5 #[] w fun e w' => e = .returned (.bool true) ∧ Below w.heap.size w w' := by
  go_enter Try.func5, Try.ntmps5
  go_wp2_with (first
    | (go_at_call 15
       refine (read_to (some ⟨w.heap.size, 0, none⟩) [2, 1, 9] 3 _ rfl (by omega) (B := w.heap.size + 1) _ (by simp) (Kit.Rd.new w [.int .u8 2, .int .u8 1, .int .u8 9] _ (Nat.lt_succ_self _))).mono ?_
       rintro e w1 ⟨g, hg1, hg2, rfl, ⟨A1, c1, hr1, hc1, hrr1⟩, hb1⟩
       have HB1 := Lib.hid (((Below.refl _ _).alloc (Nat.le_refl _) _).trans (hb1.mono (by simp)))
       have HR1 := Lib.hid hr1
       have HRR1 := Lib.hid hrr1
       have hgw : w.heap.size ≤ g := by simp at hg1; omega
       clear hb1 hr1 hrr1 hg1)
    | (go_at_call 17
       refine (wideR_to g _ hg2 A1 [2, 1, 9] [1, -1] [9] 3 c1 2 rfl hc1 (by omega) bytes_219 rfl (by omega) (by rw [enc_1]; rfl) (by unfold I32s; simp) HR1.out HRR1.out).mono ?_
       rintro e w2 ⟨A2, c2, rfl, hl2, hge2, ⟨A3, c3, hr3, hc3, hrr3, hgr⟩⟩
       have HB2 := Lib.hid (HB1.out.grown hgr HB1.out.size (fun q hq => by cases hq; exact hgw))
       have HR3 := Lib.hid hr3
       have HL2 := Lib.hid hl2
       have hg3 : g < w2.heap.size := Nat.lt_of_lt_of_le hg2 hgr.size
       clear hr3 hl2 hge2 hgr hrr3 HR1 HRR1 HB1)
    | (go_at_call 12
       refine (wide_to (some ⟨w2.heap.size, 0, none⟩) [1, -1] 2 _ rfl (by omega) (by unfold I32s; simp) 2 (by rw [enc_1]; rfl) (B := w2.heap.size + 1) _ (by simp) (Kit.Rd.new w2 [.int .i32 1, .int .i32 (-1)] _ (Nat.lt_succ_self _))).mono ?_
       rintro e w3 ⟨A4, c4, rfl, -, -, hr4, hb4⟩
       rw [enc_1] at hr4
       have cv := conv_str (n := 2) (c := c4) hr4 rfl _ str_21
       have hb5 := ((Below.refl w2.heap.size w2).alloc (Nat.le_refl _) (.cells #[.int .i32 1, .int .i32 (-1)] 21)).trans (hb4.mono (by simp))
       have HB3 := Lib.hid (HB2.out.trans (hb5.mono HB2.out.size))
       have HR4 := Lib.hid (HR3.out.below hg3 hb5)
       obtain ⟨b2, off2, rfl, hbx, hx⟩ := (HL2.out.below hb5).plain (by simp)
       have hx0 : w3.cell? ⟨b2, off2, none⟩ = some (.int .i32 1) := hx 0 _ rfl
       have hx1 : w3.cell? ⟨b2, off2 + 1, none⟩ = some (.int .i32 (-1)) := hx 1 _ rfl
       clear hr4 hb4 hb5 hbx hx HB2 HR3 HL2)
    | (go_at_call 21; (refine (left_to g _ A3 1 c3 HR4.out).mono ?_); rintro e w' ⟨rfl, rfl⟩)
    | (go_at_call 22; (refine (end_to g _ A3 1 c3 24 rfl HR4.out).mono ?_); rintro e w' ⟨rfl, rfl⟩))
  go_ret
  exact ⟨rfl, HB3.out⟩
end Go.Proofs.Ytkmcmaickopobac.COctet
