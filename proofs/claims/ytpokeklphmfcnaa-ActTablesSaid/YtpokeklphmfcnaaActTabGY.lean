/- Layer 21 (act): the law on tables: a case. -/
import Derived.Test.YtpokeklphmfcnaaActTabLaw
import Derived.Laws.MakeOwn
import Derived.Deep.CutRange
namespace Go.Proofs.Ytpokeklphmfcnaa.CAct
open Go Go.ChangeShapes Go.WideShapes Go.ChangeAt Go.RowKit Go.Deep
open Plain CSat CFix CShape CTensor CConv
set_option linter.unusedVariables false

set_option maxRecDepth 100000 in
set_option maxHeartbeats 16000000 in
theorem tables_GY {w : World} (H W C : Int) (A : Option Addr) (zs : List Int) (n c : Nat) (hn : zs.length = n) (hz : I8b zs) (x0 x1 x2 : Value) (K S P O Z Y : Int) (WA BA : Option Addr) (nW cW nB cB : Nat) (m1 s1 z1 m2 s2 z2 lo hi : Int) (hnb : NBd Z Y m1 z1 m2 z2 lo hi) (v : Int) (vl : -128 ≤ v) (vu : v ≤ 127) (T : Nat → Int) (hf1 : n ≤ 1024) (ht : tensB H W C n = true) (hqr : rightB m1 s1 = true) (hr : Kit.Rd w w.heap.size A (I8s zs)) :
    Calls Try.prog 4 #[.agg #[.int .i64 H, .int .i64 W, .int .i64 C, .slice A n c], .agg #[x0, x1, x2, .int .i64 K, .int .i64 S, .int .i64 P, .int .i64 O, .int .i8 Z, .int .i8 Y, .slice WA nW cW, .slice BA nB cB, .int .i32 m1, .int .i64 s1, .int .i8 z1, .int .i32 m2, .int .i64 s2, .int .i8 z2, .int .i8 lo, .int .i8 hi], .int .i8 v, .agg (tabL T).toArray] w fun e w' => e = .returned (.bool true) ∧ Below w.heap.size w w' := by
  obtain ⟨F, hF⟩ : ∃ F : Nat → Int, ∀ k : Nat, F k = heldZ ((k : Int) - 128 - Z) m1 s1 z1 lo hi := ⟨_, fun _ => rfl⟩
  obtain ⟨q, hq⟩ : ∃ q : Nat, v + 128 = q := ⟨(v + 128).toNat, by omega⟩
  obtain ⟨R, hR⟩ : ∃ R, heldZ (v - Z) m1 s1 z1 lo hi = R := ⟨_, rfl⟩
  have hFq : F q = R := by rw [hF, ← hR]; congr 1; omega
  have hq256 : q < 256 := by omega
  have q0 : (0 : Int) ≤ (q : Int) := by omega
  have q1 : (q : Int) < 256 := by omega
  have ev1 : IntKind.i64.wrap v = v := IntWalk.i64_in _ (by omega)
  have ev2 : IntKind.i64.wrap (v + 128) = (q : Int) := by rw [IntWalk.i64_in _ (by omega), hq]
  have h1024 : ¬ (n : Int) > 1024 := by omega
  have HFQ := Lib.hid hFq
  have HRR := Lib.hid hR
  have HF := Lib.hid hF
  have HT1 := Lib.hid ht
  have HQ := Lib.hid hqr
  have HN := Lib.hid hn
  have HZ := Lib.hid hz
  have HNB := Lib.hid hnb
  have HR0 := Lib.hid hr
  have hC1 : ∀ w : World, Kit.Rd w w.heap.size A (I8s zs) → Calls Try.prog 14 #[.agg #[.int .i64 H, .int .i64 W, .int .i64 C, .slice A n c], .agg (tabL T).toArray] w (MadeT w H W C n (rowL (fun k => T (zs.getD k 0 + 128).toNat) n) (.int .i64 0)) := fun w h => aby_yes H W C A n c zs hn (by omega) hz _ T (tabL_v T) ht _ (fun _ => rfl) w h
  obtain ⟨FR, hFR⟩ : ∃ FR : Nat → Int, ∀ k, FR k = heldZ (zs.getD k 0 - Z) m1 s1 z1 lo hi := ⟨_, fun _ => rfl⟩
  have hC2 : ∀ w : World, Kit.Rd w w.heap.size A (I8s zs) → Calls Try.prog 14 #[.agg #[.int .i64 H, .int .i64 W, .int .i64 C, .slice A n c], .agg (tabL F).toArray] w (MadeT w H W C n (rowL FR n) (.int .i64 0)) := fun w h => aby_yes H W C A n c zs hn (by omega) hz _ F (tabL_v F) ht _ (fun k => (hFR k).trans (table_held hz F Z m1 s1 z1 lo hi hF k).symm) w h
  have hC3 : ∀ w : World, Kit.Rd w w.heap.size A (I8s zs) → Calls Try.prog 8 #[.agg #[.int .i64 H, .int .i64 W, .int .i64 C, .slice A n c], .agg #[x0, x1, x2, .int .i64 K, .int .i64 S, .int .i64 P, .int .i64 O, .int .i8 Z, .int .i8 Y, .slice WA nW cW, .slice BA nB cB, .int .i32 m1, .int .i64 s1, .int .i8 z1, .int .i32 m2, .int .i64 s2, .int .i8 z2, .int .i8 lo, .int .i8 hi]] w (MadeT w H W C n (rowL FR n) (.int .i64 0)) := fun w h => arof_yes H W C A n c zs hn hz x0 x1 x2 K S P O Z Y WA BA nW cW nB cB m1 s1 z1 m2 s2 z2 lo hi hnb ht hqr (tens_pos ht) (by omega) _ hFR w h
  have HC1 := Lib.hid hC1
  have HC2 := Lib.hid hC2
  have HC3 := Lib.hid hC3
  clear hC1 hC2 hC3 hFR
  clear hF hR hq hFq ht hqr hn hz hnb hr
  have TA0 : Hid (BoxAt w.heap.size H W C A n c (((w.alloc (.cells #[.int .i64 H, .int .i64 W, .int .i64 C, .slice A n c] 26)).alloc (.cells #[x0, x1, x2, .int .i64 K, .int .i64 S, .int .i64 P, .int .i64 O, .int .i8 Z, .int .i8 Y, .slice WA nW cW, .slice BA nB cB, .int .i32 m1, .int .i64 s1, .int .i8 z1, .int .i32 m2, .int .i64 s2, .int .i8 z2, .int .i8 lo, .int .i8 hi] 32)).alloc (.cells (tabL T).toArray 41))) := Lib.hid ((boxNew H W C A n c 26 w).below (B' := w.heap.size + 1) (by omega) (((Below.refl _ _).alloc (by simp) _).alloc (by first | (simp; done) | (simp; omega)) _))
  have TN0 : Hid (NodeAt (w.heap.size + 1) x0 x1 x2 (.int .i8 Y) (.int .i32 m1) (.int .i64 s1) (.int .i8 z1) (.int .i32 m2) (.int .i64 s2) (.int .i8 z2) (.int .i8 lo) (.int .i8 hi) K S P O Z WA BA nW cW nB cB (((w.alloc (.cells #[.int .i64 H, .int .i64 W, .int .i64 C, .slice A n c] 26)).alloc (.cells #[x0, x1, x2, .int .i64 K, .int .i64 S, .int .i64 P, .int .i64 O, .int .i8 Z, .int .i8 Y, .slice WA nW cW, .slice BA nB cB, .int .i32 m1, .int .i64 s1, .int .i8 z1, .int .i32 m2, .int .i64 s2, .int .i8 z2, .int .i8 lo, .int .i8 hi] 32)).alloc (.cells (tabL T).toArray 41))) := by
    have h := NodeAt.new x0 x1 x2 (.int .i8 Y) (.int .i32 m1) (.int .i64 s1) (.int .i8 z1) (.int .i32 m2) (.int .i64 s2) (.int .i8 z2) (.int .i8 lo) (.int .i8 hi) K S P O Z WA BA nW cW nB cB 32 (w.alloc (.cells #[.int .i64 H, .int .i64 W, .int .i64 C, .slice A n c] 26))
    rw [World.size_alloc] at h
    exact Lib.hid (h.below (B' := w.heap.size + 2) (by omega) ((Below.refl _ _).alloc (by simp) _))
  have TO0 : Hid (TableAt (w.heap.size + 2) T (((w.alloc (.cells #[.int .i64 H, .int .i64 W, .int .i64 C, .slice A n c] 26)).alloc (.cells #[x0, x1, x2, .int .i64 K, .int .i64 S, .int .i64 P, .int .i64 O, .int .i8 Z, .int .i8 Y, .slice WA nW cW, .slice BA nB cB, .int .i32 m1, .int .i64 s1, .int .i8 z1, .int .i32 m2, .int .i64 s2, .int .i8 z2, .int .i8 lo, .int .i8 hi] 32)).alloc (.cells (tabL T).toArray 41))) := by
    have h := tableNew _ T (tabL_v T) 41 ((w.alloc (.cells #[.int .i64 H, .int .i64 W, .int .i64 C, .slice A n c] 26)).alloc (.cells #[x0, x1, x2, .int .i64 K, .int .i64 S, .int .i64 P, .int .i64 O, .int .i8 Z, .int .i8 Y, .slice WA nW cW, .slice BA nB cB, .int .i32 m1, .int .i64 s1, .int .i8 z1, .int .i32 m2, .int .i64 s2, .int .i8 z2, .int .i8 lo, .int .i8 hi] 32))
    simp only [World.size_alloc] at h
    exact Lib.hid h
  have HB0 : Hid (Below w.heap.size w (((w.alloc (.cells #[.int .i64 H, .int .i64 W, .int .i64 C, .slice A n c] 26)).alloc (.cells #[x0, x1, x2, .int .i64 K, .int .i64 S, .int .i64 P, .int .i64 O, .int .i8 Z, .int .i8 Y, .slice WA nW cW, .slice BA nB cB, .int .i32 m1, .int .i64 s1, .int .i8 z1, .int .i32 m2, .int .i64 s2, .int .i8 z2, .int .i8 lo, .int .i8 hi] 32)).alloc (.cells (tabL T).toArray 41))) := Lib.hid ((((Below.refl _ _).alloc (Nat.le_refl _) _).alloc (by simp) _).alloc (by simp; omega) _)
  have hs0 : (((w.alloc (.cells #[.int .i64 H, .int .i64 W, .int .i64 C, .slice A n c] 26)).alloc (.cells #[x0, x1, x2, .int .i64 K, .int .i64 S, .int .i64 P, .int .i64 O, .int .i8 Z, .int .i8 Y, .slice WA nW cW, .slice BA nB cB, .int .i32 m1, .int .i64 s1, .int .i8 z1, .int .i32 m2, .int .i64 s2, .int .i8 z2, .int .i8 lo, .int .i8 hi] 32)).alloc (.cells (tabL T).toArray 41)).heap.size = w.heap.size + 3 := by simp
  have hz41 := zero41
  go_enter Try.func4, Try.ntmps4
  go_upto_region 3 with fail
  generalize (((w.alloc (.cells #[.int .i64 H, .int .i64 W, .int .i64 C, .slice A n c] 26)).alloc (.cells #[x0, x1, x2, .int .i64 K, .int .i64 S, .int .i64 P, .int .i64 O, .int .i8 Z, .int .i8 Y, .slice WA nW cW, .slice BA nB cB, .int .i32 m1, .int .i64 s1, .int .i8 z1, .int .i32 m2, .int .i64 s2, .int .i8 z2, .int .i8 lo, .int .i8 hi] 32)).alloc (.cells (tabL T).toArray 41)) = W0 at TA0 TN0 TO0 HB0 hs0 ⊢
  go_upto_region 4 with (first
    | (refine wpList_load_mid rfl 32 (.tmp 5) rfl (w.heap.size + 1) 0 rfl [x0, x1, x2, .int .i64 K, .int .i64 S, .int .i64 P, .int .i64 O, .int .i8 Z, .int .i8 Y, .slice WA nW cW, .slice BA nB cB, .int .i32 m1, .int .i64 s1, .int .i8 z1, .int .i32 m2, .int .i64 s2, .int .i8 z2, .int .i8 lo, .int .i8 hi] _ (TN0.out) Try.underlying32 rfl (by kernel_rfl) ?_)
    | (go_at_call 10; (refine (atable_to x0 x1 x2 K S P O Z Y WA BA nW cW nB cB m1 s1 z1 m2 s2 z2 lo hi HNB.out F HF.out 0 (by rw [HQ.out]; rfl) _).mono ?_); rintro e w1 ⟨rfl, hb⟩; (have TA1 := Lib.hid (TA0.out.below (by omega) hb)); (have TN1 := Lib.hid (TN0.out.below (by omega) hb)); (have TO1 := Lib.hid (TO0.out.below (by omega) hb)); (have HB1 := Lib.hid (HB0.out.trans (hb.mono HB0.out.size))); (have hs1 : w.heap.size + 3 ≤ w1.heap.size := by have := hb.size; omega); clear hb TA0 TN0 TO0 HB0)
    | (refine wpList_store_mid rfl 41 (.tmp 9) (.tmp 27) rfl _ 0 (tabL F).toArray rfl rfl ?_ (info41_size _) (all_oneCell_toArray (tabL_one _)) ?_; (exact (TabW.new zeroF 41 w1).thereA _)))
  have hbx : Below w1.heap.size w1 ((w1.alloc (.cells (tabL zeroF).toArray 41)).setCells w1.heap.size 0 (tabL F)) := below_row (Nat.le_refl _) _ ((Below.refl _ _).alloc (Nat.le_refl _) _)
  have TA := Lib.hid (TA1.out.below (by omega) hbx)
  have TN := Lib.hid (TN1.out.below (by omega) hbx)
  have TO := Lib.hid (TO1.out.below (by omega) hbx)
  have TL : Hid (TableAt w1.heap.size F ((w1.alloc (.cells (tabL zeroF).toArray 41)).setCells w1.heap.size 0 (tabL F))) := Lib.hid (TableAt.of_range (World.rangeAt_setCells_same _ _ _ _ (by rw [tabL_len]; exact (TabW.new zeroF 41 w1).there)))
  have HBV := Lib.hid (HB1.out.trans (hbx.mono HB1.out.size))
  have HR := Lib.hid ((HR0.out.below HBV.out).more HBV.out.size)
  have yL : w1.heap.size < ((w1.alloc (.cells (tabL zeroF).toArray 41)).setCells w1.heap.size 0 (tabL F)).heap.size := by rw [Kit.size_cells]; simp
  clear TA1 TN1 TO1 HB1 hbx hs0
  generalize ((w1.alloc (.cells (tabL zeroF).toArray 41)).setCells w1.heap.size 0 (tabL F)) = W2 at TA TN TO TL HBV HR yL ⊢
  generalize w1.heap.size = g9 at hs1 TL yL ⊢
  have n11 := TN.out.at 11 _ rfl
  have n12 := TN.out.at 12 _ rfl
  have n13 := TN.out.at 13 _ rfl
  go_upto_region 5 with (go_at_call 11; (refine (refIsRight_to _ _ _ _).mono ?_); rintro e w3 ⟨rfl, hb⟩; (rw [HQ.out]); (replace TA := Lib.hid (TA.out.below (by omega) hb)); (replace TN := Lib.hid (TN.out.below (by omega) hb)); (replace TO := Lib.hid (TO.out.below (by omega) hb)); (replace TL := Lib.hid (TL.out.below yL hb)); (replace HR := Lib.hid ((HR.out.below hb).more hb.size)); (replace HBV := Lib.hid (HBV.out.trans (hb.mono HBV.out.size))); (replace yL := Nat.lt_of_lt_of_le yL hb.size); clear hb n11 n12 n13)
  have hlq := TL.out q hq256
  rw [HFQ.out] at hlq
  have HLQ := Lib.hid hlq
  clear hlq
  refine wp_region_held_drew (S := fun w' => NodeAt (w.heap.size + 1) x0 x1 x2 (.int .i8 Y) (.int .i32 m1) (.int .i64 s1) (.int .i8 z1) (.int .i32 m2) (.int .i64 s2) (.int .i8 z2) (.int .i8 lo) (.int .i8 hi) K S P O Z WA BA nW cW nB cB w' ∧ w'.cell? ⟨g9, q, none⟩ = some (.int .i8 R)) (by kernel_rfl) ⟨TN.out, HLQ.out⟩ (fun hHeld => ?_)
  replace TA : Hid (BoxAt w.heap.size H W C A n c w3.drew) := TA
  replace TN : Hid (NodeAt (w.heap.size + 1) x0 x1 x2 (.int .i8 Y) (.int .i32 m1) (.int .i64 s1) (.int .i8 z1) (.int .i32 m2) (.int .i64 s2) (.int .i8 z2) (.int .i8 lo) (.int .i8 hi) K S P O Z WA BA nW cW nB cB w3.drew) := TN
  replace TO : Hid (TableAt (w.heap.size + 2) T w3.drew) := TO
  replace TL : Hid (TableAt g9 F w3.drew) := TL
  replace HBV : Hid (Below w.heap.size w w3.drew) := Lib.hid HBV.out.drew
  replace HLQ : Hid (w3.drew.cell? ⟨g9, q, none⟩ = some (.int .i8 R)) := HLQ
  replace HR : Hid (Kit.Rd w3.drew w3.drew.heap.size A (I8s zs)) := Lib.hid (HR.out.below ((Below.refl _ _).drew))
  replace yL : g9 < w3.drew.heap.size := yL
  generalize w3.drew = V1 at TA TN TO TL HBV HR HLQ yL hHeld ⊢
  refine wpAnyH_take (i := 0) (oi := ({ dst := some 32, op := Op.move (Operand.tmp 10), type := 34, pos := "law.go:35", after := #[], guard := none } : Oper)) (v := ?_) rfl (by kernel_rfl) (by kernel_rfl) (by kernel_rfl) (fun _ _ _ h => h) (Or.inl ⟨by rfl, ?_⟩) (by assumption) ?_
  rotate_left
  · intro wS hSw
    first
      | (go_simp; done)
      | (go_simp; with_reducible rfl)
  try simp only [Act.put, List.setIfInBounds_toArray, List.set_cons_zero, List.set_cons_succ]
  refine wpAnyH_take (i := 1) (oi := ({ dst := some 33, op := Op.binOp BinOp.eql 34 (Operand.tmp 32) (Operand.const (Value.int IntKind.i64 0)) 34, type := 4, pos := "law.go:35", after := #[{ on := 0, ground := Ground.data }], guard := none } : Oper)) (v := ?_) rfl (by kernel_rfl) (by kernel_rfl) (by kernel_rfl) (fun _ _ _ h => h) (Or.inl ⟨by rfl, ?_⟩) (by assumption) ?_
  rotate_left
  · intro wS hSw
    first
      | (go_simp; done)
      | (go_simp; with_reducible rfl)
  try simp only [Act.put, List.setIfInBounds_toArray, List.set_cons_zero, List.set_cons_succ]
  refine wpAnyH_take (i := 2) (oi := ({ dst := some 34, op := Op.move (Operand.tmp 11), type := 4, pos := "law.go:35", after := #[], guard := none } : Oper)) (v := ?_) rfl (by kernel_rfl) (by kernel_rfl) (by kernel_rfl) (fun _ _ _ h => h) (Or.inl ⟨by rfl, ?_⟩) (by assumption) ?_
  rotate_left
  · intro wS hSw
    first
      | (go_simp; done)
      | (go_simp; with_reducible rfl)
  try simp only [Act.put, List.setIfInBounds_toArray, List.set_cons_zero, List.set_cons_succ]
  refine wpAnyH_take (i := 3) (oi := ({ dst := some 35, op := Op.binOp BinOp.neq 4 (Operand.tmp 33) (Operand.tmp 34) 4, type := 4, pos := "law.go:35", after := #[{ on := 1, ground := Ground.data }, { on := 2, ground := Ground.data }], guard := none } : Oper)) (v := ?_) rfl (by kernel_rfl) (by kernel_rfl) (by kernel_rfl) (fun _ _ _ h => h) (Or.inl ⟨by rfl, ?_⟩) (by assumption) ?_
  rotate_left
  · intro wS hSw
    first
      | (go_simp; done)
      | (go_simp; with_reducible rfl)
  try simp only [Act.put, List.setIfInBounds_toArray, List.set_cons_zero, List.set_cons_succ]
  refine wpAnyH_take (i := 4) (oi := ({ dst := some 36, op := Op.move (Operand.tmp 35), type := 4, pos := "law.go:35", after := #[{ on := 3, ground := Ground.data }], guard := none } : Oper)) (v := ?_) rfl (by kernel_rfl) (by kernel_rfl) (by kernel_rfl) (fun _ _ _ h => h) (Or.inl ⟨by rfl, ?_⟩) (by assumption) ?_
  rotate_left
  · intro wS hSw
    first
      | (go_simp; done)
      | (go_simp; with_reducible rfl)
  try simp only [Act.put, List.setIfInBounds_toArray, List.set_cons_zero, List.set_cons_succ]
  refine wpAnyH_take (i := 5) (oi := ({ dst := some 37, op := Op.move (Operand.tmp 10), type := 34, pos := "law.go:35", after := #[{ on := 4, ground := Ground.guard }], guard := some (4, false) } : Oper)) (v := ?_) rfl (by kernel_rfl) (by kernel_rfl) (by kernel_rfl) (fun _ _ _ h => h) (Or.inl ⟨by rfl, ?_⟩) (by assumption) ?_
  rotate_left
  · intro wS hSw
    first
      | (go_simp; done)
      | (go_simp; with_reducible rfl)
  try simp only [Act.put, List.setIfInBounds_toArray, List.set_cons_zero, List.set_cons_succ]
  refine wpAnyH_take (i := 6) (oi := ({ dst := some 38, op := Op.binOp BinOp.neq 34 (Operand.tmp 37) (Operand.const (Value.int IntKind.i64 0)) 34, type := 4, pos := "law.go:35", after := #[{ on := 5, ground := Ground.data }, { on := 4, ground := Ground.guard }], guard := some (4, false) } : Oper)) (v := ?_) rfl (by kernel_rfl) (by kernel_rfl) (by kernel_rfl) (fun _ _ _ h => h) (Or.inl ⟨by rfl, ?_⟩) (by assumption) ?_
  rotate_left
  · intro wS hSw
    first
      | (go_simp; done)
      | (go_simp; with_reducible rfl)
  try simp only [Act.put, List.setIfInBounds_toArray, List.set_cons_zero, List.set_cons_succ]
  refine wpAnyH_take (i := 7) (oi := ({ dst := some 39, op := Op.move (Operand.tmp 38), type := 4, pos := "law.go:35", after := #[{ on := 6, ground := Ground.data }, { on := 4, ground := Ground.chain }, { on := 4, ground := Ground.guard }], guard := some (4, false) } : Oper)) (v := ?_) rfl (by kernel_rfl) (by kernel_rfl) (by kernel_rfl) (fun _ _ _ h => h) (Or.inl ⟨by rfl, ?_⟩) (by assumption) ?_
  rotate_left
  · intro wS hSw
    first
      | (go_simp; done)
      | (go_simp; with_reducible rfl)
  try simp only [Act.put, List.setIfInBounds_toArray, List.set_cons_zero, List.set_cons_succ]
  refine wpAnyH_take (i := 8) (oi := ({ dst := some 40, op := Op.move (Operand.tmp 10), type := 34, pos := "law.go:35", after := #[{ on := 7, ground := Ground.guard }], guard := some (7, true) } : Oper)) (v := undef) rfl (by kernel_rfl) (by kernel_rfl) (by kernel_rfl) (fun _ _ _ h => h) (Or.inr ⟨by rfl, rfl⟩) (by assumption) ?_
  try simp only [Act.put, List.setIfInBounds_toArray, List.set_cons_zero, List.set_cons_succ]
  refine wpAnyH_take (i := 9) (oi := ({ dst := some 41, op := Op.binOp BinOp.neq 34 (Operand.tmp 40) (Operand.const (Value.int IntKind.i64 7)) 34, type := 4, pos := "law.go:35", after := #[{ on := 8, ground := Ground.data }, { on := 7, ground := Ground.guard }], guard := some (7, true) } : Oper)) (v := undef) rfl (by kernel_rfl) (by kernel_rfl) (by kernel_rfl) (fun _ _ _ h => h) (Or.inr ⟨by rfl, rfl⟩) (by assumption) ?_
  try simp only [Act.put, List.setIfInBounds_toArray, List.set_cons_zero, List.set_cons_succ]
  refine wpAnyH_take (i := 10) (oi := ({ dst := some 42, op := Op.pick (Operand.tmp 39) (Operand.tmp 41) (Operand.const (Value.bool false)), type := 4, pos := "law.go:35", after := #[{ on := 7, ground := Ground.data }, { on := 9, ground := Ground.data }, { on := 4, ground := Ground.guard }], guard := some (4, false) } : Oper)) (v := ?_) rfl (by kernel_rfl) (by kernel_rfl) (by kernel_rfl) (fun _ _ _ h => h) (Or.inl ⟨by rfl, ?_⟩) (by assumption) ?_
  rotate_left
  · intro wS hSw
    first
      | (go_simp; done)
      | (go_simp; with_reducible rfl)
  try simp only [Act.put, List.setIfInBounds_toArray, List.set_cons_zero, List.set_cons_succ]
  refine wpAnyH_take (i := 11) (oi := ({ dst := some 43, op := Op.pick (Operand.tmp 36) (Operand.const (Value.bool true)) (Operand.tmp 42), type := 4, pos := "law.go:35", after := #[{ on := 4, ground := Ground.data }, { on := 10, ground := Ground.data }], guard := none } : Oper)) (v := ?_) rfl (by kernel_rfl) (by kernel_rfl) (by kernel_rfl) (fun _ _ _ h => h) (Or.inl ⟨by rfl, ?_⟩) (by assumption) ?_
  rotate_left
  · intro wS hSw
    first
      | (go_simp; done)
      | (go_simp; with_reducible rfl)
  try simp only [Act.put, List.setIfInBounds_toArray, List.set_cons_zero, List.set_cons_succ]
  refine wpAnyH_take (i := 12) (oi := ({ dst := some 44, op := Op.move (Operand.tmp 43), type := 4, pos := "law.go:35", after := #[{ on := 11, ground := Ground.data }, { on := 7, ground := Ground.chain }], guard := none } : Oper)) (v := ?_) rfl (by kernel_rfl) (by kernel_rfl) (by kernel_rfl) (fun _ _ _ h => h) (Or.inl ⟨by rfl, ?_⟩) (by assumption) ?_
  rotate_left
  · intro wS hSw
    first
      | (go_simp; done)
      | (go_simp; with_reducible rfl)
  try simp only [Act.put, List.setIfInBounds_toArray, List.set_cons_zero, List.set_cons_succ]
  refine wpAnyH_take (i := 13) (oi := ({ dst := some 45, op := Op.move (Operand.tmp 2), type := 27, pos := "law.go:35", after := #[{ on := 12, ground := Ground.guard }], guard := some (12, false) } : Oper)) (v := ?_) rfl (by kernel_rfl) (by kernel_rfl) (by kernel_rfl) (fun _ _ _ h => h) (Or.inl ⟨by rfl, ?_⟩) (by assumption) ?_
  rotate_left
  · intro wS hSw
    first
      | (go_simp; done)
      | (go_simp; with_reducible rfl)
  try simp only [Act.put, List.setIfInBounds_toArray, List.set_cons_zero, List.set_cons_succ]
  refine wpAnyH_take (i := 14) (oi := ({ dst := some 46, op := Op.convert 27 3 (Operand.tmp 45), type := 3, pos := "law.go:35", after := #[{ on := 13, ground := Ground.data }, { on := 12, ground := Ground.guard }], guard := some (12, false) } : Oper)) (v := ?_) rfl (by kernel_rfl) (by kernel_rfl) (by kernel_rfl) (fun _ _ _ h => h) (Or.inl ⟨by rfl, ?_⟩) (by assumption) ?_
  rotate_left
  · intro wS hSw
    first
      | (go_simp; done)
      | (go_simp; with_reducible rfl)
  try simp only [Act.put, List.setIfInBounds_toArray, List.set_cons_zero, List.set_cons_succ]
  refine wpAnyH_take (i := 15) (oi := ({ dst := some 47, op := Op.binOp BinOp.add 3 (Operand.tmp 46) (Operand.const (Value.int IntKind.i64 128)) 3, type := 3, pos := "law.go:35", after := #[{ on := 14, ground := Ground.data }, { on := 12, ground := Ground.guard }], guard := some (12, false) } : Oper)) (v := ?_) rfl (by kernel_rfl) (by kernel_rfl) (by kernel_rfl) (fun _ _ _ h => h) (Or.inl ⟨by rfl, ?_⟩) (by assumption) ?_
  rotate_left
  · intro wS hSw
    first
      | (go_simp; done)
      | (go_simp; with_reducible rfl)
  try simp only [Act.put, List.setIfInBounds_toArray, List.set_cons_zero, List.set_cons_succ]
  refine wpAnyH_take (i := 16) (oi := ({ dst := some 48, op := Op.indexAddr 41 (Operand.tmp 9) (Operand.tmp 47), type := 0, pos := "law.go:35", after := #[{ on := 15, ground := Ground.data }, { on := 12, ground := Ground.guard }], guard := some (12, false) } : Oper)) (v := ?_) rfl (by kernel_rfl) (by kernel_rfl) (by kernel_rfl) (fun _ _ _ h => h) (Or.inl ⟨by rfl, ?_⟩) (by assumption) ?_
  rotate_left
  · intro wS hSw
    first
      | (go_simp; done)
      | (go_simp; with_reducible rfl)
  try simp only [Act.put, List.setIfInBounds_toArray, List.set_cons_zero, List.set_cons_succ]
  refine wpAnyH_take (i := 17) (oi := ({ dst := some 49, op := Op.load 27 (Operand.tmp 48), type := 27, pos := "law.go:35", after := #[{ on := 16, ground := Ground.data }, { on := 12, ground := Ground.guard }], guard := some (12, false) } : Oper)) (v := ?_) rfl (by kernel_rfl) (by kernel_rfl) (by kernel_rfl) (fun _ _ _ h => h) (Or.inl ⟨by rfl, ?_⟩) (by assumption) ?_
  rotate_left
  · intro wS hSw
    obtain ⟨-, hq2⟩ := hSw
    first
      | (go_simp; done)
      | (go_simp; with_reducible rfl)
  try simp only [Act.put, List.setIfInBounds_toArray, List.set_cons_zero, List.set_cons_succ]
  refine wpAnyH_take (i := 18) (oi := ({ dst := some 50, op := Op.move (Operand.tmp 2), type := 27, pos := "law.go:35", after := #[{ on := 12, ground := Ground.guard }], guard := some (12, false) } : Oper)) (v := ?_) rfl (by kernel_rfl) (by kernel_rfl) (by kernel_rfl) (fun _ _ _ h => h) (Or.inl ⟨by rfl, ?_⟩) (by assumption) ?_
  rotate_left
  · intro wS hSw
    first
      | (go_simp; done)
      | (go_simp; with_reducible rfl)
  try simp only [Act.put, List.setIfInBounds_toArray, List.set_cons_zero, List.set_cons_succ]
  refine wpAnyH_take (i := 19) (oi := ({ dst := some 51, op := Op.load 32 (Operand.tmp 5), type := 32, pos := "law.go:35", after := #[{ on := 12, ground := Ground.guard }], guard := some (12, false) } : Oper)) (v := .agg #[x0, x1, x2, .int .i64 K, .int .i64 S, .int .i64 P, .int .i64 O, .int .i8 Z, .int .i8 Y, .slice WA nW cW, .slice BA nB cB, .int .i32 m1, .int .i64 s1, .int .i8 z1, .int .i32 m2, .int .i64 s2, .int .i8 z2, .int .i8 lo, .int .i8 hi]) rfl (by kernel_rfl) (by kernel_rfl) (by kernel_rfl) (fun _ _ _ h => h) (yieldsIf_load_mid (by rfl) _ _ rfl (w.heap.size + 1) 0 rfl [x0, x1, x2, .int .i64 K, .int .i64 S, .int .i64 P, .int .i64 O, .int .i8 Z, .int .i8 Y, .slice WA nW cW, .slice BA nB cB, .int .i32 m1, .int .i64 s1, .int .i8 z1, .int .i32 m2, .int .i64 s2, .int .i8 z2, .int .i8 lo, .int .i8 hi] _ (fun w' h => h.1) Try.underlying32 rfl (by kernel_rfl)) (by assumption) ?_
  try simp only [Act.put, List.setIfInBounds_toArray, List.set_cons_zero, List.set_cons_succ]
  refine wpAnyH_ready (rs := [20]) (by kernel_rfl) (by simp) ?_
  refine AllReadyH.cons (o := ({ dst := some 52, op := Op.call { callee := Callee.value (Operand.func 12), args := #[Operand.tmp 50, Operand.tmp 51], argTypes := #[27, 32] }, type := 27, pos := "law.go:35", after := #[{ on := 18, ground := Ground.data }, { on := 19, ground := Ground.data }, { on := 12, ground := Ground.chain }, { on := 12, ground := Ground.guard }], guard := some (12, false) } : Oper)) rfl (fun Kq hK => ?_) (AllReadyH.nil)
  go_simp
  go_at_call 12
  refine (aref_to v vl vu x0 x1 x2 K S P O Z Y WA BA nW cW nB cB m1 s1 z1 m2 s2 z2 lo hi HNB.out R HRR.out _).mono ?_
  rintro e V2 ⟨rfl, hb1⟩
  replace TA := Lib.hid (TA.out.below (by omega) hb1)
  replace TN := Lib.hid (TN.out.below (by omega) hb1)
  replace TO := Lib.hid (TO.out.below (by omega) hb1)
  replace TL := Lib.hid (TL.out.below yL hb1)
  replace HLQ := Lib.hid ((hb1.cell (p := ⟨g9, q, none⟩) yL).trans HLQ.out)
  replace HR := Lib.hid ((HR.out.below hb1).more hb1.size)
  replace HBV := Lib.hid (HBV.out.trans (hb1.mono HBV.out.size))
  replace yL := Nat.lt_of_lt_of_le yL hb1.size
  clear hHeld hb1
  dsimp only
  refine hK.out _ _ ?_ (fun hHeld => ?_)
  · exact ⟨TN.out, HLQ.out⟩
  clear hK Kq
  try simp only [Act.put, List.setIfInBounds_toArray, List.set_cons_zero, List.set_cons_succ]
  refine wpAnyH_take (i := 21) (oi := ({ dst := some 53, op := Op.binOp BinOp.neq 27 (Operand.tmp 49) (Operand.tmp 52) 27, type := 4, pos := "law.go:35", after := #[{ on := 17, ground := Ground.data }, { on := 20, ground := Ground.data }, { on := 12, ground := Ground.guard }], guard := some (12, false) } : Oper)) (v := ?_) rfl (by kernel_rfl) (by kernel_rfl) (by kernel_rfl) (fun _ _ _ h => h) (Or.inl ⟨by rfl, ?_⟩) (by assumption) ?_
  rotate_left
  · intro wS hSw
    first
      | (go_simp; done)
      | (go_simp; with_reducible rfl)
  try simp only [Act.put, List.setIfInBounds_toArray, List.set_cons_zero, List.set_cons_succ]
  refine wpAnyH_take (i := 22) (oi := ({ dst := some 54, op := Op.pick (Operand.tmp 44) (Operand.const (Value.bool true)) (Operand.tmp 53), type := 4, pos := "law.go:35", after := #[{ on := 12, ground := Ground.data }, { on := 21, ground := Ground.data }], guard := none } : Oper)) (v := ?_) rfl (by kernel_rfl) (by kernel_rfl) (by kernel_rfl) (fun _ _ _ h => h) (Or.inl ⟨by rfl, ?_⟩) (by assumption) ?_
  rotate_left
  · intro wS hSw
    first
      | (go_simp; done)
      | (go_simp; with_reducible rfl)
  try simp only [Act.put, List.setIfInBounds_toArray, List.set_cons_zero, List.set_cons_succ]
  refine wpAnyH_take (i := 23) (oi := ({ dst := some 55, op := Op.move (Operand.tmp 54), type := 4, pos := "law.go:35", after := #[{ on := 22, ground := Ground.data }, { on := 20, ground := Ground.chain }], guard := none } : Oper)) (v := ?_) rfl (by kernel_rfl) (by kernel_rfl) (by kernel_rfl) (fun _ _ _ h => h) (Or.inl ⟨by rfl, ?_⟩) (by assumption) ?_
  rotate_left
  · intro wS hSw
    first
      | (go_simp; done)
      | (go_simp; with_reducible rfl)
  try simp only [Act.put, List.setIfInBounds_toArray, List.set_cons_zero, List.set_cons_succ]
  refine wpAnyH_take (i := 24) (oi := ({ dst := some 56, op := Op.move (Operand.tmp 2), type := 27, pos := "law.go:35", after := #[{ on := 23, ground := Ground.guard }], guard := some (23, false) } : Oper)) (v := ?_) rfl (by kernel_rfl) (by kernel_rfl) (by kernel_rfl) (fun _ _ _ h => h) (Or.inl ⟨by rfl, ?_⟩) (by assumption) ?_
  rotate_left
  · intro wS hSw
    first
      | (go_simp; done)
      | (go_simp; with_reducible rfl)
  try simp only [Act.put, List.setIfInBounds_toArray, List.set_cons_zero, List.set_cons_succ]
  refine wpAnyH_take (i := 25) (oi := ({ dst := some 57, op := Op.load 32 (Operand.tmp 5), type := 32, pos := "law.go:35", after := #[{ on := 23, ground := Ground.guard }], guard := some (23, false) } : Oper)) (v := .agg #[x0, x1, x2, .int .i64 K, .int .i64 S, .int .i64 P, .int .i64 O, .int .i8 Z, .int .i8 Y, .slice WA nW cW, .slice BA nB cB, .int .i32 m1, .int .i64 s1, .int .i8 z1, .int .i32 m2, .int .i64 s2, .int .i8 z2, .int .i8 lo, .int .i8 hi]) rfl (by kernel_rfl) (by kernel_rfl) (by kernel_rfl) (fun _ _ _ h => h) (yieldsIf_load_mid (by rfl) _ _ rfl (w.heap.size + 1) 0 rfl [x0, x1, x2, .int .i64 K, .int .i64 S, .int .i64 P, .int .i64 O, .int .i8 Z, .int .i8 Y, .slice WA nW cW, .slice BA nB cB, .int .i32 m1, .int .i64 s1, .int .i8 z1, .int .i32 m2, .int .i64 s2, .int .i8 z2, .int .i8 lo, .int .i8 hi] _ (fun w' h => h.1) Try.underlying32 rfl (by kernel_rfl)) (by assumption) ?_
  try simp only [Act.put, List.setIfInBounds_toArray, List.set_cons_zero, List.set_cons_succ]
  refine wpAnyH_take (i := 27) (oi := ({ dst := some 59, op := Op.move (Operand.tmp 2), type := 27, pos := "law.go:35", after := #[{ on := 23, ground := Ground.guard }], guard := some (23, false) } : Oper)) (v := ?_) rfl (by kernel_rfl) (by kernel_rfl) (by kernel_rfl) (fun _ _ _ h => h) (Or.inl ⟨by rfl, ?_⟩) (by assumption) ?_
  rotate_left
  · intro wS hSw
    first
      | (go_simp; done)
      | (go_simp; with_reducible rfl)
  try simp only [Act.put, List.setIfInBounds_toArray, List.set_cons_zero, List.set_cons_succ]
  refine wpAnyH_take (i := 28) (oi := ({ dst := some 60, op := Op.load 32 (Operand.tmp 5), type := 32, pos := "law.go:35", after := #[{ on := 23, ground := Ground.guard }], guard := some (23, false) } : Oper)) (v := .agg #[x0, x1, x2, .int .i64 K, .int .i64 S, .int .i64 P, .int .i64 O, .int .i8 Z, .int .i8 Y, .slice WA nW cW, .slice BA nB cB, .int .i32 m1, .int .i64 s1, .int .i8 z1, .int .i32 m2, .int .i64 s2, .int .i8 z2, .int .i8 lo, .int .i8 hi]) rfl (by kernel_rfl) (by kernel_rfl) (by kernel_rfl) (fun _ _ _ h => h) (yieldsIf_load_mid (by rfl) _ _ rfl (w.heap.size + 1) 0 rfl [x0, x1, x2, .int .i64 K, .int .i64 S, .int .i64 P, .int .i64 O, .int .i8 Z, .int .i8 Y, .slice WA nW cW, .slice BA nB cB, .int .i32 m1, .int .i64 s1, .int .i8 z1, .int .i32 m2, .int .i64 s2, .int .i8 z2, .int .i8 lo, .int .i8 hi] _ (fun w' h => h.1) Try.underlying32 rfl (by kernel_rfl)) (by assumption) ?_
  try simp only [Act.put, List.setIfInBounds_toArray, List.set_cons_zero, List.set_cons_succ]
  refine wpAnyH_ready (rs := [26]) (by kernel_rfl) (by simp) ?_
  refine AllReadyH.cons (o := ({ dst := some 58, op := Op.call { callee := Callee.value (Operand.func 13), args := #[Operand.tmp 56, Operand.tmp 57], argTypes := #[27, 32] }, type := 27, pos := "law.go:35", after := #[{ on := 24, ground := Ground.data }, { on := 25, ground := Ground.data }, { on := 23, ground := Ground.chain }, { on := 23, ground := Ground.guard }], guard := some (23, false) } : Oper)) rfl (fun Kq hK => ?_) (AllReadyH.nil)
  go_simp
  go_at_call 13
  refine (aone_to v vl vu x0 x1 x2 K S P O Z Y WA BA nW cW nB cB m1 s1 z1 m2 s2 z2 lo hi HNB.out R HRR.out _).mono ?_
  rintro e V3 ⟨rfl, hb1⟩
  replace TA := Lib.hid (TA.out.below (by omega) hb1)
  replace TN := Lib.hid (TN.out.below (by omega) hb1)
  replace TO := Lib.hid (TO.out.below (by omega) hb1)
  replace TL := Lib.hid (TL.out.below yL hb1)
  replace HLQ := Lib.hid ((hb1.cell (p := ⟨g9, q, none⟩) yL).trans HLQ.out)
  replace HR := Lib.hid ((HR.out.below hb1).more hb1.size)
  replace HBV := Lib.hid (HBV.out.trans (hb1.mono HBV.out.size))
  replace yL := Nat.lt_of_lt_of_le yL hb1.size
  clear hHeld hb1
  dsimp only
  refine hK.out _ _ ?_ (fun hHeld => ?_)
  · exact ⟨TN.out, HLQ.out⟩
  clear hK Kq
  try simp only [Act.put, List.setIfInBounds_toArray, List.set_cons_zero, List.set_cons_succ]
  refine wpAnyH_ready (rs := [29]) (by kernel_rfl) (by simp) ?_
  refine AllReadyH.cons (o := ({ dst := some 61, op := Op.call { callee := Callee.value (Operand.func 12), args := #[Operand.tmp 59, Operand.tmp 60], argTypes := #[27, 32] }, type := 27, pos := "law.go:35", after := #[{ on := 27, ground := Ground.data }, { on := 28, ground := Ground.data }, { on := 26, ground := Ground.chain }, { on := 23, ground := Ground.guard }], guard := some (23, false) } : Oper)) rfl (fun Kq hK => ?_) (AllReadyH.nil)
  go_simp
  go_at_call 12
  refine (aref_to v vl vu x0 x1 x2 K S P O Z Y WA BA nW cW nB cB m1 s1 z1 m2 s2 z2 lo hi HNB.out R HRR.out _).mono ?_
  rintro e V4 ⟨rfl, hb1⟩
  replace TA := Lib.hid (TA.out.below (by omega) hb1)
  replace TN := Lib.hid (TN.out.below (by omega) hb1)
  replace TO := Lib.hid (TO.out.below (by omega) hb1)
  replace TL := Lib.hid (TL.out.below yL hb1)
  replace HLQ := Lib.hid ((hb1.cell (p := ⟨g9, q, none⟩) yL).trans HLQ.out)
  replace HR := Lib.hid ((HR.out.below hb1).more hb1.size)
  replace HBV := Lib.hid (HBV.out.trans (hb1.mono HBV.out.size))
  replace yL := Nat.lt_of_lt_of_le yL hb1.size
  clear hHeld hb1
  dsimp only
  refine hK.out _ _ ?_ (fun hHeld => ?_)
  · exact ⟨TN.out, HLQ.out⟩
  clear hK Kq
  try simp only [Act.put, List.setIfInBounds_toArray, List.set_cons_zero, List.set_cons_succ]
  refine wpAnyH_take (i := 30) (oi := ({ dst := some 62, op := Op.binOp BinOp.neq 27 (Operand.tmp 58) (Operand.tmp 61) 27, type := 4, pos := "law.go:35", after := #[{ on := 26, ground := Ground.data }, { on := 29, ground := Ground.data }, { on := 23, ground := Ground.guard }], guard := some (23, false) } : Oper)) (v := ?_) rfl (by kernel_rfl) (by kernel_rfl) (by kernel_rfl) (fun _ _ _ h => h) (Or.inl ⟨by rfl, ?_⟩) (by assumption) ?_
  rotate_left
  · intro wS hSw
    first
      | (go_simp; done)
      | (go_simp; with_reducible rfl)
  try simp only [Act.put, List.setIfInBounds_toArray, List.set_cons_zero, List.set_cons_succ]
  refine wpAnyH_take (i := 31) (oi := ({ dst := some 63, op := Op.pick (Operand.tmp 55) (Operand.const (Value.bool true)) (Operand.tmp 62), type := 4, pos := "law.go:35", after := #[{ on := 23, ground := Ground.data }, { on := 30, ground := Ground.data }], guard := none } : Oper)) (v := ?_) rfl (by kernel_rfl) (by kernel_rfl) (by kernel_rfl) (fun _ _ _ h => h) (Or.inl ⟨by rfl, ?_⟩) (by assumption) ?_
  rotate_left
  · intro wS hSw
    first
      | (go_simp; done)
      | (go_simp; with_reducible rfl)
  try simp only [Act.put, List.setIfInBounds_toArray, List.set_cons_zero, List.set_cons_succ]
  refine wpAnyH_done (by kernel_rfl) ?_ _
  clear hHeld
  have yTA : w.heap.size < V4.heap.size := by omega
  have yTN : w.heap.size + 1 < V4.heap.size := by omega
  have yTO : w.heap.size + 2 < V4.heap.size := by omega
  have yTL := yL
  clear HLQ
  obtain ⟨tap0, tap1, tap2, tap3⟩ := TA.out
  have HE := eqShape H W C H W C
  have hg := Try.eqGuardType23
  go_wp2_with (first
    | (go_at_call 14
       have hal : Below V4.heap.size V4 V4 := Below.refl _ _
       refine (HC1.out _ HR.out).mono ?_
       rintro e w4 ⟨v2, rfl, ho2, hb⟩
       have hh : Below V4.heap.size V4 w4 := hal.trans (hb.mono hal.size)
       replace TA := Lib.hid (TA.out.below yTA hh)
       replace yTA := Nat.lt_of_lt_of_le yTA hh.size
       replace TN := Lib.hid (TN.out.below yTN hh)
       replace yTN := Nat.lt_of_lt_of_le yTN hh.size
       replace TO := Lib.hid (TO.out.below yTO hh)
       replace yTO := Nat.lt_of_lt_of_le yTO hh.size
       replace TL := Lib.hid (TL.out.below yTL hh)
       replace yTL := Nat.lt_of_lt_of_le yTL hh.size
       replace HR := Lib.hid ((HR.out.below hh).more hh.size)
       have HBW : Hid (Below V4.heap.size V4 w4) := Lib.hid hh
       clear tap0 tap1 tap2 tap3
       obtain ⟨A2, c2, rfl, -, -, hrd2⟩ := Kit.own_rd ho2
       have RA2 := Lib.hid hrd2
       clear ho2 hrd2
       obtain ⟨tap0, tap1, tap2, tap3⟩ := TA.out
       clear hb hh hal)
    | (go_at_call 15
       have hal : Below w4.heap.size w4 (w4.alloc (.cells #[.int .i64 H, .int .i64 W, .int .i64 C, .slice A2 n c2] 26)) := (Below.refl _ _).alloc (by first | exact Nat.le_refl _ | (simp; done) | (simp; omega)) _
       refine (refRight_to H W C A n c true HT1.out _).mono ?_
       rintro e w5 ⟨rfl, hb⟩
       have hh : Below w4.heap.size w4 w5 := hal.trans (hb.mono hal.size)
       have qT1 := (boxNew H W C A2 n c2 26) w4
       try simp only [World.size_alloc] at qT1
       have T1 := Lib.hid (qT1.below (by first | (simp; done) | (simp; omega)) hb)
       have yT1 : w4.heap.size < w5.heap.size := by have := hb.size; simp at this; omega
       clear qT1
       replace TA := Lib.hid (TA.out.below yTA hh)
       replace yTA := Nat.lt_of_lt_of_le yTA hh.size
       replace TN := Lib.hid (TN.out.below yTN hh)
       replace yTN := Nat.lt_of_lt_of_le yTN hh.size
       replace TO := Lib.hid (TO.out.below yTO hh)
       replace yTO := Nat.lt_of_lt_of_le yTO hh.size
       replace TL := Lib.hid (TL.out.below yTL hh)
       replace yTL := Nat.lt_of_lt_of_le yTL hh.size
       replace HR := Lib.hid ((HR.out.below hh).more hh.size)
       replace RA2 := Lib.hid ((RA2.out.below hh).more hh.size)
       replace HBW := Lib.hid (HBW.out.trans (hh.mono HBW.out.size))
       clear tap0 tap1 tap2 tap3
       obtain ⟨tap0, tap1, tap2, tap3⟩ := TA.out
       obtain ⟨t1p0, t1p1, t1p2, t1p3⟩ := T1.out
       clear hb hh hal)
    | (refine wpList_load_mid rfl 41 (.tmp 7) rfl (w.heap.size + 2) 0 rfl (tabL T) _ (TO.out.range) Try.underlying41 rfl (info41_len _) ?_))
  clear HE hg
  have HBZ := Lib.hid (HBV.out.trans (HBW.out.mono HBV.out.size))
  clear HBW HBV
  go_loopw [14] (fun u wr => ∃ k nq : Nat, k ≤ n ∧ u = .int .i64 k ∧ Hid (wr = w5.drewN nq)) (fun u _ => n - (intOf u).toNat)
  case atStart => exact ⟨0, 0, Nat.zero_le _, rfl, Lib.hid rfl⟩
  case round =>
    obtain ⟨k, nq, hk, rfl, hw⟩ := hrel
    obtain rfl := hw.out
    clear hw
    by_cases hlt : k < n
    · have hk0 : (0 : Int) ≤ (k : Int) := by omega
      have hkn : (k : Int) < (n : Int) := by omega
      obtain ⟨ba, oa, rfl, -, hca⟩ := ints_getD HR.out (j := 0) (by have := HN.out; omega)
      obtain ⟨bu, ou, rfl, -, hcu⟩ := ints_getD RA2.out (j := 0) (by rw [rowL_len]; omega)
      have hcx := hca k (by have := HN.out; omega)
      have hcy := hcu k (by rw [rowL_len]; omega)
      rw [rowL_getDa _ hlt] at hcy
      obtain ⟨xl, xu⟩ := HZ.out k
      obtain ⟨p, hp⟩ : ∃ p : Nat, zs.getD k 0 + 128 = p := ⟨(zs.getD k 0 + 128).toNat, by omega⟩
      have hto := TO.out p (by omega)
      have hpn : (zs.getD k 0 + 128).toNat = p := by omega
      rw [hpn] at hcy
      generalize zs.getD k 0 = x at hcx xl xu hp
      generalize T p = y at hcy hto
      have e1 : IntKind.i64.wrap x = x := IntWalk.i64_in _ (by omega)
      have e2 : IntKind.i64.wrap (x + 128) = (p : Int) := by rw [IntWalk.i64_in _ (by omega), hp]
      have p0 : (0 : Int) ≤ (p : Int) := by omega
      have p1 : (p : Int) < 256 := by omega
      clear hca hcu hp hpn
      go_wp2_with fail
      go_quiet (fail)
      go_wp2
      go_roundw
      case rel => exact ⟨k + 1, _, by omega, by go_num, Lib.hid rfl⟩
      case measure => simp [intOf]; omega
    · obtain rfl : k = n := by omega
      replace TA : Hid (BoxAt w.heap.size H W C A k c (w5.drewN nq)) := TA
      replace TN : Hid (NodeAt (w.heap.size + 1) x0 x1 x2 (.int .i8 Y) (.int .i32 m1) (.int .i64 s1) (.int .i8 z1) (.int .i32 m2) (.int .i64 s2) (.int .i8 z2) (.int .i8 lo) (.int .i8 hi) K S P O Z WA BA nW cW nB cB (w5.drewN nq)) := TN
      replace TL : Hid (TableAt g9 F (w5.drewN nq)) := TL
      replace HR : Hid (Kit.Rd (w5.drewN nq) (w5.drewN nq).heap.size A (I8s zs)) := Lib.hid (HR.out.drewN nq)
      replace HBZ := Lib.hid (Kit.below_drewN HBZ.out nq)
      replace yTA : w.heap.size < (w5.drewN nq).heap.size := yTA
      replace yTN : w.heap.size + 1 < (w5.drewN nq).heap.size := yTN
      replace yTL : g9 < (w5.drewN nq).heap.size := yTL
      clear tap0 tap1 tap2 tap3 t1p0 t1p1 t1p2 t1p3 T1 RA2 TO yT1 yTO
      generalize w5.drewN nq = W7 at TA TN TL HR HBZ yTA yTN yTL ⊢
      obtain ⟨tap0, tap1, tap2, tap3⟩ := TA.out
      go_wp2_with (first
        | (go_at_call 14
           have hal : Below W7.heap.size W7 W7 := Below.refl _ _
           refine (HC2.out _ HR.out).mono ?_
           rintro e w6 ⟨v6, rfl, ho6, hb⟩
           have hh : Below W7.heap.size W7 w6 := hal.trans (hb.mono hal.size)
           replace TA := Lib.hid (TA.out.below yTA hh)
           replace yTA := Nat.lt_of_lt_of_le yTA hh.size
           replace TN := Lib.hid (TN.out.below yTN hh)
           replace yTN := Nat.lt_of_lt_of_le yTN hh.size
           replace TL := Lib.hid (TL.out.below yTL hh)
           replace yTL := Nat.lt_of_lt_of_le yTL hh.size
           replace HR := Lib.hid ((HR.out.below hh).more hh.size)
           have HBW : Hid (Below W7.heap.size W7 w6) := Lib.hid hh
           clear tap0 tap1 tap2 tap3
           obtain ⟨A6, c6, rfl, -, -, hrd6⟩ := Kit.own_rd ho6
           have RA6 := Lib.hid hrd6
           clear ho6 hrd6
           obtain ⟨tap0, tap1, tap2, tap3⟩ := TA.out
           clear hb hh hal)
        | (go_at_call 8
           have hal : Below w6.heap.size w6 (w6.alloc (.cells #[.int .i64 H, .int .i64 W, .int .i64 C, .slice A6 k c6] 26)) := (Below.refl _ _).alloc (by first | exact Nat.le_refl _ | (simp; done) | (simp; omega)) _
           refine (HC3.out _ ((HR.out.below hal).more hal.size)).mono ?_
           rintro e w8 ⟨v8, rfl, ho8, hb⟩
           have hh : Below w6.heap.size w6 w8 := hal.trans (hb.mono hal.size)
           have qT2 := (boxNew H W C A6 k c6 26) w6
           try simp only [World.size_alloc] at qT2
           have T2 := Lib.hid (qT2.below (by first | (simp; done) | (simp; omega)) hb)
           have yT2 : w6.heap.size < w8.heap.size := by have := hb.size; simp at this; omega
           clear qT2
           replace TA := Lib.hid (TA.out.below yTA hh)
           replace yTA := Nat.lt_of_lt_of_le yTA hh.size
           replace TN := Lib.hid (TN.out.below yTN hh)
           replace yTN := Nat.lt_of_lt_of_le yTN hh.size
           replace TL := Lib.hid (TL.out.below yTL hh)
           replace yTL := Nat.lt_of_lt_of_le yTL hh.size
           replace HR := Lib.hid ((HR.out.below hh).more hh.size)
           replace RA6 := Lib.hid ((RA6.out.below hh).more hh.size)
           replace HBW := Lib.hid (HBW.out.trans (hh.mono HBW.out.size))
           clear tap0 tap1 tap2 tap3
           obtain ⟨A8, c8, rfl, -, -, hrd8⟩ := Kit.own_rd ho8
           have RA8 := Lib.hid hrd8
           clear ho8 hrd8
           obtain ⟨tap0, tap1, tap2, tap3⟩ := TA.out
           obtain ⟨t2p0, t2p1, t2p2, t2p3⟩ := T2.out
           clear hb hh hal)
        | (go_at_call 9
           have hal : Below w8.heap.size w8 (w8.alloc (.cells #[.int .i64 H, .int .i64 W, .int .i64 C, .slice A8 k c8] 26)) := (Below.refl _ _).alloc (by first | exact Nat.le_refl _ | (simp; done) | (simp; omega)) _
           refine (refSame_to H W C A6 A8 (rowL FR k) (rowL FR k) k c6 c8 (rowL_len _ _) (rowL_len _ _) (by omega) true (by simp) _ (hal.size) (hal.size) (RA6.out.below hal) (RA8.out.below hal)).mono ?_
           rintro e w9 ⟨rfl, hb⟩
           have hh : Below w8.heap.size w8 w9 := hal.trans (hb.mono hal.size)
           have qT3 := (boxNew H W C A8 k c8 26) w8
           try simp only [World.size_alloc] at qT3
           have T3 := Lib.hid (qT3.below (by first | (simp; done) | (simp; omega)) hb)
           have yT3 : w8.heap.size < w9.heap.size := by have := hb.size; simp at this; omega
           clear qT3
           replace TA := Lib.hid (TA.out.below yTA hh)
           replace yTA := Nat.lt_of_lt_of_le yTA hh.size
           replace TN := Lib.hid (TN.out.below yTN hh)
           replace yTN := Nat.lt_of_lt_of_le yTN hh.size
           replace TL := Lib.hid (TL.out.below yTL hh)
           replace yTL := Nat.lt_of_lt_of_le yTL hh.size
           replace T2 := Lib.hid (T2.out.below yT2 hh)
           replace yT2 := Nat.lt_of_lt_of_le yT2 hh.size
           replace HR := Lib.hid ((HR.out.below hh).more hh.size)
           replace RA6 := Lib.hid ((RA6.out.below hh).more hh.size)
           replace RA8 := Lib.hid ((RA8.out.below hh).more hh.size)
           replace HBW := Lib.hid (HBW.out.trans (hh.mono HBW.out.size))
           clear tap0 tap1 tap2 tap3 t2p0 t2p1 t2p2 t2p3
           obtain ⟨tap0, tap1, tap2, tap3⟩ := TA.out
           obtain ⟨t2p0, t2p1, t2p2, t2p3⟩ := T2.out
           obtain ⟨t3p0, t3p1, t3p2, t3p3⟩ := T3.out
           clear hb hh hal)
        | (go_at_call 6
           have hal : Below w9.heap.size w9 w9 := Below.refl _ _
           refine (known21 _).mono ?_
           rintro e w10 ⟨rfl, hb⟩
           have hh : Below w9.heap.size w9 w10 := hal.trans (hb.mono hal.size)
           replace TA := Lib.hid (TA.out.below yTA hh)
           replace yTA := Nat.lt_of_lt_of_le yTA hh.size
           replace TN := Lib.hid (TN.out.below yTN hh)
           replace yTN := Nat.lt_of_lt_of_le yTN hh.size
           replace TL := Lib.hid (TL.out.below yTL hh)
           replace yTL := Nat.lt_of_lt_of_le yTL hh.size
           replace T2 := Lib.hid (T2.out.below yT2 hh)
           replace yT2 := Nat.lt_of_lt_of_le yT2 hh.size
           replace T3 := Lib.hid (T3.out.below yT3 hh)
           replace yT3 := Nat.lt_of_lt_of_le yT3 hh.size
           replace HR := Lib.hid ((HR.out.below hh).more hh.size)
           replace RA6 := Lib.hid ((RA6.out.below hh).more hh.size)
           replace RA8 := Lib.hid ((RA8.out.below hh).more hh.size)
           replace HBW := Lib.hid (HBW.out.trans (hh.mono HBW.out.size))
           clear tap0 tap1 tap2 tap3 t2p0 t2p1 t2p2 t2p3 t3p0 t3p1 t3p2 t3p3
           obtain ⟨tap0, tap1, tap2, tap3⟩ := TA.out
           obtain ⟨t2p0, t2p1, t2p2, t2p3⟩ := T2.out
           obtain ⟨t3p0, t3p1, t3p2, t3p3⟩ := T3.out
           clear hb hh hal)
        | (refine wpList_load_mid rfl 41 (.tmp 9) rfl (g9) 0 rfl (tabL F) _ (TL.out.range) Try.underlying41 rfl (info41_len _) ?_)
        | (refine wpList_load_mid rfl 32 (.tmp 5) rfl (w.heap.size + 1) 0 rfl [x0, x1, x2, .int .i64 K, .int .i64 S, .int .i64 P, .int .i64 O, .int .i8 Z, .int .i8 Y, .slice WA nW cW, .slice BA nB cB, .int .i32 m1, .int .i64 s1, .int .i8 z1, .int .i32 m2, .int .i64 s2, .int .i8 z2, .int .i8 lo, .int .i8 hi] _ (TN.out) Try.underlying32 rfl (by kernel_rfl) ?_)
        | (refine wpList_load_mid rfl 32 (.tmp 5) rfl (w.heap.size + 1) 0 rfl [x0, x1, x2, .int .i64 K, .int .i64 S, .int .i64 P, .int .i64 O, .int .i8 Z, .int .i8 Y, .slice WA nW cW, .slice BA nB cB, .int .i32 m1, .int .i64 s1, .int .i8 z1, .int .i32 m2, .int .i64 s2, .int .i8 z2, .int .i8 lo, .int .i8 hi] _ (TN.out.below yTN ((Below.refl _ _).alloc (Nat.le_refl _) _)) Try.underlying32 rfl (by kernel_rfl) ?_))
      go_ret
      exact ⟨rfl, HBZ.out.trans (HBW.out.mono HBZ.out.size)⟩
end Go.Proofs.Ytpokeklphmfcnaa.CAct
