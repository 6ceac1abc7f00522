/- LebBack: any number comes back, whatever stands behind it, and its beginnings are too short; whatever is got is put as the same bytes; the call returns true and leaves its arguments as they were. No condition. -/
import Derived.Test.YtikendjjolpnoaaLebRefTwo
import Derived.Deep.RegionHeld3
import Derived.Deep.CutRange
namespace Go.Proofs.Ytikendjjolpnoaa.lawLebBack
open Go Go.ChangeShapes Go.WideShapes Go.ChangeAt Go.RowKit
open LebNum CLeb
set_option linter.unusedVariables false

theorem bytes_of {zs : List Int} (hw : ∀ n ∈ zs, (Lit.int .u8 n).wf = true) : Bytes zs := fun z hz => by
  obtain ⟨h1, h2⟩ := bounds_u8 (hw z hz)
  omega
theorem digN_bytes (k : Nat) : ∀ n : Nat, n ≤ k → Bytes (digN n) := by
  induction k with
  | zero => intro n hn z hz; rw [digN, dif_pos (by omega)] at hz; simp at hz; omega
  | succ k ih =>
    intro n hn z hz
    rw [digN] at hz
    by_cases h : n < 128
    · rw [dif_pos h] at hz; simp at hz; omega
    · rw [dif_neg h] at hz
      rcases List.mem_cons.1 hz with rfl | hz
      · omega
      · exact ih (n / 128) (by omega) z hz
theorem digZ_bytes (n : Int) : Bytes (digZ n) := digN_bytes n.toNat n.toNat (Nat.le_refl _)
theorem bytes_app {xs ys : List Int} (h1 : Bytes xs) (h2 : Bytes ys) : Bytes (xs ++ ys) := fun z hz => by
  rcases List.mem_append.1 hz with h | h
  · exact h1 z h
  · exact h2 z h
/-- Get, the length under a name of its own. -/
theorem get_n (A : Option Addr) (zs : List Int) (m c : Nat) (hl : zs.length = m) (hb : Bytes zs) (n : Int) (k : Nat) (e : Int) (hr : GetR zs n k e) (hm : m ≤ 1000000) {B : Nat} (w : World) (hrd : Kit.Rd w B A (zs.map (.int .u8))) :
    Calls Try.prog 35 #[.slice A m c] w fun r w' => r = .returned (.tuple #[.int .u64 n, .int .i64 k, .int .i64 e]) ∧ w = w' := by
  subst hl
  exact get_to A zs c hb n k e hr (by omega) w hrd
theorem getInt_n (A : Option Addr) (zs : List Int) (m c : Nat) (hl : zs.length = m) (hb : Bytes zs) (n v : Int) (k : Nat) (hr : GetR zs n k 0) (hv : unfoldZ n = v) (hm : m ≤ 1000000) {B : Nat} (w : World) (hrd : Kit.Rd w B A (zs.map (.int .u8))) :
    Calls Try.prog 37 #[.slice A m c] w fun r w' => r = .returned (.tuple #[.int .i64 v, .int .i64 k, .int .i64 0]) ∧ w = w' := by
  subst hl hv
  exact getInt_to A zs c hb n k 0 hr _ (.inr ⟨rfl, rfl⟩) (by omega) w hrd

theorem rd_take {w : World} {B : Nat} {A : Option Addr} {zs : List Int} (h : Kit.Rd w B A (zs.map (.int .u8))) (q : Nat) : Kit.Rd w B A ((zs.take q).map (.int .u8)) := by
  rw [List.map_take]; exact h.take q
theorem below_drew {B : Nat} {w w' : World} (h : Below B w w') : Below B w w'.drew := h.drew
theorem own_at {w : World} {v : Value} {T : TypeId} (h : v.ownBlock = (Value.slice (some ⟨w.heap.size, 0, none⟩) 0 0).ownBlock ∨ v.ownBlock = some (w.alloc (.cells #[] T)).heap.size) : ∀ q, v.ownBlock = some q → w.heap.size ≤ q := fun q hq => by
  rcases h with h | h
  · rw [h] at hq; simp [Value.ownBlock] at hq; omega
  · rw [h] at hq; simp at hq; omega
set_option maxHeartbeats 4000000 in
set_option maxRecDepth 100000 in
theorem walk {w : World} (n : Int) (wn : (Lit.int .u64 n).wf = true) (v : Int) (wv : (Lit.int .i64 v).wf = true) (A : Option Addr) (zs : List Int) (c : Nat) (hc : zs.length ≤ c) (hm : c ≤ maxLen) (hw : ∀ n ∈ zs, (Lit.int .u8 n).wf = true)
    (hr : Kit.Rd w w.heap.size A (zs.map (.int .u8))) (a : Int) (wa : (Lit.int .u8 a).wf = true) :
    Calls Try.prog 8 #[.int .u64 n, .int .i64 v, .slice A zs.length c, .int .u8 a] w fun e w' => e = .returned (.bool true) ∧ Below w.heap.size w w' := by
  unfold maxLen at hm
  obtain ⟨n1, n2⟩ := bounds_u64 wn
  obtain ⟨v1, v2⟩ := bounds_i64 wv
  obtain ⟨a1, a2⟩ := bounds_u8 wa
  have hb := bytes_of hw
  clear hw wn wv wa
  by_cases hl : 100 < zs.length
  · clear hb
    go_enter Try.func8, Try.ntmps8
    go_wp2_with (go_at_call 34; refine (known06 _).mono ?_; rintro e w' ⟨rfl, hb⟩)
    go_ret
    exact ⟨rfl, hb⟩
  have n3 : n ≤ 18446744073709551615 := by omega
  have v3 : v ≤ 9223372036854775807 := by omega
  obtain ⟨f1, f2⟩ := foldZ_bd v1 v3
  have huf := unfold_fold v
  obtain ⟨l1, l2⟩ := digZ_len n1 n3
  obtain ⟨m1, m2⟩ := digZ_len f1 f2
  have g1 := getR_dig n1 n3 zs
  have g2 := getR_dig f1 f2 zs
  have b1 := bytes_app (digZ_bytes n) hb
  have b2 := bytes_app (digZ_bytes (foldZ v)) hb
  have g3 := fun k hk => getR_short (k := k) n1 n3 hk
  have b3 := digZ_bytes n
  obtain ⟨f, hf⟩ : ∃ f, foldZ v = f := ⟨_, rfl⟩
  have HD2 := Lib.hid (congrArg digZ hf)
  rw [hf] at f1 f2 m1 m2 g2 b2 huf
  obtain ⟨ds, hd⟩ : ∃ ds, digZ n = ds := ⟨_, rfl⟩
  obtain ⟨es, he⟩ : ∃ es, digZ f = es := ⟨_, rfl⟩
  rw [hd] at l1 l2 g1 b1 g3 b3
  rw [he] at m1 m2 g2 b2
  obtain ⟨L, hL⟩ : ∃ L, ds.length = L := ⟨_, rfl⟩
  obtain ⟨M, hM⟩ : ∃ M, es.length = M := ⟨_, rfl⟩
  rw [hL] at l1 l2 g1 g3
  rw [hM] at m1 m2 g2
  obtain ⟨N, hN⟩ : ∃ N, zs.length = N := ⟨_, rfl⟩
  rw [hN] at hl hc
  have hLN : (ds ++ zs).length = L + N := by simp [hL, hN]
  have hMN : (es ++ zs).length = M + N := by simp [hM, hN]
  have G1 := Lib.hid g1
  have G2 := Lib.hid g2
  have B1 := Lib.hid b1
  have B2 := Lib.hid b2
  have B3 := Lib.hid b3
  have B0 := Lib.hid hb
  have HF := Lib.hid hf
  have HD := Lib.hid hd
  have HI := Lib.hid (HD2.out.trans he)
  have HL := Lib.hid hL
  have HM := Lib.hid hM
  have HN := Lib.hid hN
  have HUF := Lib.hid huf
  have HLN := Lib.hid hLN
  have HMN := Lib.hid hMN
  -- the part that is too short
  have hq : ∃ q : Nat, (q : Int) = a % (L : Int) ∧ q < L := ⟨(a % (L : Int)).toNat, by have := Int.emod_nonneg a (b := (L : Int)) (by omega); omega, by have := Int.emod_lt_of_pos a (b := (L : Int)) (by omega); have := Int.emod_nonneg a (b := (L : Int)) (by omega); omega⟩
  obtain ⟨q, hq1, hq2⟩ := hq
  have G3 := Lib.hid (g3 q hq2)
  have B3q : Hid (Bytes (ds.take q)) := Lib.hid (fun z hz => b3 z (List.mem_of_mem_take hz))
  have HQ := Lib.hid (show (ds.take q).length = q by simp [hL]; omega)
  have hq1' : a % (L : Int) = (q : Int) := hq1.symm
  have HA := Lib.hid hr
  rw [hN]
  obtain ⟨n', k', e', hR⟩ := getR_any zs
  obtain ⟨r1, r2, r3, r4, r5, r6⟩ := getR_bd hb hR
  rw [hN] at r4
  have HR := Lib.hid hR
  have hok : e' = 0 → digZ n' = zs.take k' := fun h0 => by subst h0; exact (getR_ok hb hR).2.2.2.2
  have HOK := Lib.hid hok
  clear g1 g2 g3 b1 b2 b3 hb hf hd he HD2 hL hM hN huf hLN hMN hr hq1 hR hok r6
  have H0 := Lib.hid (Below.refl w.heap.size w)
  go_enter Try.func8, Try.ntmps8
  obtain ⟨i0, hi0, hi1, hi2, hi3⟩ := info_parts info_u8
  go_upto_region 9 with (first
    | (go_at_call 29; ((with_reducible refine (put_to n n1 n3 ds L HD.out HL.out _).mono ?_); (rintro e w1 ⟨A1, c1, rfl, hc1, hm1, hr1, hb1⟩; have RA := Lib.hid hr1; replace HA := Lib.hid ((HA.out.below hb1).more hb1.size); replace H0 := Lib.hid (H0.out.trans (hb1.mono H0.out.size)); clear hr1 hb1)))
    | (go_at_call 32; ((with_reducible refine (putInt_to v v1 v3 es M HI.out HM.out _).mono ?_); (rintro e w5 ⟨A5, c5, rfl, hc5, hm5, hr5, hb5⟩; have RC := Lib.hid hr5; replace RA := Lib.hid ((RA.out.below hb5).more hb5.size); replace HA := Lib.hid ((HA.out.below hb5).more hb5.size); replace H0 := Lib.hid (H0.out.trans (hb5.mono H0.out.size)); clear hr5 hb5)))
    | (at_builtin; refine Kit.wpList_append_rd _ rfl (.tmp 32) (.tmp 33) _ rfl w.heap.size 5 i0 (.int .u8 0) 1 1 Try.underlying57 hi0 hi1 hi2 hi3 rfl (by decide) (.slice (some ⟨_, 0, none⟩) 0 0) 0 [] rfl (World.ownsRow_lit _ #[] 0 H0.out.size (Nat.zero_le _) rfl) _ _ L _ (bytesV ds) rfl (by simp [bytesV, HL.out]) (RA.out.alloc (Nat.le_refl _) _) (Kit.ints_one .u8 ds) (by unfold maxLen; omega) (by omega) (by have := H0.out.size; simp; omega) ?_; intro v11 w11 hown11 hg11 hat11; have HX := Lib.hid (((Below.refl _ _).alloc (Nat.le_refl _) _).grown hg11 (by simp) (fun q hq => by simp [Value.ownBlock] at hq; omega)); replace hown11 : w11.ownsRow w.heap.size 5 1 v11 L (bytesV ds) := (by simpa using hown11); have HG := Lib.hid (own_at hat11); obtain ⟨A11, c11, rfl, _, _, _⟩ := Kit.own_rd hown11; have HO := Lib.hid hown11; clear hown11 hg11 hat11)
    | (at_builtin; refine Kit.wpList_append_rd _ rfl (.tmp 34) (.tmp 35) _ rfl w.heap.size 5 i0 (.int .u8 0) 1 1 Try.underlying57 hi0 hi1 hi2 hi3 rfl (by decide) _ L (bytesV ds) rfl HO.out _ _ N _ (bytesV zs) rfl (by simp [bytesV, HN.out]) (HA.out.below HX.out) (Kit.ints_one .u8 zs) (by unfold maxLen; omega) (by omega) (by have := H0.out.size; have := HX.out.size; omega) ?_; intro v12 w12 hown12 hg12 hat12; replace HX := Lib.hid (HX.out.grown hg12 HX.out.size (fun q hq => HG.out q hq)); replace hown12 : w12.ownsRow w.heap.size 5 1 v12 (L + N) (bytesV (ds ++ zs)) := (by simpa [bytesV] using hown12); obtain ⟨A12, c12, rfl, _, _, hrd12⟩ := Kit.own_rd hown12; have RX := Lib.hid hrd12; replace RA := Lib.hid ((RA.out.below HX.out).more HX.out.size); replace RC := Lib.hid ((RC.out.below HX.out).more HX.out.size); replace HA := Lib.hid ((HA.out.below HX.out).more HX.out.size); replace H0 := Lib.hid (H0.out.trans (HX.out.mono H0.out.size)); clear hown12 hg12 hat12 hrd12 HX HG HO)
    | (go_at_call 35; ((with_reducible refine (get_n _ (ds ++ zs) (L + N) _ HLN.out B1.out n L 0 G1.out (by omega) _ RX.out).mono ?_); (rintro r w13 ⟨rfl, rfl⟩; clear RX)))
    | (at_builtin; refine Kit.wpList_append_rd _ rfl (.tmp 42) (.tmp 43) _ rfl w.heap.size 5 i0 (.int .u8 0) 1 1 Try.underlying57 hi0 hi1 hi2 hi3 rfl (by decide) (.slice (some ⟨_, 0, none⟩) 0 0) 0 [] rfl (World.ownsRow_lit _ #[] 0 H0.out.size (Nat.zero_le _) rfl) _ _ M _ (bytesV es) rfl (by simp [bytesV, HM.out]) (RC.out.alloc (Nat.le_refl _) _) (Kit.ints_one .u8 es) (by unfold maxLen; omega) (by omega) (by have := H0.out.size; simp; omega) ?_; intro v21 w21 hown21 hg21 hat21; have HX := Lib.hid (((Below.refl _ _).alloc (Nat.le_refl _) _).grown hg21 (by simp) (fun q hq => by simp [Value.ownBlock] at hq; omega)); replace hown21 : w21.ownsRow w.heap.size 5 1 v21 M (bytesV es) := (by simpa using hown21); have HG := Lib.hid (own_at hat21); obtain ⟨A21, c21, rfl, _, _, _⟩ := Kit.own_rd hown21; have HO := Lib.hid hown21; clear hown21 hg21 hat21)
    | (at_builtin; refine Kit.wpList_append_rd _ rfl (.tmp 44) (.tmp 45) _ rfl w.heap.size 5 i0 (.int .u8 0) 1 1 Try.underlying57 hi0 hi1 hi2 hi3 rfl (by decide) _ M (bytesV es) rfl HO.out _ _ N _ (bytesV zs) rfl (by simp [bytesV, HN.out]) (HA.out.below HX.out) (Kit.ints_one .u8 zs) (by unfold maxLen; omega) (by omega) (by have := H0.out.size; have := HX.out.size; omega) ?_; intro v22 w22 hown22 hg22 hat22; replace HX := Lib.hid (HX.out.grown hg22 HX.out.size (fun q hq => HG.out q hq)); replace hown22 : w22.ownsRow w.heap.size 5 1 v22 (M + N) (bytesV (es ++ zs)) := (by simpa [bytesV] using hown22); obtain ⟨A22, c22, rfl, _, _, hrd22⟩ := Kit.own_rd hown22; have RX := Lib.hid hrd22; replace RA := Lib.hid ((RA.out.below HX.out).more HX.out.size); replace HA := Lib.hid ((HA.out.below HX.out).more HX.out.size); replace H0 := Lib.hid (H0.out.trans (HX.out.mono H0.out.size)); clear hown22 hg22 hat22 hrd22 HX HG HO)
    | (go_at_call 37; ((with_reducible refine (getInt_n _ (es ++ zs) (M + N) _ HMN.out B2.out f v M G2.out HUF.out (by omega) _ RX.out).mono ?_); (rintro r w14 ⟨rfl, rfl⟩; clear RX)))
    | (go_at_call 35; ((with_reducible refine (get_n _ (ds.take q) q _ HQ.out B3q.out 0 0 20 G3.out (by omega) _ (rd_take RA.out q)).mono ?_); (rintro r w15 ⟨rfl, rfl⟩)))
    | (go_at_call 35; ((with_reducible refine (get_n _ zs N _ HN.out B0.out n' k' e' HR.out (by omega) _ HA.out).mono ?_); (rintro r w16 ⟨rfl, rfl⟩))))
  go_cut [20, 21, 22] from 23 to 101 (fun s20 s21 s22 wx => s20 = .int .u64 n' ∧ s21 = .int .i64 k' ∧ s22 = .int .i64 e' ∧ wx = w22)
  case first =>
    go_wp2_with (go_at_call 35; ((with_reducible refine (get_n _ zs N _ HN.out B0.out n' k' e' HR.out (by omega) _ HA.out).mono ?_); (rintro r w16 ⟨rfl, rfl⟩)))
    go_meet
    case rel => exact ⟨rfl, rfl, rfl, rfl⟩
  case rest =>
  obtain ⟨rfl, rfl, rfl, rfl⟩ := hcut
  go_wp2_with fail
  rcases r5 with rfl | rfl | rfl
  · have hk := HOK.out rfl
    obtain ⟨s, hs⟩ : ∃ s, strOfNums (zs.take k') = s := ⟨_, rfl⟩
    have hlk : (zs.take k').length = k' := by have := HN.out; simp; omega
    have HK := Lib.hid hk
    have HS := Lib.hid hs
    have HLK := Lib.hid hlk
    have cv := conv_str (n := k') (c := c) (rd_take HA.out.drew k') hlk s hs
    clear hk hs hlk HOK
    have q1 : (0 : Int) ≤ (k' : Int) := by omega
    have q2 : (k' : Int) ≤ (c : Int) := by omega
    have q3 : (k' : Int) ≤ (N : Int) := by omega
    have q4 : k' ≤ c := by omega
    refine wp_region_held_drew (S := fun w' => (convert 57 9 (.slice A k' c)).run Try.prog w' = .ok (.string s) w') (by kernel_rfl) cv (fun hHeld => ?_)
    try dsimp only at hHeld
    refine wpAnyH_take (i := 0) (oi := ({ dst := some 102, op := Op.move (Operand.tmp 19), type := 30, pos := "law.go:47", after := #[], guard := none } : Oper)) (v := ?_) rfl (by kernel_rfl) (by kernel_rfl) (by kernel_rfl) (fun _ _ _ h => h) (Or.inl ⟨by rfl, ?_⟩) (by assumption) ?_
    rotate_left
    · intro wS hSw
      first
        | (go_simp; done)
        | (go_simp; with_reducible rfl)
    try simp only [Act.put, List.setIfInBounds_toArray, List.set_cons_zero, List.set_cons_succ]
    refine wpAnyH_take (i := 1) (oi := ({ dst := some 103, op := Op.binOp BinOp.eql 30 (Operand.tmp 102) (Operand.const (Value.int IntKind.i64 20)) 30, type := 4, pos := "law.go:47", after := #[{ on := 0, ground := Ground.data }], guard := none } : Oper)) (v := ?_) rfl (by kernel_rfl) (by kernel_rfl) (by kernel_rfl) (fun _ _ _ h => h) (Or.inl ⟨by rfl, ?_⟩) (by assumption) ?_
    rotate_left
    · intro wS hSw
      first
        | (go_simp; done)
        | (go_simp; with_reducible rfl)
    try simp only [Act.put, List.setIfInBounds_toArray, List.set_cons_zero, List.set_cons_succ]
    refine wpAnyH_take (i := 2) (oi := ({ dst := some 104, op := Op.move (Operand.tmp 103), type := 4, pos := "law.go:47", after := #[{ on := 1, ground := Ground.data }], guard := none } : Oper)) (v := ?_) rfl (by kernel_rfl) (by kernel_rfl) (by kernel_rfl) (fun _ _ _ h => h) (Or.inl ⟨by rfl, ?_⟩) (by assumption) ?_
    rotate_left
    · intro wS hSw
      first
        | (go_simp; done)
        | (go_simp; with_reducible rfl)
    try simp only [Act.put, List.setIfInBounds_toArray, List.set_cons_zero, List.set_cons_succ]
    refine wpAnyH_take (i := 3) (oi := ({ dst := some 105, op := Op.move (Operand.tmp 22), type := 30, pos := "law.go:47", after := #[{ on := 2, ground := Ground.guard }], guard := some (2, true) } : Oper)) (v := ?_) rfl (by kernel_rfl) (by kernel_rfl) (by kernel_rfl) (fun _ _ _ h => h) (Or.inl ⟨by rfl, ?_⟩) (by assumption) ?_
    rotate_left
    · intro wS hSw
      first
        | (go_simp; done)
        | (go_simp; with_reducible rfl)
    try simp only [Act.put, List.setIfInBounds_toArray, List.set_cons_zero, List.set_cons_succ]
    refine wpAnyH_take (i := 4) (oi := ({ dst := some 106, op := Op.binOp BinOp.neq 30 (Operand.tmp 105) (Operand.const (Value.int IntKind.i64 0)) 30, type := 4, pos := "law.go:47", after := #[{ on := 3, ground := Ground.data }, { on := 2, ground := Ground.guard }], guard := some (2, true) } : Oper)) (v := ?_) rfl (by kernel_rfl) (by kernel_rfl) (by kernel_rfl) (fun _ _ _ h => h) (Or.inl ⟨by rfl, ?_⟩) (by assumption) ?_
    rotate_left
    · intro wS hSw
      first
        | (go_simp; done)
        | (go_simp; with_reducible rfl)
    try simp only [Act.put, List.setIfInBounds_toArray, List.set_cons_zero, List.set_cons_succ]
    refine wpAnyH_take (i := 5) (oi := ({ dst := some 107, op := Op.move (Operand.tmp 106), type := 4, pos := "law.go:47", after := #[{ on := 4, ground := Ground.data }, { on := 2, ground := Ground.chain }, { on := 2, ground := Ground.guard }], guard := some (2, true) } : Oper)) (v := ?_) rfl (by kernel_rfl) (by kernel_rfl) (by kernel_rfl) (fun _ _ _ h => h) (Or.inl ⟨by rfl, ?_⟩) (by assumption) ?_
    rotate_left
    · intro wS hSw
      first
        | (go_simp; done)
        | (go_simp; with_reducible rfl)
    try simp only [Act.put, List.setIfInBounds_toArray, List.set_cons_zero, List.set_cons_succ]
    refine wpAnyH_take (i := 6) (oi := ({ dst := some 108, op := Op.move (Operand.tmp 21), type := 3, pos := "law.go:47", after := #[{ on := 5, ground := Ground.guard }], guard := some (5, false) } : Oper)) (v := ?_) rfl (by kernel_rfl) (by kernel_rfl) (by kernel_rfl) (fun _ _ _ h => h) (Or.inl ⟨by rfl, ?_⟩) (by assumption) ?_
    rotate_left
    · intro wS hSw
      first
        | (go_simp; done)
        | (go_simp; with_reducible rfl)
    try simp only [Act.put, List.setIfInBounds_toArray, List.set_cons_zero, List.set_cons_succ]
    refine wpAnyH_take (i := 7) (oi := ({ dst := some 109, op := Op.move (Operand.tmp 2), type := 57, pos := "law.go:47", after := #[{ on := 5, ground := Ground.guard }], guard := some (5, false) } : Oper)) (v := ?_) rfl (by kernel_rfl) (by kernel_rfl) (by kernel_rfl) (fun _ _ _ h => h) (Or.inl ⟨by rfl, ?_⟩) (by assumption) ?_
    rotate_left
    · intro wS hSw
      first
        | (go_simp; done)
        | (go_simp; with_reducible rfl)
    try simp only [Act.put, List.setIfInBounds_toArray, List.set_cons_zero, List.set_cons_succ]
    refine wpAnyH_take (i := 8) (oi := ({ dst := some 110, op := Op.call { callee := Callee.builtin Builtin.len, args := #[Operand.tmp 109], argTypes := #[57] }, type := 3, pos := "law.go:47", after := #[{ on := 7, ground := Ground.data }, { on := 5, ground := Ground.guard }], guard := some (5, false) } : Oper)) (v := ?_) rfl (by kernel_rfl) (by kernel_rfl) (by kernel_rfl) (fun _ _ _ h => h) (Or.inl ⟨by rfl, ?_⟩) (by assumption) ?_
    rotate_left
    · intro wS hSw
      first
        | (go_simp; done)
        | (go_simp; with_reducible rfl)
    try simp only [Act.put, List.setIfInBounds_toArray, List.set_cons_zero, List.set_cons_succ]
    refine wpAnyH_take (i := 9) (oi := ({ dst := some 111, op := Op.binOp BinOp.leq 3 (Operand.tmp 108) (Operand.tmp 110) 3, type := 4, pos := "law.go:47", after := #[{ on := 6, ground := Ground.data }, { on := 8, ground := Ground.data }, { on := 5, ground := Ground.guard }], guard := some (5, false) } : Oper)) (v := ?_) rfl (by kernel_rfl) (by kernel_rfl) (by kernel_rfl) (fun _ _ _ h => h) (Or.inl ⟨by rfl, ?_⟩) (by assumption) ?_
    rotate_left
    · intro wS hSw
      first
        | (go_simp; done)
        | (go_simp; with_reducible rfl)
    try simp only [Act.put, List.setIfInBounds_toArray, List.set_cons_zero, List.set_cons_succ]
    refine wpAnyH_take (i := 10) (oi := ({ dst := some 112, op := Op.move (Operand.tmp 111), type := 4, pos := "law.go:47", after := #[{ on := 9, ground := Ground.data }, { on := 5, ground := Ground.chain }, { on := 5, ground := Ground.guard }], guard := some (5, false) } : Oper)) (v := ?_) rfl (by kernel_rfl) (by kernel_rfl) (by kernel_rfl) (fun _ _ _ h => h) (Or.inl ⟨by rfl, ?_⟩) (by assumption) ?_
    rotate_left
    · intro wS hSw
      first
        | (go_simp; done)
        | (go_simp; with_reducible rfl)
    try simp only [Act.put, List.setIfInBounds_toArray, List.set_cons_zero, List.set_cons_succ]
    refine wpAnyH_take (i := 11) (oi := ({ dst := some 113, op := Op.move (Operand.tmp 20), type := 55, pos := "law.go:47", after := #[{ on := 10, ground := Ground.guard }], guard := some (10, true) } : Oper)) (v := ?_) rfl (by kernel_rfl) (by kernel_rfl) (by kernel_rfl) (fun _ _ _ h => h) (Or.inl ⟨by rfl, ?_⟩) (by assumption) ?_
    rotate_left
    · intro wS hSw
      first
        | (go_simp; done)
        | (go_simp; with_reducible rfl)
    try simp only [Act.put, List.setIfInBounds_toArray, List.set_cons_zero, List.set_cons_succ]
    refine wpAnyH_take (i := 14) (oi := ({ dst := some 116, op := Op.move (Operand.tmp 2), type := 57, pos := "law.go:47", after := #[{ on := 10, ground := Ground.guard }], guard := some (10, true) } : Oper)) (v := ?_) rfl (by kernel_rfl) (by kernel_rfl) (by kernel_rfl) (fun _ _ _ h => h) (Or.inl ⟨by rfl, ?_⟩) (by assumption) ?_
    rotate_left
    · intro wS hSw
      first
        | (go_simp; done)
        | (go_simp; with_reducible rfl)
    try simp only [Act.put, List.setIfInBounds_toArray, List.set_cons_zero, List.set_cons_succ]
    refine wpAnyH_take (i := 15) (oi := ({ dst := some 117, op := Op.move (Operand.tmp 21), type := 3, pos := "law.go:47", after := #[{ on := 10, ground := Ground.guard }], guard := some (10, true) } : Oper)) (v := ?_) rfl (by kernel_rfl) (by kernel_rfl) (by kernel_rfl) (fun _ _ _ h => h) (Or.inl ⟨by rfl, ?_⟩) (by assumption) ?_
    rotate_left
    · intro wS hSw
      first
        | (go_simp; done)
        | (go_simp; with_reducible rfl)
    try simp only [Act.put, List.setIfInBounds_toArray, List.set_cons_zero, List.set_cons_succ]
    refine wpAnyH_take (i := 16) (oi := ({ dst := some 118, op := Op.slice 57 (Operand.tmp 116) none (some (Operand.tmp 117)) none, type := 57, pos := "law.go:47", after := #[{ on := 14, ground := Ground.data }, { on := 15, ground := Ground.data }, { on := 10, ground := Ground.guard }], guard := some (10, true) } : Oper)) (v := ?_) rfl (by kernel_rfl) (by kernel_rfl) (by kernel_rfl) (fun _ _ _ h => h) (Or.inl ⟨by rfl, ?_⟩) (by assumption) ?_
    rotate_left
    · intro wS hSw
      first
        | (go_simp; done)
        | (go_simp; with_reducible rfl)
    try simp only [Act.put, List.setIfInBounds_toArray, List.set_cons_zero, List.set_cons_succ]
    refine wpAnyH_take (i := 17) (oi := ({ dst := some 119, op := Op.convert 57 9 (Operand.tmp 118), type := 9, pos := "law.go:47", after := #[{ on := 16, ground := Ground.data }, { on := 10, ground := Ground.guard }], guard := some (10, true) } : Oper)) (v := ?_) rfl (by kernel_rfl) (by kernel_rfl) (by kernel_rfl) (fun _ _ _ h => h) (Or.inl ⟨by rfl, ?_⟩) (by assumption) ?_
    rotate_left
    · intro wS hSw
      first
        | (go_simp; done)
        | (go_simp; with_reducible rfl)
    try simp only [Act.put, List.setIfInBounds_toArray, List.set_cons_zero, List.set_cons_succ]
    refine wpAnyH_ready (rs := [12]) (by kernel_rfl) (by simp) ?_
    refine AllReadyH.cons (o := ({ dst := some 114, op := Op.call { callee := Callee.value (Operand.func 29), args := #[Operand.tmp 113], argTypes := #[55] }, type := 57, pos := "law.go:47", after := #[{ on := 11, ground := Ground.data }, { on := 10, ground := Ground.chain }, { on := 10, ground := Ground.guard }], guard := some (10, true) } : Oper)) rfl (fun K hK => ?_) (AllReadyH.nil)
    go_simp
    go_at_call 29
    refine (put_to n' r1 r2 (zs.take k') k' HK.out HLK.out _).mono ?_
    rintro e wp ⟨Ap, cp, rfl, _, _, hrp, hbp⟩
    have cvp := conv_str (n := k') (c := cp) hrp HLK.out s HS.out
    have cvb := conv_str (n := k') (c := c) (rd_take (HA.out.drew.below hbp) k') HLK.out s HS.out
    have HAW := Lib.hid ((HA.out.drew.below hbp).more hbp.size)
    replace H0 := Lib.hid ((below_drew H0.out).trans (hbp.mono H0.out.size))
    clear hrp hbp hHeld cv
    dsimp only
    refine hK.out _ _ ?_ (fun hHeld => ?_)
    · exact cvb
    clear hK K
    try simp only [Act.put, List.setIfInBounds_toArray, List.set_cons_zero, List.set_cons_succ]
    refine wpAnyH_ready (rs := [13]) (by kernel_rfl) (by simp) ?_
    refine AllReadyH.cons (o := ({ dst := some 115, op := Op.convert 57 9 (Operand.tmp 114), type := 9, pos := "law.go:47", after := #[{ on := 12, ground := Ground.data }, { on := 10, ground := Ground.guard }], guard := some (10, true) } : Oper)) rfl (fun K hK => ?_) (AllReadyH.nil)
    go_simp
    refine hK.out _ _ ?_ (fun hHeld => ?_)
    · exact cvb
    clear hK K
    try simp only [Act.put, List.setIfInBounds_toArray, List.set_cons_zero, List.set_cons_succ]
    refine wpAnyH_take (i := 18) (oi := ({ dst := some 120, op := Op.binOp BinOp.eql 9 (Operand.tmp 115) (Operand.tmp 119) 9, type := 4, pos := "law.go:47", after := #[{ on := 13, ground := Ground.data }, { on := 17, ground := Ground.data }, { on := 10, ground := Ground.guard }], guard := some (10, true) } : Oper)) (v := ?_) rfl (by kernel_rfl) (by kernel_rfl) (by kernel_rfl) (fun _ _ _ h => h) (Or.inl ⟨by rfl, ?_⟩) (by assumption) ?_
    rotate_left
    · intro wS hSw
      first
        | (go_simp; done)
        | (go_simp; with_reducible rfl)
    try simp only [Act.put, List.setIfInBounds_toArray, List.set_cons_zero, List.set_cons_succ]
    refine wpAnyH_take (i := 19) (oi := ({ dst := some 121, op := Op.pick (Operand.tmp 112) (Operand.tmp 120) (Operand.const (Value.bool false)), type := 4, pos := "law.go:47", after := #[{ on := 10, ground := Ground.data }, { on := 18, ground := Ground.data }, { on := 5, ground := Ground.guard }], guard := some (5, false) } : Oper)) (v := ?_) rfl (by kernel_rfl) (by kernel_rfl) (by kernel_rfl) (fun _ _ _ h => h) (Or.inl ⟨by rfl, ?_⟩) (by assumption) ?_
    rotate_left
    · intro wS hSw
      first
        | (go_simp; done)
        | (go_simp; with_reducible rfl)
    try simp only [Act.put, List.setIfInBounds_toArray, List.set_cons_zero, List.set_cons_succ]
    refine wpAnyH_take (i := 20) (oi := ({ dst := some 122, op := Op.pick (Operand.tmp 107) (Operand.const (Value.bool true)) (Operand.tmp 121), type := 4, pos := "law.go:47", after := #[{ on := 5, ground := Ground.data }, { on := 19, ground := Ground.data }, { on := 2, ground := Ground.guard }], guard := some (2, true) } : Oper)) (v := ?_) rfl (by kernel_rfl) (by kernel_rfl) (by kernel_rfl) (fun _ _ _ h => h) (Or.inl ⟨by rfl, ?_⟩) (by assumption) ?_
    rotate_left
    · intro wS hSw
      first
        | (go_simp; done)
        | (go_simp; with_reducible rfl)
    try simp only [Act.put, List.setIfInBounds_toArray, List.set_cons_zero, List.set_cons_succ]
    refine wpAnyH_take (i := 21) (oi := ({ dst := some 123, op := Op.pick (Operand.tmp 104) (Operand.tmp 122) (Operand.const (Value.bool false)), type := 4, pos := "law.go:47", after := #[{ on := 2, ground := Ground.data }, { on := 20, ground := Ground.data }], guard := none } : Oper)) (v := ?_) rfl (by kernel_rfl) (by kernel_rfl) (by kernel_rfl) (fun _ _ _ h => h) (Or.inl ⟨by rfl, ?_⟩) (by assumption) ?_
    rotate_left
    · intro wS hSw
      first
        | (go_simp; done)
        | (go_simp; with_reducible rfl)
    try simp only [Act.put, List.setIfInBounds_toArray, List.set_cons_zero, List.set_cons_succ]
    refine wpAnyH_take (i := 22) (oi := ({ dst := some 124, op := Op.move (Operand.tmp 123), type := 4, pos := "law.go:47", after := #[{ on := 21, ground := Ground.data }, { on := 12, ground := Ground.chain }], guard := none } : Oper)) (v := ?_) rfl (by kernel_rfl) (by kernel_rfl) (by kernel_rfl) (fun _ _ _ h => h) (Or.inl ⟨by rfl, ?_⟩) (by assumption) ?_
    rotate_left
    · intro wS hSw
      first
        | (go_simp; done)
        | (go_simp; with_reducible rfl)
    try simp only [Act.put, List.setIfInBounds_toArray, List.set_cons_zero, List.set_cons_succ]
    refine wpAnyH_ready (rs := [23]) (by kernel_rfl) (by simp) ?_
    refine AllReadyH.cons (o := ({ dst := some 125, op := Op.call { callee := Callee.value (Operand.func 34), args := #[], argTypes := #[] }, type := 4, pos := "law.go:47", after := #[{ on := 22, ground := Ground.chain }, { on := 22, ground := Ground.guard }], guard := some (22, true) } : Oper)) rfl (fun K hK => ?_) (AllReadyH.nil)
    go_simp
    go_at_call 34
    refine (known06 _).mono ?_
    rintro e w' ⟨rfl, hb⟩
    replace H0 := Lib.hid (H0.out.trans (hb.mono H0.out.size))
    have cvw := conv_str (n := k') (c := c) (rd_take (HAW.out.below hb) k') HLK.out s HS.out
    clear hb
    dsimp only
    refine hK.out _ _ ?_ (fun hHeld => ?_)
    · exact cvw
    clear hK K
    try simp only [Act.put, List.setIfInBounds_toArray, List.set_cons_zero, List.set_cons_succ]
    refine wpAnyH_take (i := 24) (oi := ({ dst := some 126, op := Op.pick (Operand.tmp 124) (Operand.tmp 125) (Operand.const (Value.bool false)), type := 4, pos := "law.go:47", after := #[{ on := 22, ground := Ground.data }, { on := 23, ground := Ground.data }], guard := none } : Oper)) (v := ?_) rfl (by kernel_rfl) (by kernel_rfl) (by kernel_rfl) (fun _ _ _ h => h) (Or.inl ⟨by rfl, ?_⟩) (by assumption) ?_
    rotate_left
    · intro wS hSw
      first
        | (go_simp; done)
        | (go_simp; with_reducible rfl)
    try simp only [Act.put, List.setIfInBounds_toArray, List.set_cons_zero, List.set_cons_succ]
    refine wpAnyH_take (i := 25) (oi := ({ dst := some 8, op := Op.assign (Operand.tmp 126), type := 4, pos := "law.go:47", after := #[{ on := 24, ground := Ground.data }, { on := 23, ground := Ground.chain }, { on := 0, ground := Ground.phase }, { on := 1, ground := Ground.phase }, { on := 2, ground := Ground.phase }, { on := 3, ground := Ground.phase }, { on := 4, ground := Ground.phase }, { on := 5, ground := Ground.phase }, { on := 6, ground := Ground.phase }, { on := 7, ground := Ground.phase }, { on := 8, ground := Ground.phase }, { on := 9, ground := Ground.phase }, { on := 10, ground := Ground.phase }, { on := 11, ground := Ground.phase }, { on := 12, ground := Ground.phase }, { on := 13, ground := Ground.phase }, { on := 14, ground := Ground.phase }, { on := 15, ground := Ground.phase }, { on := 16, ground := Ground.phase }, { on := 17, ground := Ground.phase }, { on := 18, ground := Ground.phase }, { on := 19, ground := Ground.phase }, { on := 20, ground := Ground.phase }, { on := 21, ground := Ground.phase }, { on := 22, ground := Ground.phase }, { on := 23, ground := Ground.phase }, { on := 24, ground := Ground.phase }], guard := none } : Oper)) (v := ?_) rfl (by kernel_rfl) (by kernel_rfl) (by kernel_rfl) (fun _ _ _ h => h) (Or.inl ⟨by rfl, ?_⟩) (by assumption) ?_
    rotate_left
    · intro wS hSw
      first
        | (go_simp; done)
        | (go_simp; with_reducible rfl)
    try simp only [Act.put, List.setIfInBounds_toArray, List.set_cons_zero, List.set_cons_succ]
    refine wpAnyH_done (by kernel_rfl) ?_ _
    go_wp2
    go_ret
    exact ⟨rfl, H0.out⟩
  all_goals
    clear HOK
    refine wp_region_held_drew (S := fun _ => True) (by kernel_rfl) trivial (fun hHeld => ?_)
    refine wpAnyH_take (i := 0) (oi := ({ dst := some 102, op := Op.move (Operand.tmp 19), type := 30, pos := "law.go:47", after := #[], guard := none } : Oper)) (v := ?_) rfl (by kernel_rfl) (by kernel_rfl) (by kernel_rfl) (fun _ _ _ h => h) (Or.inl ⟨by rfl, ?_⟩) (by assumption) ?_
    rotate_left
    · intro wS hSw
      first
        | (go_simp; done)
        | (go_simp; with_reducible rfl)
    try simp only [Act.put, List.setIfInBounds_toArray, List.set_cons_zero, List.set_cons_succ]
    refine wpAnyH_take (i := 1) (oi := ({ dst := some 103, op := Op.binOp BinOp.eql 30 (Operand.tmp 102) (Operand.const (Value.int IntKind.i64 20)) 30, type := 4, pos := "law.go:47", after := #[{ on := 0, ground := Ground.data }], guard := none } : Oper)) (v := ?_) rfl (by kernel_rfl) (by kernel_rfl) (by kernel_rfl) (fun _ _ _ h => h) (Or.inl ⟨by rfl, ?_⟩) (by assumption) ?_
    rotate_left
    · intro wS hSw
      first
        | (go_simp; done)
        | (go_simp; with_reducible rfl)
    try simp only [Act.put, List.setIfInBounds_toArray, List.set_cons_zero, List.set_cons_succ]
    refine wpAnyH_take (i := 2) (oi := ({ dst := some 104, op := Op.move (Operand.tmp 103), type := 4, pos := "law.go:47", after := #[{ on := 1, ground := Ground.data }], guard := none } : Oper)) (v := ?_) rfl (by kernel_rfl) (by kernel_rfl) (by kernel_rfl) (fun _ _ _ h => h) (Or.inl ⟨by rfl, ?_⟩) (by assumption) ?_
    rotate_left
    · intro wS hSw
      first
        | (go_simp; done)
        | (go_simp; with_reducible rfl)
    try simp only [Act.put, List.setIfInBounds_toArray, List.set_cons_zero, List.set_cons_succ]
    refine wpAnyH_take (i := 3) (oi := ({ dst := some 105, op := Op.move (Operand.tmp 22), type := 30, pos := "law.go:47", after := #[{ on := 2, ground := Ground.guard }], guard := some (2, true) } : Oper)) (v := ?_) rfl (by kernel_rfl) (by kernel_rfl) (by kernel_rfl) (fun _ _ _ h => h) (Or.inl ⟨by rfl, ?_⟩) (by assumption) ?_
    rotate_left
    · intro wS hSw
      first
        | (go_simp; done)
        | (go_simp; with_reducible rfl)
    try simp only [Act.put, List.setIfInBounds_toArray, List.set_cons_zero, List.set_cons_succ]
    refine wpAnyH_take (i := 4) (oi := ({ dst := some 106, op := Op.binOp BinOp.neq 30 (Operand.tmp 105) (Operand.const (Value.int IntKind.i64 0)) 30, type := 4, pos := "law.go:47", after := #[{ on := 3, ground := Ground.data }, { on := 2, ground := Ground.guard }], guard := some (2, true) } : Oper)) (v := ?_) rfl (by kernel_rfl) (by kernel_rfl) (by kernel_rfl) (fun _ _ _ h => h) (Or.inl ⟨by rfl, ?_⟩) (by assumption) ?_
    rotate_left
    · intro wS hSw
      first
        | (go_simp; done)
        | (go_simp; with_reducible rfl)
    try simp only [Act.put, List.setIfInBounds_toArray, List.set_cons_zero, List.set_cons_succ]
    refine wpAnyH_take (i := 5) (oi := ({ dst := some 107, op := Op.move (Operand.tmp 106), type := 4, pos := "law.go:47", after := #[{ on := 4, ground := Ground.data }, { on := 2, ground := Ground.chain }, { on := 2, ground := Ground.guard }], guard := some (2, true) } : Oper)) (v := ?_) rfl (by kernel_rfl) (by kernel_rfl) (by kernel_rfl) (fun _ _ _ h => h) (Or.inl ⟨by rfl, ?_⟩) (by assumption) ?_
    rotate_left
    · intro wS hSw
      first
        | (go_simp; done)
        | (go_simp; with_reducible rfl)
    try simp only [Act.put, List.setIfInBounds_toArray, List.set_cons_zero, List.set_cons_succ]
    refine wpAnyH_take (i := 6) (oi := ({ dst := some 108, op := Op.move (Operand.tmp 21), type := 3, pos := "law.go:47", after := #[{ on := 5, ground := Ground.guard }], guard := some (5, false) } : Oper)) (v := undef) rfl (by kernel_rfl) (by kernel_rfl) (by kernel_rfl) (fun _ _ _ h => h) (Or.inr ⟨by rfl, rfl⟩) (by assumption) ?_
    try simp only [Act.put, List.setIfInBounds_toArray, List.set_cons_zero, List.set_cons_succ]
    refine wpAnyH_take (i := 7) (oi := ({ dst := some 109, op := Op.move (Operand.tmp 2), type := 57, pos := "law.go:47", after := #[{ on := 5, ground := Ground.guard }], guard := some (5, false) } : Oper)) (v := undef) rfl (by kernel_rfl) (by kernel_rfl) (by kernel_rfl) (fun _ _ _ h => h) (Or.inr ⟨by rfl, rfl⟩) (by assumption) ?_
    try simp only [Act.put, List.setIfInBounds_toArray, List.set_cons_zero, List.set_cons_succ]
    refine wpAnyH_take (i := 8) (oi := ({ dst := some 110, op := Op.call { callee := Callee.builtin Builtin.len, args := #[Operand.tmp 109], argTypes := #[57] }, type := 3, pos := "law.go:47", after := #[{ on := 7, ground := Ground.data }, { on := 5, ground := Ground.guard }], guard := some (5, false) } : Oper)) (v := undef) rfl (by kernel_rfl) (by kernel_rfl) (by kernel_rfl) (fun _ _ _ h => h) (Or.inr ⟨by rfl, rfl⟩) (by assumption) ?_
    try simp only [Act.put, List.setIfInBounds_toArray, List.set_cons_zero, List.set_cons_succ]
    refine wpAnyH_take (i := 9) (oi := ({ dst := some 111, op := Op.binOp BinOp.leq 3 (Operand.tmp 108) (Operand.tmp 110) 3, type := 4, pos := "law.go:47", after := #[{ on := 6, ground := Ground.data }, { on := 8, ground := Ground.data }, { on := 5, ground := Ground.guard }], guard := some (5, false) } : Oper)) (v := undef) rfl (by kernel_rfl) (by kernel_rfl) (by kernel_rfl) (fun _ _ _ h => h) (Or.inr ⟨by rfl, rfl⟩) (by assumption) ?_
    try simp only [Act.put, List.setIfInBounds_toArray, List.set_cons_zero, List.set_cons_succ]
    refine wpAnyH_take (i := 10) (oi := ({ dst := some 112, op := Op.move (Operand.tmp 111), type := 4, pos := "law.go:47", after := #[{ on := 9, ground := Ground.data }, { on := 5, ground := Ground.chain }, { on := 5, ground := Ground.guard }], guard := some (5, false) } : Oper)) (v := undef) rfl (by kernel_rfl) (by kernel_rfl) (by kernel_rfl) (fun _ _ _ h => h) (Or.inr ⟨by rfl, rfl⟩) (by assumption) ?_
    try simp only [Act.put, List.setIfInBounds_toArray, List.set_cons_zero, List.set_cons_succ]
    refine wpAnyH_take (i := 11) (oi := ({ dst := some 113, op := Op.move (Operand.tmp 20), type := 55, pos := "law.go:47", after := #[{ on := 10, ground := Ground.guard }], guard := some (10, true) } : Oper)) (v := undef) rfl (by kernel_rfl) (by kernel_rfl) (by kernel_rfl) (fun _ _ _ h => h) (Or.inr ⟨by rfl, rfl⟩) (by assumption) ?_
    try simp only [Act.put, List.setIfInBounds_toArray, List.set_cons_zero, List.set_cons_succ]
    refine wpAnyH_take (i := 12) (oi := ({ dst := some 114, op := Op.call { callee := Callee.value (Operand.func 29), args := #[Operand.tmp 113], argTypes := #[55] }, type := 57, pos := "law.go:47", after := #[{ on := 11, ground := Ground.data }, { on := 10, ground := Ground.chain }, { on := 10, ground := Ground.guard }], guard := some (10, true) } : Oper)) (v := undef) rfl (by kernel_rfl) (by kernel_rfl) (by kernel_rfl) (fun _ _ _ h => h) (Or.inr ⟨by rfl, rfl⟩) (by assumption) ?_
    try simp only [Act.put, List.setIfInBounds_toArray, List.set_cons_zero, List.set_cons_succ]
    refine wpAnyH_take (i := 13) (oi := ({ dst := some 115, op := Op.convert 57 9 (Operand.tmp 114), type := 9, pos := "law.go:47", after := #[{ on := 12, ground := Ground.data }, { on := 10, ground := Ground.guard }], guard := some (10, true) } : Oper)) (v := undef) rfl (by kernel_rfl) (by kernel_rfl) (by kernel_rfl) (fun _ _ _ h => h) (Or.inr ⟨by rfl, rfl⟩) (by assumption) ?_
    try simp only [Act.put, List.setIfInBounds_toArray, List.set_cons_zero, List.set_cons_succ]
    refine wpAnyH_take (i := 14) (oi := ({ dst := some 116, op := Op.move (Operand.tmp 2), type := 57, pos := "law.go:47", after := #[{ on := 10, ground := Ground.guard }], guard := some (10, true) } : Oper)) (v := undef) rfl (by kernel_rfl) (by kernel_rfl) (by kernel_rfl) (fun _ _ _ h => h) (Or.inr ⟨by rfl, rfl⟩) (by assumption) ?_
    try simp only [Act.put, List.setIfInBounds_toArray, List.set_cons_zero, List.set_cons_succ]
    refine wpAnyH_take (i := 15) (oi := ({ dst := some 117, op := Op.move (Operand.tmp 21), type := 3, pos := "law.go:47", after := #[{ on := 10, ground := Ground.guard }], guard := some (10, true) } : Oper)) (v := undef) rfl (by kernel_rfl) (by kernel_rfl) (by kernel_rfl) (fun _ _ _ h => h) (Or.inr ⟨by rfl, rfl⟩) (by assumption) ?_
    try simp only [Act.put, List.setIfInBounds_toArray, List.set_cons_zero, List.set_cons_succ]
    refine wpAnyH_take (i := 16) (oi := ({ dst := some 118, op := Op.slice 57 (Operand.tmp 116) none (some (Operand.tmp 117)) none, type := 57, pos := "law.go:47", after := #[{ on := 14, ground := Ground.data }, { on := 15, ground := Ground.data }, { on := 10, ground := Ground.guard }], guard := some (10, true) } : Oper)) (v := undef) rfl (by kernel_rfl) (by kernel_rfl) (by kernel_rfl) (fun _ _ _ h => h) (Or.inr ⟨by rfl, rfl⟩) (by assumption) ?_
    try simp only [Act.put, List.setIfInBounds_toArray, List.set_cons_zero, List.set_cons_succ]
    refine wpAnyH_take (i := 17) (oi := ({ dst := some 119, op := Op.convert 57 9 (Operand.tmp 118), type := 9, pos := "law.go:47", after := #[{ on := 16, ground := Ground.data }, { on := 10, ground := Ground.guard }], guard := some (10, true) } : Oper)) (v := undef) rfl (by kernel_rfl) (by kernel_rfl) (by kernel_rfl) (fun _ _ _ h => h) (Or.inr ⟨by rfl, rfl⟩) (by assumption) ?_
    try simp only [Act.put, List.setIfInBounds_toArray, List.set_cons_zero, List.set_cons_succ]
    refine wpAnyH_take (i := 18) (oi := ({ dst := some 120, op := Op.binOp BinOp.eql 9 (Operand.tmp 115) (Operand.tmp 119) 9, type := 4, pos := "law.go:47", after := #[{ on := 13, ground := Ground.data }, { on := 17, ground := Ground.data }, { on := 10, ground := Ground.guard }], guard := some (10, true) } : Oper)) (v := undef) rfl (by kernel_rfl) (by kernel_rfl) (by kernel_rfl) (fun _ _ _ h => h) (Or.inr ⟨by rfl, rfl⟩) (by assumption) ?_
    try simp only [Act.put, List.setIfInBounds_toArray, List.set_cons_zero, List.set_cons_succ]
    refine wpAnyH_take (i := 19) (oi := ({ dst := some 121, op := Op.pick (Operand.tmp 112) (Operand.tmp 120) (Operand.const (Value.bool false)), type := 4, pos := "law.go:47", after := #[{ on := 10, ground := Ground.data }, { on := 18, ground := Ground.data }, { on := 5, ground := Ground.guard }], guard := some (5, false) } : Oper)) (v := undef) rfl (by kernel_rfl) (by kernel_rfl) (by kernel_rfl) (fun _ _ _ h => h) (Or.inr ⟨by rfl, rfl⟩) (by assumption) ?_
    try simp only [Act.put, List.setIfInBounds_toArray, List.set_cons_zero, List.set_cons_succ]
    refine wpAnyH_take (i := 20) (oi := ({ dst := some 122, op := Op.pick (Operand.tmp 107) (Operand.const (Value.bool true)) (Operand.tmp 121), type := 4, pos := "law.go:47", after := #[{ on := 5, ground := Ground.data }, { on := 19, ground := Ground.data }, { on := 2, ground := Ground.guard }], guard := some (2, true) } : Oper)) (v := ?_) rfl (by kernel_rfl) (by kernel_rfl) (by kernel_rfl) (fun _ _ _ h => h) (Or.inl ⟨by rfl, ?_⟩) (by assumption) ?_
    rotate_left
    · intro wS hSw
      first
        | (go_simp; done)
        | (go_simp; with_reducible rfl)
    try simp only [Act.put, List.setIfInBounds_toArray, List.set_cons_zero, List.set_cons_succ]
    refine wpAnyH_take (i := 21) (oi := ({ dst := some 123, op := Op.pick (Operand.tmp 104) (Operand.tmp 122) (Operand.const (Value.bool false)), type := 4, pos := "law.go:47", after := #[{ on := 2, ground := Ground.data }, { on := 20, ground := Ground.data }], guard := none } : Oper)) (v := ?_) rfl (by kernel_rfl) (by kernel_rfl) (by kernel_rfl) (fun _ _ _ h => h) (Or.inl ⟨by rfl, ?_⟩) (by assumption) ?_
    rotate_left
    · intro wS hSw
      first
        | (go_simp; done)
        | (go_simp; with_reducible rfl)
    try simp only [Act.put, List.setIfInBounds_toArray, List.set_cons_zero, List.set_cons_succ]
    refine wpAnyH_take (i := 22) (oi := ({ dst := some 124, op := Op.move (Operand.tmp 123), type := 4, pos := "law.go:47", after := #[{ on := 21, ground := Ground.data }, { on := 12, ground := Ground.chain }], guard := none } : Oper)) (v := ?_) rfl (by kernel_rfl) (by kernel_rfl) (by kernel_rfl) (fun _ _ _ h => h) (Or.inl ⟨by rfl, ?_⟩) (by assumption) ?_
    rotate_left
    · intro wS hSw
      first
        | (go_simp; done)
        | (go_simp; with_reducible rfl)
    try simp only [Act.put, List.setIfInBounds_toArray, List.set_cons_zero, List.set_cons_succ]
    refine wpAnyH_ready (rs := [23]) (by kernel_rfl) (by simp) ?_
    refine AllReadyH.cons (o := ({ dst := some 125, op := Op.call { callee := Callee.value (Operand.func 34), args := #[], argTypes := #[] }, type := 4, pos := "law.go:47", after := #[{ on := 22, ground := Ground.chain }, { on := 22, ground := Ground.guard }], guard := some (22, true) } : Oper)) rfl (fun K hK => ?_) (AllReadyH.nil)
    go_simp
    go_at_call 34
    refine (known06 _).mono ?_
    rintro e w' ⟨rfl, hb⟩
    replace H0 := Lib.hid ((below_drew H0.out).trans (hb.mono H0.out.size))
    clear hb
    dsimp only
    refine hK.out _ _ ?_ (fun hHeld => ?_)
    · exact trivial
    clear hK K
    try simp only [Act.put, List.setIfInBounds_toArray, List.set_cons_zero, List.set_cons_succ]
    refine wpAnyH_take (i := 24) (oi := ({ dst := some 126, op := Op.pick (Operand.tmp 124) (Operand.tmp 125) (Operand.const (Value.bool false)), type := 4, pos := "law.go:47", after := #[{ on := 22, ground := Ground.data }, { on := 23, ground := Ground.data }], guard := none } : Oper)) (v := ?_) rfl (by kernel_rfl) (by kernel_rfl) (by kernel_rfl) (fun _ _ _ h => h) (Or.inl ⟨by rfl, ?_⟩) (by assumption) ?_
    rotate_left
    · intro wS hSw
      first
        | (go_simp; done)
        | (go_simp; with_reducible rfl)
    try simp only [Act.put, List.setIfInBounds_toArray, List.set_cons_zero, List.set_cons_succ]
    refine wpAnyH_take (i := 25) (oi := ({ dst := some 8, op := Op.assign (Operand.tmp 126), type := 4, pos := "law.go:47", after := #[{ on := 24, ground := Ground.data }, { on := 23, ground := Ground.chain }, { on := 0, ground := Ground.phase }, { on := 1, ground := Ground.phase }, { on := 2, ground := Ground.phase }, { on := 3, ground := Ground.phase }, { on := 4, ground := Ground.phase }, { on := 5, ground := Ground.phase }, { on := 6, ground := Ground.phase }, { on := 7, ground := Ground.phase }, { on := 8, ground := Ground.phase }, { on := 9, ground := Ground.phase }, { on := 10, ground := Ground.phase }, { on := 11, ground := Ground.phase }, { on := 12, ground := Ground.phase }, { on := 13, ground := Ground.phase }, { on := 14, ground := Ground.phase }, { on := 15, ground := Ground.phase }, { on := 16, ground := Ground.phase }, { on := 17, ground := Ground.phase }, { on := 18, ground := Ground.phase }, { on := 19, ground := Ground.phase }, { on := 20, ground := Ground.phase }, { on := 21, ground := Ground.phase }, { on := 22, ground := Ground.phase }, { on := 23, ground := Ground.phase }, { on := 24, ground := Ground.phase }], guard := none } : Oper)) (v := ?_) rfl (by kernel_rfl) (by kernel_rfl) (by kernel_rfl) (fun _ _ _ h => h) (Or.inl ⟨by rfl, ?_⟩) (by assumption) ?_
    rotate_left
    · intro wS hSw
      first
        | (go_simp; done)
        | (go_simp; with_reducible rfl)
    try simp only [Act.put, List.setIfInBounds_toArray, List.set_cons_zero, List.set_cons_succ]
    refine wpAnyH_done (by kernel_rfl) ?_ _
    go_wp2
    go_ret
    exact ⟨rfl, H0.out⟩
/-! ### the frame: written by program -/
theorem own : ownKnob Try.prog.godebug = none := by kernel_rfl
theorem laid : laidOutB Try.prog = true := by kernel_rfl
theorem contract {H : Type} {enc : TypeId × Value → H} {W : World} {base : Nat} {args : Array Value} {ds gs : List (DataW H)} {before : List MemPlace}
    (hval0 : ∀ (j : Nat) t v, Try.f8.params[j]? = some t → args[j]? = some v → Value.okWide Try.prog W .any base t v)
    (hW : DataW.Whole enc Try.prog Try.f8.params.toList Rows.lebBackSpec.vars false W args.toList ds gs before) :
    Calls Try.prog 8 args W fun e W' => e = .returned (.bool true) ∧ Below W.heap.size W W' := by
  have hval : ∀ (j : Nat) t v, Try.f8.params[j]? = some t → args[j]? = some v → Value.okWide Try.prog W .any base t v := hval0
  obtain ⟨p, q, hA0, hV, rfl, hfz, hnd⟩ := hW
  have hA : DataW.TrodAll enc Try.prog W 0 (fun _ => true) true Try.f8.params.toList args.toList ds p := hA0
  rw [Try.params8] at hA hval
  obtain ⟨v0, vs0, d0, ds0, p0, q0, hargs, rfl, rfl, h0, r0⟩ := trodAll_cons hA
  obtain ⟨v1, vs1, d1, ds1, p1, q1, rfl, rfl, rfl, h1, r1⟩ := trodAll_cons r0
  obtain ⟨v2, vs2, d2, ds2, p2, q2, rfl, rfl, rfl, h2, r2⟩ := trodAll_cons r1
  obtain ⟨v3, vs3, d3, ds3, p3, q3, rfl, rfl, rfl, h3, r3⟩ := trodAll_cons r2
  obtain ⟨rfl, rfl, rfl⟩ := trodAll_nil r3
  obtain rfl : args = #[v0, v1, v2, v3] := by cases args; simp_all
  clear hA0 hval0
  obtain ⟨a0, rfl, rfl, rfl, w0⟩ := open_int Try.underlying55 (hval 0 55 v0 rfl rfl) h0
  obtain ⟨a1, rfl, rfl, rfl, w1⟩ := open_int Try.underlying2 (hval 1 2 v1 rfl rfl) h1
  obtain ⟨A2, z2, c2, rfl, hc2, hm2, hw2, hr2⟩ := Kit.open_islice Try.underlying57 Try.underlying5 (by kernel_rfl) (hval 2 57 v2 rfl rfl) h2
  obtain ⟨a3, rfl, rfl, rfl, w3⟩ := open_int Try.underlying5 (hval 3 5 v3 rfl rfl) h3
  exact walk (w := W) a0 w0 a1 w1 A2 z2 c2 hc2 hm2 hw2 hr2 a3 w3
theorem fnIs {H : Type} : ∀ ds : List (DataW H), ds.length = Try.f8.params.toList.length → Rows.lebBackSpec.fn H ds = { results := [.lit (.bool true)], args := ds } := by
  intro ds h
  rw [Try.params8] at h
  match ds, h with
  | [d1, d2, d3, d4], _ => rfl
set_option maxRecDepth 100000 in
theorem lifted (os : Os) (started : os.Started) (H : Type) (enc : TypeId × Value → H) :
    ReturnsInHanded {} Try.checked os 8 .any (Rows.lebBackSpec.pre6 enc Try.prog Try.f8 Rows.lebBackRow.domain false) (Rows.lebBackSpec.post enc Try.prog Try.f8 false true false false) := by
  refine returnsInHanded_of_change (C := Try.checked) own started (by kernel_rfl) Try.func8
    (ChangeSpec.witness6 (enc := enc) (C := Try.checked) false ⟨#[], #[.int .u64 0, .int .i64 0, .slice none 0 0, .int .u8 0], []⟩ 8 (by kernel_rfl) (by kernel_rfl) (by kernel_rfl) (by kernel_rfl)) ?_
  intro W base args ds gs before hval hW _ _
  refine (contract hval hW).mono fun e W' ⟨he, hg⟩ => ?_
  subst he
  exact ⟨_, rfl, Kit.law_post (tb := 4) laid (by kernel_rfl) rfl (by kernel_rfl) Try.underlying4 fnIs hW hg⟩
theorem over : Rows.lebBackRow.holds Try.pinned (OpenSpec.ofChange Rows.lebBackSpec) :=
  OpenClaim.holds_of_wide 8 Try.f8 rfl rfl rfl rfl rfl rfl rfl ⟨rfl, rfl, rfl, rfl, rfl⟩ rfl rfl rfl rfl rfl (by kernel_rfl) Try.func8 (by kernel_rfl)
    (of_decide_eq_true (by kernel_rfl)) (by unfold Func.isWrapper; first | (rw [if_pos (by decide +kernel)]; kernel_rfl) | (rw [if_neg (by decide +kernel)]; exact ⟨rfl, rfl⟩))
    (fun os started H enc _ => lifted os started H enc)
/-- the statement. -/
theorem proved : Rows.LebBackSaid :=
  over
end Go.Proofs.Ytikendjjolpnoaa.lawLebBack
