/- Contracts of package octet (layer 8): the reader. -/
import Derived.Test.YtkmcmaickopobacOctet
import Derived.Deep.OwnRows
import Derived.Lib.SliceRun
namespace Go.Proofs.Ytkmcmaickopobac.COctet
open Go Go.ChangeShapes Go.WideShapes Go.ChangeAt Go.RowKit
open LebNum CLeb
set_option linter.unusedVariables false

theorem uclone (A : Option Addr) (zs : List Int) (n c : Nat) (hn : zs.length = n) (hl : n ≤ 1000000) {B : Nat} (w : World) (hB : B ≤ w.heap.size) (hr : Kit.Rd w B A (zs.map (.int .u8))) :
    Calls Try.prog 28 #[.slice A n c] w (Owned w 5 1 n (bytesV zs)) := by
  have HN := Lib.hid hn
  have HR := Lib.hid hr
  have qn : ∀ (w : World) (a : Option Addr) (n c n' c' : Nat), (binOp .eql 25 (.slice a n c) (.slice none n' c')).run Try.prog w = .ok (.bool a.isNone) w := fun w a n c n' c' => Lib.run_eql_slice_nil w _ _ a n c n' c' Try.underlying25
  cases A with
  | none =>
    have hz : zs = [] := by
      cases zs with
      | nil => rfl
      | cons z zs => obtain ⟨b, off, h, _⟩ := hr.plain (by simp); cases h
    subst hz
    have h0 : n = 0 := by simpa using hn.symm
    subst h0
    clear hn hr HN HR
    go_enter Try.func28, Try.ntmps28
    go_wp2
    go_ret
    exact ⟨_, rfl, ⟨by simp [bytesV], .inl ⟨rfl, rfl⟩⟩, Below.refl _ _⟩
  | some ad =>
    clear hn hr
    go_enter Try.func28, Try.ntmps28
    obtain ⟨i0, hi0, hi1, hi2, hi3⟩ := info_parts info_u8
    go_wp2_with (at_builtin; refine Kit.wpList_append_rd _ rfl (.tmp 5) (.tmp 6) _ rfl w.heap.size 5 i0 (.int .u8 0) 1 1 Try.underlying25 hi0 hi1 hi2 hi3 rfl (by decide) (.slice (some ⟨_, 0, none⟩) 0 0) 0 [] rfl (World.ownsRow_lit _ #[] 0 (Nat.le_refl _) (Nat.zero_le _) rfl) _ _ n _ (bytesV zs) rfl (by simp [bytesV, HN.out]) (HR.out.alloc hB _) (Kit.ints_one .u8 zs) (by unfold maxLen; omega) (by omega) (by simp) ?_; intro v1 w1 hown1 hg1 hat1; replace hown1 : w1.ownsRow w.heap.size 5 1 v1 n (bytesV zs) := (by simpa using hown1); have HO := Lib.hid hown1; have HX := Lib.hid (((Below.refl _ w).alloc (Nat.le_refl _) (.cells #[] 5)).grown hg1 (by simp) (fun q hq => by simp [Value.ownBlock] at hq; omega)); clear hown1 hg1 hat1)
    go_ret
    exact ⟨_, rfl, HO.out, HX.out⟩


theorem listed_own {w : World} {zs : List Int} {n k : Nat} {e : Ending} {w' : World} (hn : zs.length = n) (hk : n = k) (h : Owned w 5 1 k (bytesV zs) e w') : Listed w n zs e w' := by
  subst hn; subst hk; exact listed rfl h
theorem small_to (A : Option Addr) (zs : List Int) (n c : Nat) (hn : zs.length = n) (hl : n ≤ 1000) (hz : I8r zs) {B : Nat} (w : World) (hB : B ≤ w.heap.size) (hr : Kit.Rd w B A (zs.map (.int .i8))) :
    Calls Try.prog 10 #[.slice A n c] w (Listed w n (smallZ zs)) := by
  have HR := Lib.hid hr
  have HN := Lib.hid hn
  clear hr hn
  go_enter Try.func10, Try.ntmps10
  go_wp2_with (go_at_call 23; (refine (put8 A zs n c HN.out hl hz _ hB HR.out).mono ?_); rintro e w1 ⟨v1, rfl, ho1, hb1⟩; obtain ⟨A1, c1, rfl, -, -, -⟩ := Kit.own_rd ho1; (have HO := Lib.hid ho1); (have HB := Lib.hid hb1); clear ho1 hb1)
  go_ret
  exact listed_own (by simp [smallZ, HN.out]) rfl ⟨_, rfl, HO.out, HB.out⟩
theorem wide_to (A : Option Addr) (zs : List Int) (n c : Nat) (hn : zs.length = n) (hl : n ≤ 1000) (hz : I32s zs) (D : Nat) (hD : (encZ zs).length = D) {B : Nat} (w : World) (hB : B ≤ w.heap.size) (hr : Kit.Rd w B A (zs.map (.int .i32))) :
    Calls Try.prog 12 #[.slice A n c] w (Listed w D (encZ zs)) := by
  have HR := Lib.hid hr
  have HN := Lib.hid hn
  have HD := Lib.hid hD
  clear hr hn hD
  go_enter Try.func12, Try.ntmps12
  go_wp2_with (go_at_call 25; (refine (putW A zs n c HN.out hl hz _ hB HR.out).mono ?_); rintro e w1 ⟨v1, rfl, ho1, hb1⟩; (rw [HD.out] at ho1); obtain ⟨A1, c1, rfl, -, -, -⟩ := Kit.own_rd ho1; (have HO := Lib.hid ho1); (have HB := Lib.hid hb1); clear ho1 hb1)
  go_ret
  exact listed_own HD.out rfl ⟨_, rfl, HO.out, HB.out⟩
theorem refSmall_to (A : Option Addr) (zs : List Int) (n c : Nat) (hn : zs.length = n) (hl : n ≤ 1000) (hz : I8r zs) {B : Nat} (w : World) (hB : B ≤ w.heap.size) (hr : Kit.Rd w B A (zs.map (.int .i8))) :
    Calls Try.prog 11 #[.slice A n c] w (Listed w n (smallZ zs)) :=
  (refSmall A zs n c hn hl hz w hB hr).mono fun _ _ h => listed_own (by simp [smallZ, hn]) rfl h
theorem refWide_to (A : Option Addr) (zs : List Int) (n c : Nat) (hn : zs.length = n) (hl : n ≤ 1000) (hz : I32s zs) (D : Nat) (hD : (encZ zs).length = D) {B : Nat} (w : World) (hB : B ≤ w.heap.size) (hr : Kit.Rd w B A (zs.map (.int .i32))) :
    Calls Try.prog 13 #[.slice A n c] w (Listed w D (encZ zs)) :=
  (refWide A zs n c hn hl hz w hB hr).mono fun _ _ h => listed_own hD hD.symm h

/-! ### the reader -/
/-- a reader's block: what is left, and no error. -/
def ReaderAt (B : Nat) (A : Option Addr) (n c : Nat) (W : World) : Prop :=
  W.cell? ⟨B, 0, none⟩ = some (.slice A n c) ∧ W.cell? ⟨B, 1, none⟩ = some (.int .i64 0) ∧ W.frozen? ⟨B, 0, none⟩ = false
/-- what a reader's call leaves: its block with what is left, the bytes, all other blocks. -/
def Leaves (B : Nat) (zs : List Int) (n : Nat) (W W' : World) : Prop :=
  ∃ A c, ReaderAt B A n c W' ∧ n ≤ c ∧ Kit.Rd W' B A (bytesV zs) ∧ W.grownBy W' (some B)
theorem read_to (A : Option Addr) (zs : List Int) (n c : Nat) (hn : zs.length = n) (hl : n ≤ 1000000) {B : Nat} (w : World) (hB : B ≤ w.heap.size) (hr : Kit.Rd w B A (zs.map (.int .u8))) :
    Calls Try.prog 15 #[.slice A n c] w fun e w' => ∃ g, w.heap.size ≤ g ∧ g < w'.heap.size ∧ e = .returned (.pointer (some ⟨g, 0, none⟩)) ∧ (∃ A c, ReaderAt g A n c w' ∧ n ≤ c ∧ Kit.Rd w' g A (bytesV zs)) ∧ Below w.heap.size w w' := by
  have HR := Lib.hid hr
  have HN := Lib.hid hn
  clear hr hn
  go_enter Try.func15, Try.ntmps15
  go_wp2_with (go_at_call 28; (refine (uclone A zs n c HN.out hl _ hB HR.out).mono ?_); rintro e w1 ⟨v1, rfl, ho1, hb1⟩; obtain ⟨A1, c1, rfl, hnc, -, hr1⟩ := Kit.own_rd ho1; (have HR1 := Lib.hid hr1); (have HB := Lib.hid hb1); (have HC := Lib.hid hnc); clear ho1 hb1 hr1 hnc)
  go_ret
  refine ⟨w1.heap.size, HB.out.size, by simp, rfl, ⟨A1, c1, ⟨Kit.new_cell _ _ _ _, Kit.new_cell _ _ _ _, World.frozen?_alloc_at _ _ _ _ rfl⟩, HC.out, HR1.out.alloc (Nat.le_refl _) _⟩, HB.out.alloc HB.out.size _⟩
theorem cut_yes (B : Nat) (W : World) {A : Option Addr} {zs : List Int} {n c k : Nat} (hn : zs.length = n) (hk : k ≤ n) (hc : n ≤ c) (hrd : ReaderAt B A n c W) (hr : Kit.Rd W B A (bytesV zs)) :
    Leaves B (zs.drop k) (n - k) W (W.setCell ⟨B, 0, none⟩ (.slice (if c = k then A else A.map (·.add k)) (n - k) (c - k))) := by
  obtain ⟨h1, h2, h3⟩ := hrd
  refine ⟨_, _, ⟨World.cell?_setCell_same _ _ _ h1, ?_, ?_⟩, by omega, ?_, ?_⟩
  · rw [World.cell?_setCell_other _ _ _ _ (by simp)]; exact h2
  · rw [World.frozen?_setCell]; exact h3
  · have e : bytesV (zs.drop k) = (bytesV zs).drop k := by simp [bytesV]
    rw [e]
    exact (hr.cut (by simp [bytesV]; omega)).setCell (Nat.le_refl _) _
  · exact ⟨rfl, rfl, rfl, by simp, fun k _ hk => Below.heap_setCell _ _ _ k (fun e => hk (by rw [e]))⟩
theorem count_to (B : Nat) (W : World) (A : Option Addr) (zs : List Int) (n c : Nat) (hn : zs.length = n) (hc : n ≤ c) (hl : n ≤ 1000000) (hb : Bytes zs) (v : Int) (k : Nat) (hg : GetR zs v k 0) (hv : v ≤ 65535) (hrd : ReaderAt B A n c W) (hr : Kit.Rd W B A (bytesV zs)) :
    Calls Try.prog 29 #[.pointer (some ⟨B, 0, none⟩), .func (.func 30) #[] #[], .int .u64 0, .int .u64 65535] W fun e W' => e = .returned (.int .i64 v) ∧ Leaves B (zs.drop k) (n - k) W W' := by
  obtain ⟨g1, g2, g3, g4, -, -⟩ := getR_bd hb hg
  have hcut := cut_yes B W hn (k := k) (by omega) hc hrd hr
  obtain ⟨h1, h2, h3⟩ := hrd
  subst hn
  have HG := Lib.hid hg
  have HR := Lib.hid hr
  have HC := Lib.hid hcut
  have hkI : (k : Int) ≤ (zs.length : Int) := by omega
  have hkc : k ≤ c := by omega
  have hkc2 : (k : Int) ≤ (c : Int) := by omega
  clear hg hr hcut
  go_enter Try.func29, Try.ntmps29
  go_wp2_with (go_at_call 30; (refine (get_to A zs c hb v k 0 HG.out (by omega) _ HR.out).mono ?_); rintro e w1 ⟨rfl, rfl⟩)
  all_goals
    go_ret
    refine ⟨rfl, ?_⟩
    have hx := HC.out
    first
      | (rw [if_neg (by assumption)] at hx; exact hx)
      | (have h : c = k := by assumption
         subst h
         simpa using hx)
theorem countC_to (B : Nat) (W : World) (A : Option Addr) (zs : List Int) (n c : Nat) (hn : zs.length = n) (hc : n ≤ c) (hl : n ≤ 1000000) (hb : Bytes zs) (v : Int) (k : Nat) (hg : GetR zs v k 0) (hv : v ≤ 65535) (hrd : ReaderAt B A n c W) (hr : Kit.Rd W B A (bytesV zs)) :
    Calls Try.prog 16 #[.pointer (some ⟨B, 0, none⟩), .int .i64 65535] W fun e W' => e = .returned (.int .i64 v) ∧ Leaves B (zs.drop k) (n - k) W W' := by
  have HN := Lib.hid hn
  have HG := Lib.hid hg
  have HRD := Lib.hid hrd
  have HR := Lib.hid hr
  clear hn hg hrd hr
  go_enter Try.func16, Try.ntmps16
  go_wp2_with (go_at_call 29; (refine (count_to B _ A zs n c HN.out hc hl hb v k HG.out hv HRD.out HR.out).mono ?_); rintro e w1 ⟨rfl, hlv⟩; (have HLV := Lib.hid hlv); clear hlv)
  go_ret
  exact ⟨rfl, HLV.out⟩
theorem int_to (B : Nat) (W : World) (A : Option Addr) (zs : List Int) (n c : Nat) (hn : zs.length = n) (hc : n ≤ c) (hl : n ≤ 1000000) (hb : Bytes zs) (f : Int) (k : Nat) (hg : GetR zs f k 0) (v : Int) (hv : unfoldZ f = v) (v1 : -2147483648 ≤ v) (v2 : v ≤ 2147483647) (hrd : ReaderAt B A n c W) (hr : Kit.Rd W B A (bytesV zs)) :
    Calls Try.prog 38 #[.pointer (some ⟨B, 0, none⟩), .func (.func 39) #[] #[], .int .i64 (-2147483648), .int .i64 2147483647] W fun e W' => e = .returned (.int .i64 v) ∧ Leaves B (zs.drop k) (n - k) W W' := by
  obtain ⟨g1, g2, g3, g4, -, -⟩ := getR_bd hb hg
  have hcut := cut_yes B W hn (k := k) (by omega) hc hrd hr
  obtain ⟨h1, h2, h3⟩ := hrd
  subst hn
  have HG := Lib.hid hg
  have HR := Lib.hid hr
  have HC := Lib.hid hcut
  have HGO : Hid (Got f v 0) := Lib.hid (.inr ⟨rfl, hv.symm⟩)
  have hkI : (k : Int) ≤ (zs.length : Int) := by omega
  have hkc : k ≤ c := by omega
  have hkc2 : (k : Int) ≤ (c : Int) := by omega
  have hd1 : decide (v < -2147483648) = false := by simp; omega
  have hd2 : decide (2147483647 < v) = false := by simp; omega
  clear hg hr hcut hv
  go_enter Try.func38, Try.ntmps38
  go_wp2_with (go_at_call 39; (refine (getInt_got A zs c hb f k 0 HG.out v HGO.out (by omega) _ HR.out).mono ?_); rintro e w1 ⟨rfl, rfl⟩)
  all_goals
    go_ret
    refine ⟨rfl, ?_⟩
    have hx := HC.out
    first
      | (rw [if_neg (by assumption)] at hx; exact hx)
      | (have h : c = k := by assumption
         subst h
         simpa using hx)
theorem wideM_to (B : Nat) (W : World) (A : Option Addr) (zs : List Int) (n c : Nat) (hn : zs.length = n) (hc : n ≤ c) (hl : n ≤ 1000000) (hb : Bytes zs) (f : Int) (k : Nat) (hg : GetR zs f k 0) (v : Int) (hv : unfoldZ f = v) (v1 : -2147483648 ≤ v) (v2 : v ≤ 2147483647) (hrd : ReaderAt B A n c W) (hr : Kit.Rd W B A (bytesV zs)) :
    Calls Try.prog 32 #[.pointer (some ⟨B, 0, none⟩)] W fun e W' => e = .returned (.int .i64 v) ∧ Leaves B (zs.drop k) (n - k) W W' := by
  have HI : Hid (Calls Try.prog 37 #[.pointer (some ⟨B, 0, none⟩), .int .i64 (-2147483648), .int .i64 2147483647] W fun e W' => e = .returned (.int .i64 v) ∧ Leaves B (zs.drop k) (n - k) W W') := by
    have HN := Lib.hid hn
    have HG := Lib.hid hg
    have HRD := Lib.hid hrd
    have HR := Lib.hid hr
    have HV := Lib.hid hv
    clear hn hg hrd hr hv
    refine Lib.hid ?_
    go_enter Try.func37, Try.ntmps37
    go_wp2_with (go_at_call 38; (refine (int_to B _ A zs n c HN.out hc hl hb f k HG.out v HV.out v1 v2 HRD.out HR.out).mono ?_); rintro e w1 ⟨rfl, hlv⟩; (have HLV := Lib.hid hlv); clear hlv)
    go_ret
    exact ⟨rfl, HLV.out⟩
  clear hn hg hrd hr hv
  go_enter Try.func32, Try.ntmps32
  go_wp2_with (go_at_call 37; (refine HI.out.mono ?_); rintro e w1 ⟨rfl, hlv⟩; (have HLV := Lib.hid hlv); clear hlv)
  go_ret
  exact ⟨rfl, HLV.out⟩
theorem smallM_to (B : Nat) (W : World) (A : Option Addr) (z : Int) (zs : List Int) (n c : Nat) (hn : (z :: zs).length = n) (hc : n ≤ c) (hl : n ≤ 1000000) (hz : 0 ≤ z ∧ z ≤ 255) (hrd : ReaderAt B A n c W) (hr : Kit.Rd W B A (bytesV (z :: zs))) :
    Calls Try.prog 34 #[.pointer (some ⟨B, 0, none⟩)] W fun e W' => e = .returned (.int .i64 z) ∧ Leaves B zs (n - 1) W W' := by
  have hn1 : 1 ≤ n := by rw [← hn]; simp
  have hcut := cut_yes B W hn (k := 1) hn1 hc hrd hr
  obtain ⟨h1, h2, h3⟩ := hrd
  obtain ⟨b0, off0, rfl, hb0, hc0⟩ := Kit.Rd.ints (zs := z :: zs) hr (j := 0) (by simp)
  have hc1 : W.cell? ⟨b0, off0, none⟩ = some (.int .u8 z) := hc0
  obtain ⟨z1, z2⟩ := hz
  have HC := Lib.hid hcut
  have hkI : (1 : Int) ≤ (n : Int) := by omega
  have hkc : 1 ≤ c := by omega
  have hkc2 : (1 : Int) ≤ (c : Int) := by omega
  have hn0 : (0 : Int) < (n : Int) := by omega
  clear hr hcut hn hc0
  go_enter Try.func34, Try.ntmps34
  go_wp2_with fail
  all_goals
    go_ret
    refine ⟨rfl, ?_⟩
    have hx := HC.out
    first
      | (rw [if_neg (by assumption)] at hx; exact hx)
      | (have h : c = 1 := by assumption
         subst h
         simpa using hx)
theorem left_to (B : Nat) (W : World) (A : Option Addr) (n c : Nat) (hrd : ReaderAt B A n c W) :
    Calls Try.prog 21 #[.pointer (some ⟨B, 0, none⟩)] W fun e W' => e = .returned (.int .i64 n) ∧ W = W' := by
  obtain ⟨h1, h2, h3⟩ := hrd
  go_enter Try.func21, Try.ntmps21
  go_wp2_with fail
  go_ret
  exact ⟨rfl, rfl⟩
theorem end_to (B : Nat) (W : World) (A : Option Addr) (n c : Nat) (r : Int) (hr : (if 0 < n then 24 else 0) = r) (hrd : ReaderAt B A n c W) :
    Calls Try.prog 22 #[.pointer (some ⟨B, 0, none⟩)] W fun e W' => e = .returned (.int .i64 r) ∧ W = W' := by
  obtain ⟨h1, h2, h3⟩ := hrd
  by_cases h0 : 0 < n
  · rw [if_pos h0] at hr; subst hr
    have hnI : (0 : Int) < (n : Int) := by omega
    go_enter Try.func22, Try.ntmps22
    go_wp2_with fail
    go_ret
    exact ⟨rfl, rfl⟩
  · obtain rfl : n = 0 := by omega
    rw [if_neg h0] at hr; subst hr
    clear h0
    go_enter Try.func22, Try.ntmps22
    go_wp2_with fail
    go_ret
    exact ⟨rfl, rfl⟩
end Go.Proofs.Ytkmcmaickopobac.COctet
