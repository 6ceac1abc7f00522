/- TurnViews: any tensor's views, and whence any view comes, or why not, are those of the document, and whatever is viewed goes back; the call returns true and leaves its arguments as they were. No condition. -/
import Derived.Test.YtmjcjdgdpecpjaaTurnKnown
import Derived.Test.YtmjcjdgdpecpjaaTurnViewC
import Derived.Test.YtmjcjdgdpecpjaaOpenTensor
namespace Go.Proofs.Ytmjcjdgdpecpjaa.lawTurnViews
open Go Go.ChangeShapes Go.WideShapes Go.ChangeAt Go.RowKit Go.Deep
open Plain CSat CShape CTensor CPad CTurn FloatNum
set_option linter.unusedVariables false

/-- a tensor's four cells, in a row of tensors. -/
def FourC (g o : Nat) (P Q d : Int) (A : Option Addr) (n c : Nat) (w : World) : Prop := w.cell? ⟨g, o, none⟩ = some (.int .i64 P) ∧ w.cell? ⟨g, o + 1, none⟩ = some (.int .i64 Q) ∧ w.cell? ⟨g, o + 2, none⟩ = some (.int .i64 d) ∧ w.cell? ⟨g, o + 3, none⟩ = some (.slice A n c)
theorem FourC.below {g o : Nat} {P Q d : Int} {A : Option Addr} {n c : Nat} {w w' : World} (h : FourC g o P Q d A n c w) {B : Nat} (hB : g < B) (hb : Below B w w') : FourC g o P Q d A n c w' := by
  obtain ⟨h1, h2, h3, h4⟩ := h
  exact ⟨(hb.cell (p := ⟨g, o, none⟩) hB).trans h1, (hb.cell (p := ⟨g, o + 1, none⟩) hB).trans h2, (hb.cell (p := ⟨g, o + 2, none⟩) hB).trans h3, (hb.cell (p := ⟨g, o + 3, none⟩) hB).trans h4⟩
theorem views_open {G : Nat} {P Q : Nat → Int} {C : Int} {n : Nat} {ys : Nat → List Int} {k : Nat} {v : Value} {w : World} (h : VAt G P Q C n ys k v w) (hk : 0 < k) :
    ∃ (As : Nat → Option Addr) (cs : Nat → Nat) (g cap : Nat), v = .slice (some ⟨g, 0, none⟩) k cap ∧ g < w.heap.size ∧ ∀ i, i < k → FourC g (i * 4) (P i) (Q i) C (As i) n (cs i) w ∧ Kit.Rd w w.heap.size (As i) (I8s (ys i)) ∧ n ≤ cs i := by
  obtain ⟨As, cs, h1, h2⟩ := h
  obtain ⟨g, cap, rfl, -, -, -, hr⟩ := Kit.own_form h1 hk
  have hg := own_block_lt h1 g rfl
  refine ⟨As, cs, g, cap, rfl, hg, fun i hi => ?_⟩
  obtain ⟨v1, v2, v3, v4⟩ := viewV_at P Q C As n cs hi
  have hc : ∀ (j : Nat) (u : Value), (viewV P Q C As n cs k)[j]? = some u → w.cell? ⟨g, j, none⟩ = some u := fun j u hu => by
    obtain ⟨ad, e, _, hc⟩ := hr j u hu
    cases e
    rw [Go.WideShapes.add_plain, Nat.zero_add] at hc
    exact hc
  exact ⟨⟨hc _ _ v1, hc _ _ v2, hc _ _ v3, hc _ _ v4⟩, (h2 i hi).1.rd, (h2 i hi).2⟩
theorem walk_long {w : World} (H W C : Int) (A : Option Addr) (n c : Nat) (hl : 1024 < n) (p : Int) :
    Calls Try.prog 5 #[.agg #[.int .i64 H, .int .i64 W, .int .i64 C, .slice A n c], .int .i64 p] w fun e w' => e = .returned (.bool true) ∧ Below w.heap.size w w' := by
  have hlI : (1024 : Int) < (n : Int) := by omega
  go_enter Try.func5, Try.ntmps5
  go_wp2_with (go_at_call 6; (refine (known23 _).mono ?_); rintro e w1 ⟨rfl, hb1⟩; (have HB := Lib.hid ((((Below.refl w.heap.size w).alloc (Nat.le_refl _) _)).trans (hb1.mono (by simp)))); clear hb1)
  go_ret
  exact ⟨rfl, HB.out⟩
set_option maxRecDepth 100000 in
set_option maxHeartbeats 4000000 in
theorem walk_bad {w : World} (H W C : Int) (A : Option Addr) (n c : Nat) (hl : n ≤ 1024) (p : Int) (ht : tensB H W C n = false) :
    Calls Try.prog 5 #[.agg #[.int .i64 H, .int .i64 W, .int .i64 C, .slice A n c], .int .i64 p] w fun e w' => e = .returned (.bool true) ∧ Below w.heap.size w w' := by
  have hlI : (n : Int) ≤ 1024 := by omega
  have HT := Lib.hid ht
  clear ht
  go_enter Try.func5, Try.ntmps5
  go_wp2_with (first
        | (go_at_call 13
           have hal : Below w.heap.size w (w.alloc (.cells #[.int .i64 H, .int .i64 W, .int .i64 C, .slice A n c] 26)) := (Below.refl _ _).alloc (by first | exact Nat.le_refl _ | (simp; done) | (simp; omega)) _
           refine (cviews_bad H W C A n c HT.out _).mono ?_
           rintro e w1 ⟨rfl, hb⟩
           have hh : Below w.heap.size w w1 := hal.trans (hb.mono hal.size)
           have qTB := (boxT (H) (W) (C) (A) (n) (c) 26) w
           try simp only [World.size_alloc] at qTB
           have TB := Lib.hid (qTB.below (by first | (simp; done) | (simp; omega)) hb)
           have yTB : w.heap.size < w1.heap.size := by have := hb.size; simp at this; omega
           clear qTB
           have HBW : Hid (Below w.heap.size w w1) := Lib.hid hh
           obtain ⟨tbp0, tbp1, tbp2, tbp3⟩ := TB.out
           clear hb hh hal)
        | (go_at_call 14
           have hal : Below w1.heap.size w1 w1 := Below.refl _ _
           refine (cback_bad H W C A n c (.int .i64 p) HT.out _).mono ?_
           rintro e w2 ⟨rfl, hb⟩
           have hh : Below w1.heap.size w1 w2 := hal.trans (hb.mono hal.size)
           replace TB := Lib.hid (TB.out.below yTB hh)
           replace yTB := Nat.lt_of_lt_of_le yTB hh.size
           replace HBW := Lib.hid (HBW.out.trans (hh.mono HBW.out.size))
           clear tbp0 tbp1 tbp2 tbp3
           obtain ⟨tbp0, tbp1, tbp2, tbp3⟩ := TB.out
           clear hb hh hal)
        | (go_at_call 9
           have hal : Below w2.heap.size w2 (w2.alloc (.cells #[.int .i64 0, .int .i64 0, .int .i64 0, .slice none 0 0] 26)) := (Below.refl _ _).alloc (by first | exact Nat.le_refl _ | (simp; done) | (simp; omega)) _
           refine (refRight_to H W C A n c false HT.out _).mono ?_
           rintro e w3 ⟨rfl, hb⟩
           have hh : Below w2.heap.size w2 w3 := hal.trans (hb.mono hal.size)
           have qTU := (boxT (0) (0) (0) (none) (0) (0) 26) w2
           try simp only [World.size_alloc] at qTU
           have TU := Lib.hid (qTU.below (by first | (simp; done) | (simp; omega)) hb)
           have yTU : w2.heap.size < w3.heap.size := by have := hb.size; simp at this; omega
           clear qTU
           replace TB := Lib.hid (TB.out.below yTB hh)
           replace yTB := Nat.lt_of_lt_of_le yTB hh.size
           replace HBW := Lib.hid (HBW.out.trans (hh.mono HBW.out.size))
           clear tbp0 tbp1 tbp2 tbp3
           obtain ⟨tbp0, tbp1, tbp2, tbp3⟩ := TB.out
           obtain ⟨tup0, tup1, tup2, tup3⟩ := TU.out
           clear hb hh hal)
        | (go_at_call 10
           have hal : Below w3.heap.size w3 w3 := Below.refl _ _
           refine (refSame_00 _).mono ?_
           rintro e w4 ⟨rfl, hb⟩
           have hh : Below w3.heap.size w3 w4 := hal.trans (hb.mono hal.size)
           replace TB := Lib.hid (TB.out.below yTB hh)
           replace yTB := Nat.lt_of_lt_of_le yTB hh.size
           replace TU := Lib.hid (TU.out.below yTU hh)
           replace yTU := Nat.lt_of_lt_of_le yTU hh.size
           replace HBW := Lib.hid (HBW.out.trans (hh.mono HBW.out.size))
           clear tbp0 tbp1 tbp2 tbp3 tup0 tup1 tup2 tup3
           obtain ⟨tbp0, tbp1, tbp2, tbp3⟩ := TB.out
           obtain ⟨tup0, tup1, tup2, tup3⟩ := TU.out
           clear hb hh hal)
        | (go_at_call 6
           have hal : Below w4.heap.size w4 w4 := Below.refl _ _
           refine (known23 _).mono ?_
           rintro e w5 ⟨rfl, hb⟩
           have hh : Below w4.heap.size w4 w5 := hal.trans (hb.mono hal.size)
           replace TB := Lib.hid (TB.out.below yTB hh)
           replace yTB := Nat.lt_of_lt_of_le yTB hh.size
           replace TU := Lib.hid (TU.out.below yTU hh)
           replace yTU := Nat.lt_of_lt_of_le yTU hh.size
           replace HBW := Lib.hid (HBW.out.trans (hh.mono HBW.out.size))
           clear tbp0 tbp1 tbp2 tbp3 tup0 tup1 tup2 tup3
           obtain ⟨tbp0, tbp1, tbp2, tbp3⟩ := TB.out
           obtain ⟨tup0, tup1, tup2, tup3⟩ := TU.out
           clear hb hh hal))
  go_ret
  exact ⟨rfl, HBW.out⟩
set_option maxRecDepth 100000 in
set_option maxHeartbeats 16000000 in
theorem walk_y {w : World} {a b d n : Nat} (A : Option Addr) (zs : List Int) (c : Nat) (hn : zs.length = n) (hc : n ≤ c) (hl : n ≤ 1024) (hr : Kit.Rd w w.heap.size A (I8s zs)) (p : Int) (ht : tensB (a : Int) (b : Int) (d : Int) n = true) (hV1 : 0 ≤ p) (hV2 : p < 8) :
    Calls Try.prog 5 #[.agg #[.int .i64 (a : Int), .int .i64 (b : Int), .int .i64 (d : Int), .slice A n c], .int .i64 p] w fun e w' => e = .returned (.bool true) ∧ Below w.heap.size w w' := by
  have hlI : (n : Int) ≤ 1024 := by omega
  have hn6 : n ≤ 1000000 := by omega
  have hft : Fits d n (a, b, zs) := ⟨(tens_nat ht).1, hn⟩
  obtain ⟨os, ho⟩ : ∃ os, overL zs a b d = os := ⟨_, rfl⟩
  have hol : os.length = n := by rw [← ho]; exact (overL_len _ _ _ _).trans (tens_nat ht).1
  have hoo : overL os a b d = zs := by rw [← ho]; exact over_twice (hn.trans (tens_nat ht).1.symm)
  have hsmz := fun (A1 A2 : Option Addr) (c1 c2 : Nat) (wd : World) (h1 : Kit.Rd wd wd.heap.size A1 (I8s zs)) (h2 : Kit.Rd wd wd.heap.size A2 (I8s zs)) => refSame_to a b d A1 A2 zs zs n c1 c2 hn hn hn6 true (by simp) wd (Nat.le_refl _) (Nat.le_refl _) h1 h2
  have HSMZ := Lib.hid hsmz
  have HOT := Lib.hid (fun (wd : World) (h : Kit.Rd wd wd.heap.size A (I8s zs)) => rover_T A zs c hn ht wd (Nat.le_refl _) h)
  have HFT := Lib.hid hft
  have HOL := Lib.hid hol
  have HOO := Lib.hid hoo
  have HT := Lib.hid ht
  have HN := Lib.hid hn
  have HR := Lib.hid hr
  have HO := Lib.hid ho
  obtain ⟨P, hP⟩ : ∃ P : Int, ((itT d (turnsN (-p)) (a, b, zs)).1 : Int) = P := ⟨_, rfl⟩
  obtain ⟨Q, hQ⟩ : ∃ Q : Int, ((itT d (turnsN (-p)) (a, b, zs)).2.1 : Int) = Q := ⟨_, rfl⟩
  have HBP := Lib.hid (fun (wd : World) (h : Kit.Rd wd wd.heap.size A (I8s zs)) => cback_to A zs c hn hc ht p hV1 hV2 P Q _ _ hP hQ rfl rfl wd h)
  clear hP hQ
  clear hft hol hoo hsmz ht hn hr ho
  go_enter Try.func5, Try.ntmps5
  go_upto_region 4 with (first
    | (go_at_call 13
       have hal : Below w.heap.size w (w.alloc (.cells #[.int .i64 (a : Int), .int .i64 (b : Int), .int .i64 (d : Int), .slice A n c] 26)) := (Below.refl _ _).alloc (by first | exact Nat.le_refl _ | (simp; done) | (simp; omega)) _
       refine (cviews_to A zs c HN.out hc HT.out os HO.out _ ((HR.out.below hal).more hal.size)).mono ?_
       rintro e w1 ⟨v1, rfl, hv1, hb⟩
       have hh : Below w.heap.size w w1 := hal.trans (hb.mono hal.size)
       have qTB := (boxT (a) (b) (d) (A) (n) (c) 26) w
       try simp only [World.size_alloc] at qTB
       have TB := Lib.hid (qTB.below (by first | (simp; done) | (simp; omega)) hb)
       have yTB : w.heap.size < w1.heap.size := by have := hb.size; simp at this; omega
       clear qTB
       replace HR := Lib.hid ((HR.out.below hh).more hh.size)
       have HBW : Hid (Below w.heap.size w w1) := Lib.hid hh
       have HV := Lib.hid hv1
       clear hv1
       obtain ⟨tbp0, tbp1, tbp2, tbp3⟩ := TB.out
       clear hb hh hal))
  go_upto_region 5 with (first
    | (go_at_call 14
       have hsz1 := HV.out
       have hal : Below w1.heap.size w1 w1 := Below.refl _ _
       refine (HBP.out _ ((HR.out.below hal).more hal.size)).mono ?_
       rintro e w2 ⟨v2, rfl, ho2, hb⟩
       have hh : Below w1.heap.size w1 w2 := hal.trans (hb.mono hal.size)
       replace TB := Lib.hid (TB.out.below yTB hh)
       replace yTB := Nat.lt_of_lt_of_le yTB hh.size
       replace HR := Lib.hid ((HR.out.below hh).more hh.size)
       replace HBW := Lib.hid (HBW.out.trans (hh.mono HBW.out.size))
       clear tbp0 tbp1 tbp2 tbp3
       obtain ⟨A2, c2, rfl, -, -, -⟩ := Kit.own_rd ho2
       replace HV := Lib.hid (HV.out.below hh)
       clear ho2 hsz1
       obtain ⟨tbp0, tbp1, tbp2, tbp3⟩ := TB.out
       clear hb hh hal))
  obtain ⟨As, cs, g2, cap, rfl, hg2, hviews⟩ := views_open HV.out (by omega)
  have HVW := Lib.hid hviews
  clear hviews HV
  go_wp2_with (first
    | (go_at_call 9
       have hal : Below w2.heap.size w2 (w2.alloc (.cells #[.int .i64 P, .int .i64 Q, .int .i64 (d : Int), .slice A2 n c2] 26)) := (Below.refl _ _).alloc (by first | exact Nat.le_refl _ | (simp; done) | (simp; omega)) _
       refine (refRight_to a b d A n c true HT.out _).mono ?_
       rintro e w3 ⟨rfl, hb⟩
       have hh : Below w2.heap.size w2 w3 := hal.trans (hb.mono hal.size)
       have qTU := (boxT (P) (Q) (d) (A2) (n) (c2) 26) w2
       try simp only [World.size_alloc] at qTU
       have TU := Lib.hid (qTU.below (by first | (simp; done) | (simp; omega)) hb)
       have yTU : w2.heap.size < w3.heap.size := by have := hb.size; simp at this; omega
       clear qTU
       replace TB := Lib.hid (TB.out.below yTB hh)
       replace yTB := Nat.lt_of_lt_of_le yTB hh.size
       replace HR := Lib.hid ((HR.out.below hh).more hh.size)
       replace HBW := Lib.hid (HBW.out.trans (hh.mono HBW.out.size))
       clear tbp0 tbp1 tbp2 tbp3
       have HBV := Lib.hid hh; have HGG := Lib.hid hg2; clear hg2
       obtain ⟨tbp0, tbp1, tbp2, tbp3⟩ := TB.out
       obtain ⟨tup0, tup1, tup2, tup3⟩ := TU.out
       clear hb hh hal))
  clear tbp0 tbp1 tbp2 tbp3 tup0 tup1 tup2 tup3
  have HB3 := HBW
  have yTB3 := Lib.hid yTB
  have yTU3 := Lib.hid yTU
  clear HBW yTB yTU
  obtain ⟨PF, hPF⟩ : ∃ PF : Nat → Int, PF = (fun i => (rA a b (i % 4) : Int)) := ⟨_, rfl⟩
  obtain ⟨QF, hQF⟩ : ∃ QF : Nat → Int, QF = (fun i => (rB a b (i % 4) : Int)) := ⟨_, rfl⟩
  obtain ⟨YS, hYS⟩ : ∃ YS : Nat → List Int, YS = (fun i => (itT d (i % 4) (a, b, if i < 4 then zs else os)).2.2) := ⟨_, rfl⟩
  have hvw : ∀ i, i < 8 → FourC g2 (i * 4) (PF i) (QF i) d (As i) n (cs i) w2 ∧ Kit.Rd w2 w2.heap.size (As i) (I8s (YS i)) ∧ n ≤ cs i := by
    rw [hPF, hQF, hYS]; exact HVW.out
  have HVX := Lib.hid hvw
  clear hvw HVW
  have HPF := Lib.hid hPF
  have HQF := Lib.hid hQF
  have HYS := Lib.hid hYS
  clear hPF hQF hYS
  go_loopw [9] (fun x wr => ∃ i : Nat, i ≤ 8 ∧ x = .int .i64 i ∧ Hid (Below w3.heap.size w3 wr)) (fun x _ => 8 - (intOf x).toNat)
  case atStart => exact ⟨0, by omega, rfl, Lib.hid (Below.refl _ _)⟩
  case round =>
    obtain ⟨i, hi, rfl, HBW⟩ := hrel
    by_cases hlt : i < 8
    · have hi0 : (0 : Int) ≤ (i : Int) := by omega
      have hi1 : (i : Int) < 8 := by omega
      obtain ⟨fci, rai, hci⟩ := HVX.out i hlt
      have hsd : ∃ S, (if i < 4 then zs else os) = S := ⟨_, rfl⟩
      obtain ⟨S, hS⟩ := hsd
      have hSl : S.length = n := by rw [← hS]; split; exact HN.out; exact HOL.out
      have hSf : Fits d n (a, b, S) := ⟨HFT.out.1, hSl⟩
      have hti : turnsN (i : Int) = i % 4 := by unfold turnsN; omega
      have hyi : (itT d (i % 4) (a, b, S)).2.2 = YS i := by rw [HYS.out, ← hS]
      have htri : itT d (i % 4) (a, b, S) = (rA a b (i % 4), rB a b (i % 4), YS i) := by
        obtain ⟨e1, e2⟩ := itT_dimsR d (i % 4) a b S
        exact Prod.ext e1 (Prod.ext e2 hyi)
      have hbk := turns_back hSf (i : Int)
      rw [hti, htri] at hbk
      have hPi : (rA a b (i % 4) : Int) = PF i := by rw [HPF.out]
      have hQi : (rB a b (i % 4) : Int) = QF i := by rw [HQF.out]
      have hYl : (YS i).length = n := by rw [← hyi]; exact (itT_fits hSf).2
      have hck := fun (wd : World) (h : Kit.Rd wd wd.heap.size (As i) (I8s (YS i))) => cback_to (a := rA a b (i % 4)) (b := rB a b (i % 4)) (d := d) (As i) (YS i) (cs i) hYl hci (by have := tens_turn (zs := S) (r := i % 4) HT.out; rw [htri] at this; exact this) (i : Int) hi0 hi1 (a : Int) (b : Int) S zs (by rw [hbk]) (by rw [hbk]) (by rw [hbk])
        (by rw [hbk]
            by_cases h4 : i < 4
            · rw [if_pos (by omega), ← hS, if_pos h4]
            · rw [if_neg (by omega), ← hS, if_neg h4]; exact HOO.out) wd h
      rw [hPi, hQi] at hck
      have HBK := Lib.hid hck
      have HRB := Lib.hid (fun (A9 : Option Addr) (c9 : Nat) (wd : World) (h : Kit.Rd wd wd.heap.size A9 (I8s S)) => rby_to A9 S c9 hSl HT.out (i : Int) (by omega) (by omega) (PF i) (QF i) (YS i) (by rw [hti, htri]; exact hPi) (by rw [hti, htri]; exact hQi) (by rw [hti]; exact hyi) wd h)
      have HSMI := Lib.hid (fun (A1 A2 : Option Addr) (c1 c2 : Nat) (wd : World) (h1 : Kit.Rd wd wd.heap.size A1 (I8s (YS i))) (h2 : Kit.Rd wd wd.heap.size A2 (I8s (YS i))) => refSame_to (PF i) (QF i) d A1 A2 (YS i) (YS i) n c1 c2 hYl hYl hn6 true (by simp) wd (Nat.le_refl _) (Nat.le_refl _) h1 h2)
      have hb0 := HBV.out.trans (HBW.out.mono HBV.out.size)
      have FC := Lib.hid (fci.below HGG.out hb0)
      have RAi := Lib.hid ((rai.below hb0).more hb0.size)
      have yG : g2 < wr.heap.size := Nat.lt_of_lt_of_le HGG.out hb0.size
      have yT : w.heap.size < wr.heap.size := Nat.lt_of_lt_of_le yTB3.out HBW.out.size
      replace TB := Lib.hid (TB.out.below yTB3.out HBW.out)
      replace HR := Lib.hid ((HR.out.below HBW.out).more HBW.out.size)
      have HSS := Lib.hid hS
      clear fci rai hci hS hSl hSf hti hyi htri hbk hPi hQi hYl hck hb0
      obtain ⟨tbp0, tbp1, tbp2, tbp3⟩ := TB.out
      have hal5 : Below wr.heap.size wr (wr.alloc (.cells #[.int .i64 (a : Int), .int .i64 (b : Int), .int .i64 (d : Int), .slice A n c] 26)) := (Below.refl _ _).alloc (Nat.le_refl _) _
      by_cases h4 : i < 4
      · have hi4 : (i : Int) ≤ 3 := by omega
        have hS1 : zs = S := by rw [← HSS.out, if_pos h4]
        go_upto_region 15 with fail
        have TF := Lib.hid (boxT (a : Int) b d A n c 26 wr)
        have yF : wr.heap.size < (wr.alloc (.cells #[.int .i64 (a : Int), .int .i64 (b : Int), .int .i64 (d : Int), .slice A n c] 26)).heap.size := by simp
        have RF := HR
        rw [hS1] at RF
        replace RF := Lib.hid ((RF.out.below hal5).more hal5.size)
        replace FC := Lib.hid (FC.out.below yG hal5)
        replace TB := Lib.hid (TB.out.below yT hal5)
        replace HR := Lib.hid ((HR.out.below hal5).more hal5.size)
        replace RAi := Lib.hid ((RAi.out.below hal5).more hal5.size)
        replace HBW := Lib.hid (HBW.out.trans (hal5.mono HBW.out.size))
        replace yG := Nat.lt_of_lt_of_le yG hal5.size
        replace yT := Nat.lt_of_lt_of_le yT hal5.size
        obtain ⟨fb, hfb⟩ : ∃ fb, wr.heap.size = fb := ⟨_, rfl⟩
        simp only [hfb] at TF yF ⊢
        clear hS1 hal5 hfb tbp0 tbp1 tbp2 tbp3 HSS
        generalize wr.alloc (.cells #[.int .i64 (a : Int), .int .i64 (b : Int), .int .i64 (d : Int), .slice A n c] 26) = W1 at TF RF FC TB HR RAi HBW yG yF yT ⊢
        obtain ⟨l0, l1, l2, l3⟩ := FC.out
        go_upto_region 16 with (go_at_call 14; (refine (HBK.out _ RAi.out).mono ?_); rintro e w6 ⟨v6, rfl, ho6, hb⟩; (obtain ⟨A6, c6, rfl, -, -, hrd6⟩ := Kit.own_rd ho6); (have RA6 := Lib.hid hrd6); (replace FC := Lib.hid (FC.out.below yG hb)); (replace TF := Lib.hid (TF.out.below yF hb)); (replace TB := Lib.hid (TB.out.below yT hb)); (replace HR := Lib.hid ((HR.out.below hb).more hb.size)); (replace RF := Lib.hid ((RF.out.below hb).more hb.size)); (replace RAi := Lib.hid ((RAi.out.below hb).more hb.size)); (replace HBW := Lib.hid (HBW.out.trans (hb.mono HBW.out.size))); (replace yG := Nat.lt_of_lt_of_le yG hb.size); (replace yF := Nat.lt_of_lt_of_le yF hb.size); (replace yT := Nat.lt_of_lt_of_le yT hb.size); clear ho6 hrd6 hb l0 l1 l2 l3)
        have hal6 : Below w6.heap.size w6 (w6.alloc (.cells #[.int .i64 (a : Int), .int .i64 (b : Int), .int .i64 (d : Int), .slice A6 n c6] 26)) := (Below.refl _ _).alloc (Nat.le_refl _) _
        have hd6 : Below (w6.alloc (.cells #[.int .i64 (a : Int), .int .i64 (b : Int), .int .i64 (d : Int), .slice A6 n c6] 26)).heap.size (w6.alloc (.cells #[.int .i64 (a : Int), .int .i64 (b : Int), .int .i64 (d : Int), .slice A6 n c6] 26)) (w6.alloc (.cells #[.int .i64 (a : Int), .int .i64 (b : Int), .int .i64 (d : Int), .slice A6 n c6] 26)).drew := (Below.refl _ _).drew
        have hal7 : Below w6.heap.size w6 (w6.alloc (.cells #[.int .i64 (a : Int), .int .i64 (b : Int), .int .i64 (d : Int), .slice A6 n c6] 26)).drew := hal6.trans (hd6.mono hal6.size)
        have TK := Lib.hid (boxT (a : Int) b d A6 n c6 26 w6)
        have yK : w6.heap.size < (w6.alloc (.cells #[.int .i64 (a : Int), .int .i64 (b : Int), .int .i64 (d : Int), .slice A6 n c6] 26)).drew.heap.size := by show w6.heap.size < (w6.alloc (.cells #[.int .i64 (a : Int), .int .i64 (b : Int), .int .i64 (d : Int), .slice A6 n c6] 26)).heap.size; simp
        have hSt := And.intro (FC.out.below yG hal6) (And.intro (TF.out.below yF hal6) (And.intro TK.out (TB.out.below yT hal6)))
        replace HR := Lib.hid ((HR.out.below hal7).more hal7.size)
        replace RF := Lib.hid ((RF.out.below hal7).more hal7.size)
        replace RAi := Lib.hid ((RAi.out.below hal7).more hal7.size)
        replace RA6 := Lib.hid ((RA6.out.below hal7).more hal7.size)
        replace HBW := Lib.hid (HBW.out.trans (hal7.mono HBW.out.size))
        replace yG := Nat.lt_of_lt_of_le yG hal7.size
        replace yF := Nat.lt_of_lt_of_le yF hal7.size
        replace yT := Nat.lt_of_lt_of_le yT hal7.size
        obtain ⟨kb, hkb⟩ : ∃ kb, w6.heap.size = kb := ⟨_, rfl⟩
        clear hal6 hd6 hal7 TK FC TF TB
        simp only [hkb] at hSt yK ⊢
        clear hkb
        refine wp_region_held_drew (S := (fun w' => FourC g2 (i * 4) (PF i) (QF i) d (As i) n (cs i) w' ∧ BoxAt fb (a : Int) b d A n c w' ∧ BoxAt kb (a : Int) b d A6 n c6 w' ∧ BoxAt w.heap.size (a : Int) b d A n c w')) (by kernel_rfl) hSt (fun hHeld => ?_)
        clear hSt
        generalize (w6.alloc (.cells #[.int .i64 (a : Int), .int .i64 (b : Int), .int .i64 (d : Int), .slice A6 n c6] 26)).drew = W7 at HR RF RAi RA6 HBW yG yF yT yK hHeld ⊢
        refine wpAnyH_take (i := 0) (oi := ({ dst := some 76, op := Op.move (Operand.tmp 5), type := 39, pos := "law.go:63", after := #[], guard := none } : Oper)) (v := ?_) rfl (by kernel_rfl) (by kernel_rfl) (by kernel_rfl) (fun _ _ _ h => h) (Or.inl ⟨by rfl, ?_⟩) (by assumption) ?_
        rotate_left
        · intro wS hSw
          first
            | (go_simp; done)
            | (go_simp; with_reducible rfl)
        try simp only [Act.put, List.setIfInBounds_toArray, List.set_cons_zero, List.set_cons_succ]
        refine wpAnyH_take (i := 1) (oi := ({ dst := some 77, op := Op.move (Operand.tmp 9), type := 3, pos := "law.go:63", after := #[], guard := none } : Oper)) (v := ?_) rfl (by kernel_rfl) (by kernel_rfl) (by kernel_rfl) (fun _ _ _ h => h) (Or.inl ⟨by rfl, ?_⟩) (by assumption) ?_
        rotate_left
        · intro wS hSw
          first
            | (go_simp; done)
            | (go_simp; with_reducible rfl)
        try simp only [Act.put, List.setIfInBounds_toArray, List.set_cons_zero, List.set_cons_succ]
        refine wpAnyH_take (i := 2) (oi := ({ dst := some 78, op := Op.indexAddr 39 (Operand.tmp 76) (Operand.tmp 77), type := 0, pos := "law.go:63", after := #[{ on := 0, ground := Ground.data }, { on := 1, ground := Ground.data }], guard := none } : Oper)) (v := ?_) rfl (by kernel_rfl) (by kernel_rfl) (by kernel_rfl) (fun _ _ _ h => h) (Or.inl ⟨by rfl, ?_⟩) (by assumption) ?_
        rotate_left
        · intro wS hSw
          first
            | (go_simp; done)
            | (go_simp; with_reducible rfl)
        try simp only [Act.put, List.setIfInBounds_toArray, List.set_cons_zero, List.set_cons_succ]
        refine wpAnyH_take (i := 3) (oi := ({ dst := some 79, op := Op.load 26 (Operand.tmp 78), type := 26, pos := "law.go:63", after := #[{ on := 2, ground := Ground.data }], guard := none } : Oper)) (v := ?_) rfl (by kernel_rfl) (by kernel_rfl) (by kernel_rfl) (fun _ _ _ h => h) (Or.inl ⟨by rfl, ?_⟩) (by assumption) ?_
        rotate_left
        · intro wS hSw
          obtain ⟨⟨q0, q1, q2, q3⟩, -, -, -⟩ := hSw
          first
            | (go_simp; done)
            | (go_simp; with_reducible rfl)
        try simp only [Act.put, List.setIfInBounds_toArray, List.set_cons_zero, List.set_cons_succ]
        refine wpAnyH_take (i := 4) (oi := ({ dst := some 80, op := Op.load 26 (Operand.tmp 10), type := 26, pos := "law.go:63", after := #[], guard := none } : Oper)) (v := ?_) rfl (by kernel_rfl) (by kernel_rfl) (by kernel_rfl) (fun _ _ _ h => h) (Or.inl ⟨by rfl, ?_⟩) (by assumption) ?_
        rotate_left
        · intro wS hSw
          obtain ⟨-, ⟨q0, q1, q2, q3⟩, -, -⟩ := hSw
          first
            | (go_simp; done)
            | (go_simp; with_reducible rfl)
        try simp only [Act.put, List.setIfInBounds_toArray, List.set_cons_zero, List.set_cons_succ]
        refine wpAnyH_take (i := 5) (oi := ({ dst := some 81, op := Op.move (Operand.tmp 9), type := 3, pos := "law.go:63", after := #[], guard := none } : Oper)) (v := ?_) rfl (by kernel_rfl) (by kernel_rfl) (by kernel_rfl) (fun _ _ _ h => h) (Or.inl ⟨by rfl, ?_⟩) (by assumption) ?_
        rotate_left
        · intro wS hSw
          first
            | (go_simp; done)
            | (go_simp; with_reducible rfl)
        try simp only [Act.put, List.setIfInBounds_toArray, List.set_cons_zero, List.set_cons_succ]
        refine wpAnyH_ready (rs := [6]) (by kernel_rfl) (by simp) ?_
        refine AllReadyH.cons (o := ({ dst := some 82, op := Op.call { callee := Callee.value (Operand.func 11), args := #[Operand.tmp 80, Operand.tmp 81], argTypes := #[26, 3] }, type := 26, pos := "law.go:63", after := #[{ on := 4, ground := Ground.data }, { on := 5, ground := Ground.data }], guard := none } : Oper)) rfl (fun Kq hK => ?_) (AllReadyH.nil)
        go_simp
        go_at_call 11
        refine (HRB.out A c _ RF.out).mono ?_
        rintro e W8 ⟨A8, c8, rfl, hrd8, hb3⟩
        have RA8 := Lib.hid hrd8
        clear hrd8
        have hS1 := And.intro (hHeld.1.below yG hb3) (And.intro (hHeld.2.1.below yF hb3) (And.intro (hHeld.2.2.1.below yK hb3) (hHeld.2.2.2.below yT hb3)))
        replace HR := Lib.hid ((HR.out.below hb3).more hb3.size)
        replace RAi := Lib.hid ((RAi.out.below hb3).more hb3.size)
        replace RA6 := Lib.hid ((RA6.out.below hb3).more hb3.size)
        replace yG := Nat.lt_of_lt_of_le yG hb3.size
        replace yF := Nat.lt_of_lt_of_le yF hb3.size
        replace yK := Nat.lt_of_lt_of_le yK hb3.size
        replace yT := Nat.lt_of_lt_of_le yT hb3.size
        replace HBW := Lib.hid (HBW.out.trans (hb3.mono HBW.out.size))
        clear hb3 hHeld
        try dsimp only
        refine hK.out _ _ ?_ (fun hHeld => ?_)
        · exact hS1
        clear hK Kq
        try simp only [Act.put, List.setIfInBounds_toArray, List.set_cons_zero, List.set_cons_succ]
        refine wpAnyH_ready (rs := [7]) (by kernel_rfl) (by simp) ?_
        refine AllReadyH.cons (o := ({ dst := some 83, op := Op.call { callee := Callee.value (Operand.func 10), args := #[Operand.tmp 79, Operand.tmp 82], argTypes := #[26, 26] }, type := 4, pos := "law.go:63", after := #[{ on := 3, ground := Ground.data }, { on := 6, ground := Ground.data }, { on := 6, ground := Ground.chain }], guard := none } : Oper)) rfl (fun Kq hK => ?_) (AllReadyH.nil)
        go_simp
        go_at_call 10
        refine (HSMI.out (As i) A8 (cs i) c8 _ RAi.out RA8.out).mono ?_
        rintro e W9 ⟨rfl, hb3⟩
        have hS1 := And.intro (hHeld.1.below yG hb3) (And.intro (hHeld.2.1.below yF hb3) (And.intro (hHeld.2.2.1.below yK hb3) (hHeld.2.2.2.below yT hb3)))
        replace HR := Lib.hid ((HR.out.below hb3).more hb3.size)
        replace RA6 := Lib.hid ((RA6.out.below hb3).more hb3.size)
        replace yG := Nat.lt_of_lt_of_le yG hb3.size
        replace yF := Nat.lt_of_lt_of_le yF hb3.size
        replace yK := Nat.lt_of_lt_of_le yK hb3.size
        replace yT := Nat.lt_of_lt_of_le yT hb3.size
        replace HBW := Lib.hid (HBW.out.trans (hb3.mono HBW.out.size))
        clear hb3 hHeld
        try dsimp only
        refine hK.out _ _ ?_ (fun hHeld => ?_)
        · exact hS1
        clear hK Kq
        try simp only [Act.put, List.setIfInBounds_toArray, List.set_cons_zero, List.set_cons_succ]
        refine wpAnyH_take (i := 8) (oi := ({ dst := some 84, op := Op.unOp UnOp.not 4 (Operand.tmp 83), type := 4, pos := "law.go:63", after := #[{ on := 7, ground := Ground.data }], guard := none } : Oper)) (v := ?_) rfl (by kernel_rfl) (by kernel_rfl) (by kernel_rfl) (fun _ _ _ h => h) (Or.inl ⟨by rfl, ?_⟩) (by assumption) ?_
        rotate_left
        · intro wS hSw
          first
            | (go_simp; done)
            | (go_simp; with_reducible rfl)
        try simp only [Act.put, List.setIfInBounds_toArray, List.set_cons_zero, List.set_cons_succ]
        refine wpAnyH_take (i := 9) (oi := ({ dst := some 85, op := Op.move (Operand.tmp 84), type := 4, pos := "law.go:63", after := #[{ on := 8, ground := Ground.data }, { on := 7, ground := Ground.chain }], guard := none } : Oper)) (v := ?_) rfl (by kernel_rfl) (by kernel_rfl) (by kernel_rfl) (fun _ _ _ h => h) (Or.inl ⟨by rfl, ?_⟩) (by assumption) ?_
        rotate_left
        · intro wS hSw
          first
            | (go_simp; done)
            | (go_simp; with_reducible rfl)
        try simp only [Act.put, List.setIfInBounds_toArray, List.set_cons_zero, List.set_cons_succ]
        refine wpAnyH_take (i := 10) (oi := ({ dst := some 86, op := Op.move (Operand.tmp 12), type := 28, pos := "law.go:63", after := #[{ on := 9, ground := Ground.guard }], guard := some (9, false) } : Oper)) (v := ?_) rfl (by kernel_rfl) (by kernel_rfl) (by kernel_rfl) (fun _ _ _ h => h) (Or.inl ⟨by rfl, ?_⟩) (by assumption) ?_
        rotate_left
        · intro wS hSw
          first
            | (go_simp; done)
            | (go_simp; with_reducible rfl)
        try simp only [Act.put, List.setIfInBounds_toArray, List.set_cons_zero, List.set_cons_succ]
        refine wpAnyH_take (i := 11) (oi := ({ dst := some 87, op := Op.binOp BinOp.neq 28 (Operand.tmp 86) (Operand.const (Value.int IntKind.i64 0)) 28, type := 4, pos := "law.go:63", after := #[{ on := 10, ground := Ground.data }, { on := 9, ground := Ground.guard }], guard := some (9, false) } : Oper)) (v := ?_) rfl (by kernel_rfl) (by kernel_rfl) (by kernel_rfl) (fun _ _ _ h => h) (Or.inl ⟨by rfl, ?_⟩) (by assumption) ?_
        rotate_left
        · intro wS hSw
          first
            | (go_simp; done)
            | (go_simp; with_reducible rfl)
        try simp only [Act.put, List.setIfInBounds_toArray, List.set_cons_zero, List.set_cons_succ]
        refine wpAnyH_take (i := 12) (oi := ({ dst := some 88, op := Op.pick (Operand.tmp 85) (Operand.const (Value.bool true)) (Operand.tmp 87), type := 4, pos := "law.go:63", after := #[{ on := 9, ground := Ground.data }, { on := 11, ground := Ground.data }], guard := none } : Oper)) (v := ?_) rfl (by kernel_rfl) (by kernel_rfl) (by kernel_rfl) (fun _ _ _ h => h) (Or.inl ⟨by rfl, ?_⟩) (by assumption) ?_
        rotate_left
        · intro wS hSw
          first
            | (go_simp; done)
            | (go_simp; with_reducible rfl)
        try simp only [Act.put, List.setIfInBounds_toArray, List.set_cons_zero, List.set_cons_succ]
        refine wpAnyH_take (i := 13) (oi := ({ dst := some 89, op := Op.move (Operand.tmp 88), type := 4, pos := "law.go:63", after := #[{ on := 12, ground := Ground.data }, { on := 9, ground := Ground.chain }], guard := none } : Oper)) (v := ?_) rfl (by kernel_rfl) (by kernel_rfl) (by kernel_rfl) (fun _ _ _ h => h) (Or.inl ⟨by rfl, ?_⟩) (by assumption) ?_
        rotate_left
        · intro wS hSw
          first
            | (go_simp; done)
            | (go_simp; with_reducible rfl)
        try simp only [Act.put, List.setIfInBounds_toArray, List.set_cons_zero, List.set_cons_succ]
        refine wpAnyH_take (i := 14) (oi := ({ dst := some 90, op := Op.load 26 (Operand.tmp 11), type := 26, pos := "law.go:63", after := #[{ on := 13, ground := Ground.guard }], guard := some (13, false) } : Oper)) (v := ?_) rfl (by kernel_rfl) (by kernel_rfl) (by kernel_rfl) (fun _ _ _ h => h) (Or.inl ⟨by rfl, ?_⟩) (by assumption) ?_
        rotate_left
        · intro wS hSw
          obtain ⟨-, -, ⟨q0, q1, q2, q3⟩, -⟩ := hSw
          first
            | (go_simp; done)
            | (go_simp; with_reducible rfl)
        try simp only [Act.put, List.setIfInBounds_toArray, List.set_cons_zero, List.set_cons_succ]
        refine wpAnyH_take (i := 15) (oi := ({ dst := some 91, op := Op.load 26 (Operand.tmp 2), type := 26, pos := "law.go:63", after := #[{ on := 13, ground := Ground.guard }], guard := some (13, false) } : Oper)) (v := ?_) rfl (by kernel_rfl) (by kernel_rfl) (by kernel_rfl) (fun _ _ _ h => h) (Or.inl ⟨by rfl, ?_⟩) (by assumption) ?_
        rotate_left
        · intro wS hSw
          obtain ⟨-, -, -, ⟨q0, q1, q2, q3⟩⟩ := hSw
          first
            | (go_simp; done)
            | (go_simp; with_reducible rfl)
        try simp only [Act.put, List.setIfInBounds_toArray, List.set_cons_zero, List.set_cons_succ]
        refine wpAnyH_ready (rs := [16]) (by kernel_rfl) (by simp) ?_
        refine AllReadyH.cons (o := ({ dst := some 92, op := Op.call { callee := Callee.value (Operand.func 10), args := #[Operand.tmp 90, Operand.tmp 91], argTypes := #[26, 26] }, type := 4, pos := "law.go:63", after := #[{ on := 14, ground := Ground.data }, { on := 15, ground := Ground.data }, { on := 13, ground := Ground.chain }, { on := 13, ground := Ground.guard }], guard := some (13, false) } : Oper)) rfl (fun Kq hK => ?_) (AllReadyH.nil)
        go_simp
        go_at_call 10
        refine (HSMZ.out A6 A c6 c _ RA6.out HR.out).mono ?_
        rintro e W10 ⟨rfl, hb3⟩
        have hS1 := And.intro (hHeld.1.below yG hb3) (And.intro (hHeld.2.1.below yF hb3) (And.intro (hHeld.2.2.1.below yK hb3) (hHeld.2.2.2.below yT hb3)))
        replace yG := Nat.lt_of_lt_of_le yG hb3.size
        replace yF := Nat.lt_of_lt_of_le yF hb3.size
        replace yK := Nat.lt_of_lt_of_le yK hb3.size
        replace yT := Nat.lt_of_lt_of_le yT hb3.size
        replace HBW := Lib.hid (HBW.out.trans (hb3.mono HBW.out.size))
        clear hb3 hHeld
        try dsimp only
        refine hK.out _ _ ?_ (fun hHeld => ?_)
        · exact hS1
        clear hK Kq
        try simp only [Act.put, List.setIfInBounds_toArray, List.set_cons_zero, List.set_cons_succ]
        refine wpAnyH_take (i := 17) (oi := ({ dst := some 93, op := Op.unOp UnOp.not 4 (Operand.tmp 92), type := 4, pos := "law.go:63", after := #[{ on := 16, ground := Ground.data }, { on := 13, ground := Ground.guard }], guard := some (13, false) } : Oper)) (v := ?_) rfl (by kernel_rfl) (by kernel_rfl) (by kernel_rfl) (fun _ _ _ h => h) (Or.inl ⟨by rfl, ?_⟩) (by assumption) ?_
        rotate_left
        · intro wS hSw
          first
            | (go_simp; done)
            | (go_simp; with_reducible rfl)
        try simp only [Act.put, List.setIfInBounds_toArray, List.set_cons_zero, List.set_cons_succ]
        refine wpAnyH_take (i := 18) (oi := ({ dst := some 94, op := Op.pick (Operand.tmp 89) (Operand.const (Value.bool true)) (Operand.tmp 93), type := 4, pos := "law.go:63", after := #[{ on := 13, ground := Ground.data }, { on := 17, ground := Ground.data }], guard := none } : Oper)) (v := ?_) rfl (by kernel_rfl) (by kernel_rfl) (by kernel_rfl) (fun _ _ _ h => h) (Or.inl ⟨by rfl, ?_⟩) (by assumption) ?_
        rotate_left
        · intro wS hSw
          first
            | (go_simp; done)
            | (go_simp; with_reducible rfl)
        try simp only [Act.put, List.setIfInBounds_toArray, List.set_cons_zero, List.set_cons_succ]
        refine wpAnyH_done (by kernel_rfl) ?_ _
        clear hHeld
        go_wp2_with fail
        go_roundw
        case rel => exact ⟨i + 1, by omega, by go_num, HBW⟩
        case measure => simp [intOf]; omega
      · have hi4 : (3 : Int) < (i : Int) := by omega
        have hS1 : os = S := by rw [← HSS.out, if_neg h4]
        have bw := BoxW.new (a : Int) b d A n c 26 wr
        have BW := Lib.hid bw
        have hz5 : wr.heap.size < (wr.alloc (.cells #[.int .i64 (a : Int), .int .i64 (b : Int), .int .i64 (d : Int), .slice A n c] 26)).heap.size := by simp
        clear bw
        have HRf := Lib.hid (HR.out.below hal5)
        have RAf := Lib.hid (RAi.out.below hal5)
        go_upto_region 14 with fail
        replace FC := Lib.hid (FC.out.below yG hal5)
        replace TB := Lib.hid (TB.out.below yT hal5)
        have hfw : w3.heap.size ≤ wr.heap.size := HBW.out.size
        have yGf : g2 < wr.heap.size := yG
        have yTf : w.heap.size < wr.heap.size := yT
        replace HBW := Lib.hid (HBW.out.trans (hal5.mono HBW.out.size))
        obtain ⟨fb, hfb⟩ : ∃ fb, wr.heap.size = fb := ⟨_, rfl⟩
        simp only [hfb] at BW hz5 hfw yGf yTf HRf RAf ⊢
        clear hal5 hfb tbp0 tbp1 tbp2 tbp3 HSS HR RAi yG yT
        generalize wr.alloc (.cells #[.int .i64 (a : Int), .int .i64 (b : Int), .int .i64 (d : Int), .slice A n c] 26) = W1 at BW FC TB HRf RAf HBW hz5 ⊢
        obtain ⟨tbp0, tbp1, tbp2, tbp3⟩ := TB.out
        have HW1 := Lib.hid hz5
        go_upto_region 15 with (go_at_call 12; (refine (HOT.out _ (HRf.out.more (Nat.le_of_lt HW1.out))).mono ?_); rintro e w5 ⟨v5, rfl, ho5, hb⟩; (rw [HO.out, hS1] at ho5); (obtain ⟨Af, cf, rfl, -, -, -⟩ := Kit.own_rd ho5); (have HO5 := Lib.hid ho5); (have hbf : Below fb W1 w5 := hb.mono (Nat.le_of_lt HW1.out)); (replace BW := Lib.hid (BW.out.below HW1.out hb)); (replace FC := Lib.hid (FC.out.below yGf hbf)); (replace TB := Lib.hid (TB.out.below yTf hbf)); (replace HRf := Lib.hid (HRf.out.below hbf)); (replace RAf := Lib.hid (RAf.out.below hbf)); (replace HBW := Lib.hid (HBW.out.trans (hbf.mono hfw))); (have hof := Nat.lt_of_lt_of_le HW1.out hb.size); clear ho5 hb hbf tbp0 tbp1 tbp2 tbp3; (obtain ⟨⟨tbp0, tbp1, tbp2, tbp3⟩, tff⟩ := BW.out); (have tf0 := tff 0); (have tf1 := tff 1); (have tf2 := tff 2); (have tf3 := tff 3); clear tff)
        have hst : Below fb w5 ((((w5.setCell ⟨fb, 0, none⟩ (.int .i64 (a : Int))).setCell ⟨fb, 1, none⟩ (.int .i64 (b : Int))).setCell ⟨fb, 2, none⟩ (.int .i64 (d : Int))).setCell ⟨fb, 3, none⟩ (.slice Af n cf)) := below_set4 (Below.refl _ _) (Nat.le_refl _) _ _ _ _
        have TF := Lib.hid (show BoxAt fb (a : Int) b d Af n cf ((((w5.setCell ⟨fb, 0, none⟩ (.int .i64 (a : Int))).setCell ⟨fb, 1, none⟩ (.int .i64 (b : Int))).setCell ⟨fb, 2, none⟩ (.int .i64 (d : Int))).setCell ⟨fb, 3, none⟩ (.slice Af n cf)) from BW.out.set4.1)
        have hne : (Value.slice Af n cf).ownBlock ≠ some fb := fun he => absurd (Kit.own_block_ge HO5.out fb he) (by have := HW1.out; omega)
        obtain ⟨A'', c'', e2, -, -, hrdf⟩ := Kit.own_rd (own_apart HO5.out hne (.int .i64 (a : Int)) (.int .i64 (b : Int)) (.int .i64 (d : Int)) (.slice Af n cf))
        cases e2
        have RF := Lib.hid hrdf
        have yF : fb < ((((w5.setCell ⟨fb, 0, none⟩ (.int .i64 (a : Int))).setCell ⟨fb, 1, none⟩ (.int .i64 (b : Int))).setCell ⟨fb, 2, none⟩ (.int .i64 (d : Int))).setCell ⟨fb, 3, none⟩ (.slice Af n cf)).heap.size := by simpa using hof
        have yG : g2 < ((((w5.setCell ⟨fb, 0, none⟩ (.int .i64 (a : Int))).setCell ⟨fb, 1, none⟩ (.int .i64 (b : Int))).setCell ⟨fb, 2, none⟩ (.int .i64 (d : Int))).setCell ⟨fb, 3, none⟩ (.slice Af n cf)).heap.size := by omega
        have yT : w.heap.size < ((((w5.setCell ⟨fb, 0, none⟩ (.int .i64 (a : Int))).setCell ⟨fb, 1, none⟩ (.int .i64 (b : Int))).setCell ⟨fb, 2, none⟩ (.int .i64 (d : Int))).setCell ⟨fb, 3, none⟩ (.slice Af n cf)).heap.size := by omega
        replace FC := Lib.hid (FC.out.below yGf hst)
        replace TB := Lib.hid (TB.out.below yTf hst)
        have HR := Lib.hid ((HRf.out.below hst).more (Nat.le_of_lt yF))
        have RAi := Lib.hid ((RAf.out.below hst).more (Nat.le_of_lt yF))
        replace HBW := Lib.hid (HBW.out.trans (hst.mono hfw))
        clear hst hne hrdf HO5 HW1 hof tf0 tf1 tf2 tf3 tbp0 tbp1 tbp2 tbp3 HRf RAf BW hS1 hz5 yGf yTf hfw
        generalize ((((w5.setCell ⟨fb, 0, none⟩ (.int .i64 (a : Int))).setCell ⟨fb, 1, none⟩ (.int .i64 (b : Int))).setCell ⟨fb, 2, none⟩ (.int .i64 (d : Int))).setCell ⟨fb, 3, none⟩ (.slice Af n cf)) = W6 at TF RF yF yG yT FC TB HR RAi HBW ⊢
        obtain ⟨l0, l1, l2, l3⟩ := FC.out
        go_upto_region 16 with (go_at_call 14; (refine (HBK.out _ RAi.out).mono ?_); rintro e w6 ⟨v6, rfl, ho6, hb⟩; (obtain ⟨A6, c6, rfl, -, -, hrd6⟩ := Kit.own_rd ho6); (have RA6 := Lib.hid hrd6); (replace FC := Lib.hid (FC.out.below yG hb)); (replace TF := Lib.hid (TF.out.below yF hb)); (replace TB := Lib.hid (TB.out.below yT hb)); (replace HR := Lib.hid ((HR.out.below hb).more hb.size)); (replace RF := Lib.hid ((RF.out.below hb).more hb.size)); (replace RAi := Lib.hid ((RAi.out.below hb).more hb.size)); (replace HBW := Lib.hid (HBW.out.trans (hb.mono HBW.out.size))); (replace yG := Nat.lt_of_lt_of_le yG hb.size); (replace yF := Nat.lt_of_lt_of_le yF hb.size); (replace yT := Nat.lt_of_lt_of_le yT hb.size); clear ho6 hrd6 hb l0 l1 l2 l3)
        have hal6 : Below w6.heap.size w6 (w6.alloc (.cells #[.int .i64 (a : Int), .int .i64 (b : Int), .int .i64 (d : Int), .slice A6 n c6] 26)) := (Below.refl _ _).alloc (Nat.le_refl _) _
        have hd6 : Below (w6.alloc (.cells #[.int .i64 (a : Int), .int .i64 (b : Int), .int .i64 (d : Int), .slice A6 n c6] 26)).heap.size (w6.alloc (.cells #[.int .i64 (a : Int), .int .i64 (b : Int), .int .i64 (d : Int), .slice A6 n c6] 26)) (w6.alloc (.cells #[.int .i64 (a : Int), .int .i64 (b : Int), .int .i64 (d : Int), .slice A6 n c6] 26)).drew := (Below.refl _ _).drew
        have hal7 : Below w6.heap.size w6 (w6.alloc (.cells #[.int .i64 (a : Int), .int .i64 (b : Int), .int .i64 (d : Int), .slice A6 n c6] 26)).drew := hal6.trans (hd6.mono hal6.size)
        have TK := Lib.hid (boxT (a : Int) b d A6 n c6 26 w6)
        have yK : w6.heap.size < (w6.alloc (.cells #[.int .i64 (a : Int), .int .i64 (b : Int), .int .i64 (d : Int), .slice A6 n c6] 26)).drew.heap.size := by show w6.heap.size < (w6.alloc (.cells #[.int .i64 (a : Int), .int .i64 (b : Int), .int .i64 (d : Int), .slice A6 n c6] 26)).heap.size; simp
        have hSt := And.intro (FC.out.below yG hal6) (And.intro (TF.out.below yF hal6) (And.intro TK.out (TB.out.below yT hal6)))
        replace HR := Lib.hid ((HR.out.below hal7).more hal7.size)
        replace RF := Lib.hid ((RF.out.below hal7).more hal7.size)
        replace RAi := Lib.hid ((RAi.out.below hal7).more hal7.size)
        replace RA6 := Lib.hid ((RA6.out.below hal7).more hal7.size)
        replace HBW := Lib.hid (HBW.out.trans (hal7.mono HBW.out.size))
        replace yG := Nat.lt_of_lt_of_le yG hal7.size
        replace yF := Nat.lt_of_lt_of_le yF hal7.size
        replace yT := Nat.lt_of_lt_of_le yT hal7.size
        obtain ⟨kb, hkb⟩ : ∃ kb, w6.heap.size = kb := ⟨_, rfl⟩
        clear hal6 hd6 hal7 TK FC TF TB
        simp only [hkb] at hSt yK ⊢
        clear hkb
        refine wp_region_held_drew (S := (fun w' => FourC g2 (i * 4) (PF i) (QF i) d (As i) n (cs i) w' ∧ BoxAt fb (a : Int) b d Af n cf w' ∧ BoxAt kb (a : Int) b d A6 n c6 w' ∧ BoxAt w.heap.size (a : Int) b d A n c w')) (by kernel_rfl) hSt (fun hHeld => ?_)
        clear hSt
        generalize (w6.alloc (.cells #[.int .i64 (a : Int), .int .i64 (b : Int), .int .i64 (d : Int), .slice A6 n c6] 26)).drew = W7 at HR RF RAi RA6 HBW yG yF yT yK hHeld ⊢
        refine wpAnyH_take (i := 0) (oi := ({ dst := some 76, op := Op.move (Operand.tmp 5), type := 39, pos := "law.go:63", after := #[], guard := none } : Oper)) (v := ?_) rfl (by kernel_rfl) (by kernel_rfl) (by kernel_rfl) (fun _ _ _ h => h) (Or.inl ⟨by rfl, ?_⟩) (by assumption) ?_
        rotate_left
        · intro wS hSw
          first
            | (go_simp; done)
            | (go_simp; with_reducible rfl)
        try simp only [Act.put, List.setIfInBounds_toArray, List.set_cons_zero, List.set_cons_succ]
        refine wpAnyH_take (i := 1) (oi := ({ dst := some 77, op := Op.move (Operand.tmp 9), type := 3, pos := "law.go:63", after := #[], guard := none } : Oper)) (v := ?_) rfl (by kernel_rfl) (by kernel_rfl) (by kernel_rfl) (fun _ _ _ h => h) (Or.inl ⟨by rfl, ?_⟩) (by assumption) ?_
        rotate_left
        · intro wS hSw
          first
            | (go_simp; done)
            | (go_simp; with_reducible rfl)
        try simp only [Act.put, List.setIfInBounds_toArray, List.set_cons_zero, List.set_cons_succ]
        refine wpAnyH_take (i := 2) (oi := ({ dst := some 78, op := Op.indexAddr 39 (Operand.tmp 76) (Operand.tmp 77), type := 0, pos := "law.go:63", after := #[{ on := 0, ground := Ground.data }, { on := 1, ground := Ground.data }], guard := none } : Oper)) (v := ?_) rfl (by kernel_rfl) (by kernel_rfl) (by kernel_rfl) (fun _ _ _ h => h) (Or.inl ⟨by rfl, ?_⟩) (by assumption) ?_
        rotate_left
        · intro wS hSw
          first
            | (go_simp; done)
            | (go_simp; with_reducible rfl)
        try simp only [Act.put, List.setIfInBounds_toArray, List.set_cons_zero, List.set_cons_succ]
        refine wpAnyH_take (i := 3) (oi := ({ dst := some 79, op := Op.load 26 (Operand.tmp 78), type := 26, pos := "law.go:63", after := #[{ on := 2, ground := Ground.data }], guard := none } : Oper)) (v := ?_) rfl (by kernel_rfl) (by kernel_rfl) (by kernel_rfl) (fun _ _ _ h => h) (Or.inl ⟨by rfl, ?_⟩) (by assumption) ?_
        rotate_left
        · intro wS hSw
          obtain ⟨⟨q0, q1, q2, q3⟩, -, -, -⟩ := hSw
          first
            | (go_simp; done)
            | (go_simp; with_reducible rfl)
        try simp only [Act.put, List.setIfInBounds_toArray, List.set_cons_zero, List.set_cons_succ]
        refine wpAnyH_take (i := 4) (oi := ({ dst := some 80, op := Op.load 26 (Operand.tmp 10), type := 26, pos := "law.go:63", after := #[], guard := none } : Oper)) (v := ?_) rfl (by kernel_rfl) (by kernel_rfl) (by kernel_rfl) (fun _ _ _ h => h) (Or.inl ⟨by rfl, ?_⟩) (by assumption) ?_
        rotate_left
        · intro wS hSw
          obtain ⟨-, ⟨q0, q1, q2, q3⟩, -, -⟩ := hSw
          first
            | (go_simp; done)
            | (go_simp; with_reducible rfl)
        try simp only [Act.put, List.setIfInBounds_toArray, List.set_cons_zero, List.set_cons_succ]
        refine wpAnyH_take (i := 5) (oi := ({ dst := some 81, op := Op.move (Operand.tmp 9), type := 3, pos := "law.go:63", after := #[], guard := none } : Oper)) (v := ?_) rfl (by kernel_rfl) (by kernel_rfl) (by kernel_rfl) (fun _ _ _ h => h) (Or.inl ⟨by rfl, ?_⟩) (by assumption) ?_
        rotate_left
        · intro wS hSw
          first
            | (go_simp; done)
            | (go_simp; with_reducible rfl)
        try simp only [Act.put, List.setIfInBounds_toArray, List.set_cons_zero, List.set_cons_succ]
        refine wpAnyH_ready (rs := [6]) (by kernel_rfl) (by simp) ?_
        refine AllReadyH.cons (o := ({ dst := some 82, op := Op.call { callee := Callee.value (Operand.func 11), args := #[Operand.tmp 80, Operand.tmp 81], argTypes := #[26, 3] }, type := 26, pos := "law.go:63", after := #[{ on := 4, ground := Ground.data }, { on := 5, ground := Ground.data }], guard := none } : Oper)) rfl (fun Kq hK => ?_) (AllReadyH.nil)
        go_simp
        go_at_call 11
        refine (HRB.out Af cf _ RF.out).mono ?_
        rintro e W8 ⟨A8, c8, rfl, hrd8, hb3⟩
        have RA8 := Lib.hid hrd8
        clear hrd8
        have hS1 := And.intro (hHeld.1.below yG hb3) (And.intro (hHeld.2.1.below yF hb3) (And.intro (hHeld.2.2.1.below yK hb3) (hHeld.2.2.2.below yT hb3)))
        replace HR := Lib.hid ((HR.out.below hb3).more hb3.size)
        replace RAi := Lib.hid ((RAi.out.below hb3).more hb3.size)
        replace RA6 := Lib.hid ((RA6.out.below hb3).more hb3.size)
        replace yG := Nat.lt_of_lt_of_le yG hb3.size
        replace yF := Nat.lt_of_lt_of_le yF hb3.size
        replace yK := Nat.lt_of_lt_of_le yK hb3.size
        replace yT := Nat.lt_of_lt_of_le yT hb3.size
        replace HBW := Lib.hid (HBW.out.trans (hb3.mono HBW.out.size))
        clear hb3 hHeld
        try dsimp only
        refine hK.out _ _ ?_ (fun hHeld => ?_)
        · exact hS1
        clear hK Kq
        try simp only [Act.put, List.setIfInBounds_toArray, List.set_cons_zero, List.set_cons_succ]
        refine wpAnyH_ready (rs := [7]) (by kernel_rfl) (by simp) ?_
        refine AllReadyH.cons (o := ({ dst := some 83, op := Op.call { callee := Callee.value (Operand.func 10), args := #[Operand.tmp 79, Operand.tmp 82], argTypes := #[26, 26] }, type := 4, pos := "law.go:63", after := #[{ on := 3, ground := Ground.data }, { on := 6, ground := Ground.data }, { on := 6, ground := Ground.chain }], guard := none } : Oper)) rfl (fun Kq hK => ?_) (AllReadyH.nil)
        go_simp
        go_at_call 10
        refine (HSMI.out (As i) A8 (cs i) c8 _ RAi.out RA8.out).mono ?_
        rintro e W9 ⟨rfl, hb3⟩
        have hS1 := And.intro (hHeld.1.below yG hb3) (And.intro (hHeld.2.1.below yF hb3) (And.intro (hHeld.2.2.1.below yK hb3) (hHeld.2.2.2.below yT hb3)))
        replace HR := Lib.hid ((HR.out.below hb3).more hb3.size)
        replace RA6 := Lib.hid ((RA6.out.below hb3).more hb3.size)
        replace yG := Nat.lt_of_lt_of_le yG hb3.size
        replace yF := Nat.lt_of_lt_of_le yF hb3.size
        replace yK := Nat.lt_of_lt_of_le yK hb3.size
        replace yT := Nat.lt_of_lt_of_le yT hb3.size
        replace HBW := Lib.hid (HBW.out.trans (hb3.mono HBW.out.size))
        clear hb3 hHeld
        try dsimp only
        refine hK.out _ _ ?_ (fun hHeld => ?_)
        · exact hS1
        clear hK Kq
        try simp only [Act.put, List.setIfInBounds_toArray, List.set_cons_zero, List.set_cons_succ]
        refine wpAnyH_take (i := 8) (oi := ({ dst := some 84, op := Op.unOp UnOp.not 4 (Operand.tmp 83), type := 4, pos := "law.go:63", after := #[{ on := 7, ground := Ground.data }], guard := none } : Oper)) (v := ?_) rfl (by kernel_rfl) (by kernel_rfl) (by kernel_rfl) (fun _ _ _ h => h) (Or.inl ⟨by rfl, ?_⟩) (by assumption) ?_
        rotate_left
        · intro wS hSw
          first
            | (go_simp; done)
            | (go_simp; with_reducible rfl)
        try simp only [Act.put, List.setIfInBounds_toArray, List.set_cons_zero, List.set_cons_succ]
        refine wpAnyH_take (i := 9) (oi := ({ dst := some 85, op := Op.move (Operand.tmp 84), type := 4, pos := "law.go:63", after := #[{ on := 8, ground := Ground.data }, { on := 7, ground := Ground.chain }], guard := none } : Oper)) (v := ?_) rfl (by kernel_rfl) (by kernel_rfl) (by kernel_rfl) (fun _ _ _ h => h) (Or.inl ⟨by rfl, ?_⟩) (by assumption) ?_
        rotate_left
        · intro wS hSw
          first
            | (go_simp; done)
            | (go_simp; with_reducible rfl)
        try simp only [Act.put, List.setIfInBounds_toArray, List.set_cons_zero, List.set_cons_succ]
        refine wpAnyH_take (i := 10) (oi := ({ dst := some 86, op := Op.move (Operand.tmp 12), type := 28, pos := "law.go:63", after := #[{ on := 9, ground := Ground.guard }], guard := some (9, false) } : Oper)) (v := ?_) rfl (by kernel_rfl) (by kernel_rfl) (by kernel_rfl) (fun _ _ _ h => h) (Or.inl ⟨by rfl, ?_⟩) (by assumption) ?_
        rotate_left
        · intro wS hSw
          first
            | (go_simp; done)
            | (go_simp; with_reducible rfl)
        try simp only [Act.put, List.setIfInBounds_toArray, List.set_cons_zero, List.set_cons_succ]
        refine wpAnyH_take (i := 11) (oi := ({ dst := some 87, op := Op.binOp BinOp.neq 28 (Operand.tmp 86) (Operand.const (Value.int IntKind.i64 0)) 28, type := 4, pos := "law.go:63", after := #[{ on := 10, ground := Ground.data }, { on := 9, ground := Ground.guard }], guard := some (9, false) } : Oper)) (v := ?_) rfl (by kernel_rfl) (by kernel_rfl) (by kernel_rfl) (fun _ _ _ h => h) (Or.inl ⟨by rfl, ?_⟩) (by assumption) ?_
        rotate_left
        · intro wS hSw
          first
            | (go_simp; done)
            | (go_simp; with_reducible rfl)
        try simp only [Act.put, List.setIfInBounds_toArray, List.set_cons_zero, List.set_cons_succ]
        refine wpAnyH_take (i := 12) (oi := ({ dst := some 88, op := Op.pick (Operand.tmp 85) (Operand.const (Value.bool true)) (Operand.tmp 87), type := 4, pos := "law.go:63", after := #[{ on := 9, ground := Ground.data }, { on := 11, ground := Ground.data }], guard := none } : Oper)) (v := ?_) rfl (by kernel_rfl) (by kernel_rfl) (by kernel_rfl) (fun _ _ _ h => h) (Or.inl ⟨by rfl, ?_⟩) (by assumption) ?_
        rotate_left
        · intro wS hSw
          first
            | (go_simp; done)
            | (go_simp; with_reducible rfl)
        try simp only [Act.put, List.setIfInBounds_toArray, List.set_cons_zero, List.set_cons_succ]
        refine wpAnyH_take (i := 13) (oi := ({ dst := some 89, op := Op.move (Operand.tmp 88), type := 4, pos := "law.go:63", after := #[{ on := 12, ground := Ground.data }, { on := 9, ground := Ground.chain }], guard := none } : Oper)) (v := ?_) rfl (by kernel_rfl) (by kernel_rfl) (by kernel_rfl) (fun _ _ _ h => h) (Or.inl ⟨by rfl, ?_⟩) (by assumption) ?_
        rotate_left
        · intro wS hSw
          first
            | (go_simp; done)
            | (go_simp; with_reducible rfl)
        try simp only [Act.put, List.setIfInBounds_toArray, List.set_cons_zero, List.set_cons_succ]
        refine wpAnyH_take (i := 14) (oi := ({ dst := some 90, op := Op.load 26 (Operand.tmp 11), type := 26, pos := "law.go:63", after := #[{ on := 13, ground := Ground.guard }], guard := some (13, false) } : Oper)) (v := ?_) rfl (by kernel_rfl) (by kernel_rfl) (by kernel_rfl) (fun _ _ _ h => h) (Or.inl ⟨by rfl, ?_⟩) (by assumption) ?_
        rotate_left
        · intro wS hSw
          obtain ⟨-, -, ⟨q0, q1, q2, q3⟩, -⟩ := hSw
          first
            | (go_simp; done)
            | (go_simp; with_reducible rfl)
        try simp only [Act.put, List.setIfInBounds_toArray, List.set_cons_zero, List.set_cons_succ]
        refine wpAnyH_take (i := 15) (oi := ({ dst := some 91, op := Op.load 26 (Operand.tmp 2), type := 26, pos := "law.go:63", after := #[{ on := 13, ground := Ground.guard }], guard := some (13, false) } : Oper)) (v := ?_) rfl (by kernel_rfl) (by kernel_rfl) (by kernel_rfl) (fun _ _ _ h => h) (Or.inl ⟨by rfl, ?_⟩) (by assumption) ?_
        rotate_left
        · intro wS hSw
          obtain ⟨-, -, -, ⟨q0, q1, q2, q3⟩⟩ := hSw
          first
            | (go_simp; done)
            | (go_simp; with_reducible rfl)
        try simp only [Act.put, List.setIfInBounds_toArray, List.set_cons_zero, List.set_cons_succ]
        refine wpAnyH_ready (rs := [16]) (by kernel_rfl) (by simp) ?_
        refine AllReadyH.cons (o := ({ dst := some 92, op := Op.call { callee := Callee.value (Operand.func 10), args := #[Operand.tmp 90, Operand.tmp 91], argTypes := #[26, 26] }, type := 4, pos := "law.go:63", after := #[{ on := 14, ground := Ground.data }, { on := 15, ground := Ground.data }, { on := 13, ground := Ground.chain }, { on := 13, ground := Ground.guard }], guard := some (13, false) } : Oper)) rfl (fun Kq hK => ?_) (AllReadyH.nil)
        go_simp
        go_at_call 10
        refine (HSMZ.out A6 A c6 c _ RA6.out HR.out).mono ?_
        rintro e W10 ⟨rfl, hb3⟩
        have hS1 := And.intro (hHeld.1.below yG hb3) (And.intro (hHeld.2.1.below yF hb3) (And.intro (hHeld.2.2.1.below yK hb3) (hHeld.2.2.2.below yT hb3)))
        replace yG := Nat.lt_of_lt_of_le yG hb3.size
        replace yF := Nat.lt_of_lt_of_le yF hb3.size
        replace yK := Nat.lt_of_lt_of_le yK hb3.size
        replace yT := Nat.lt_of_lt_of_le yT hb3.size
        replace HBW := Lib.hid (HBW.out.trans (hb3.mono HBW.out.size))
        clear hb3 hHeld
        try dsimp only
        refine hK.out _ _ ?_ (fun hHeld => ?_)
        · exact hS1
        clear hK Kq
        try simp only [Act.put, List.setIfInBounds_toArray, List.set_cons_zero, List.set_cons_succ]
        refine wpAnyH_take (i := 17) (oi := ({ dst := some 93, op := Op.unOp UnOp.not 4 (Operand.tmp 92), type := 4, pos := "law.go:63", after := #[{ on := 16, ground := Ground.data }, { on := 13, ground := Ground.guard }], guard := some (13, false) } : Oper)) (v := ?_) rfl (by kernel_rfl) (by kernel_rfl) (by kernel_rfl) (fun _ _ _ h => h) (Or.inl ⟨by rfl, ?_⟩) (by assumption) ?_
        rotate_left
        · intro wS hSw
          first
            | (go_simp; done)
            | (go_simp; with_reducible rfl)
        try simp only [Act.put, List.setIfInBounds_toArray, List.set_cons_zero, List.set_cons_succ]
        refine wpAnyH_take (i := 18) (oi := ({ dst := some 94, op := Op.pick (Operand.tmp 89) (Operand.const (Value.bool true)) (Operand.tmp 93), type := 4, pos := "law.go:63", after := #[{ on := 13, ground := Ground.data }, { on := 17, ground := Ground.data }], guard := none } : Oper)) (v := ?_) rfl (by kernel_rfl) (by kernel_rfl) (by kernel_rfl) (fun _ _ _ h => h) (Or.inl ⟨by rfl, ?_⟩) (by assumption) ?_
        rotate_left
        · intro wS hSw
          first
            | (go_simp; done)
            | (go_simp; with_reducible rfl)
        try simp only [Act.put, List.setIfInBounds_toArray, List.set_cons_zero, List.set_cons_succ]
        refine wpAnyH_done (by kernel_rfl) ?_ _
        clear hHeld
        go_wp2_with fail
        go_roundw
        case rel => exact ⟨i + 1, by omega, by go_num, HBW⟩
        case measure => simp [intOf]; omega
    · obtain rfl : i = 8 := by omega
      replace TB := Lib.hid (TB.out.below yTB3.out HBW.out)
      replace TU := Lib.hid (TU.out.below yTU3.out HBW.out)
      have yU : w2.heap.size < wr.heap.size := Nat.lt_of_lt_of_le yTU3.out HBW.out.size
      have HBE := Lib.hid (HB3.out.trans (HBW.out.mono HB3.out.size))
      obtain ⟨u0, u1, u2, u3⟩ := TU.out
      go_wp2_with (first
        | (go_at_call 10; (refine (refSame_00 _).mono ?_); rintro e w8 ⟨rfl, hb⟩; (replace HBE := Lib.hid (HBE.out.trans (hb.mono HBE.out.size))); clear hb)
        | (go_at_call 6; (refine (known23 _).mono ?_); rintro e w9 ⟨rfl, hb⟩; (replace HBE := Lib.hid (HBE.out.trans (hb.mono HBE.out.size))); clear hb))
      go_ret
      exact ⟨rfl, HBE.out⟩
set_option maxRecDepth 100000 in
set_option maxHeartbeats 16000000 in
theorem walk_lo {w : World} {a b d n : Nat} (A : Option Addr) (zs : List Int) (c : Nat) (hn : zs.length = n) (hc : n ≤ c) (hl : n ≤ 1024) (hr : Kit.Rd w w.heap.size A (I8s zs)) (p : Int) (ht : tensB (a : Int) (b : Int) (d : Int) n = true) (hV1 : p < 0) :
    Calls Try.prog 5 #[.agg #[.int .i64 (a : Int), .int .i64 (b : Int), .int .i64 (d : Int), .slice A n c], .int .i64 p] w fun e w' => e = .returned (.bool true) ∧ Below w.heap.size w w' := by
  have hlI : (n : Int) ≤ 1024 := by omega
  have hn6 : n ≤ 1000000 := by omega
  have hft : Fits d n (a, b, zs) := ⟨(tens_nat ht).1, hn⟩
  obtain ⟨os, ho⟩ : ∃ os, overL zs a b d = os := ⟨_, rfl⟩
  have hol : os.length = n := by rw [← ho]; exact (overL_len _ _ _ _).trans (tens_nat ht).1
  have hoo : overL os a b d = zs := by rw [← ho]; exact over_twice (hn.trans (tens_nat ht).1.symm)
  have hsmz := fun (A1 A2 : Option Addr) (c1 c2 : Nat) (wd : World) (h1 : Kit.Rd wd wd.heap.size A1 (I8s zs)) (h2 : Kit.Rd wd wd.heap.size A2 (I8s zs)) => refSame_to a b d A1 A2 zs zs n c1 c2 hn hn hn6 true (by simp) wd (Nat.le_refl _) (Nat.le_refl _) h1 h2
  have HSMZ := Lib.hid hsmz
  have HOT := Lib.hid (fun (wd : World) (h : Kit.Rd wd wd.heap.size A (I8s zs)) => rover_T A zs c hn ht wd (Nat.le_refl _) h)
  have HFT := Lib.hid hft
  have HOL := Lib.hid hol
  have HOO := Lib.hid hoo
  have HT := Lib.hid ht
  have HN := Lib.hid hn
  have HR := Lib.hid hr
  have HO := Lib.hid ho
  clear hft hol hoo hsmz ht hn hr ho
  go_enter Try.func5, Try.ntmps5
  go_upto_region 4 with (first
    | (go_at_call 13
       have hal : Below w.heap.size w (w.alloc (.cells #[.int .i64 (a : Int), .int .i64 (b : Int), .int .i64 (d : Int), .slice A n c] 26)) := (Below.refl _ _).alloc (by first | exact Nat.le_refl _ | (simp; done) | (simp; omega)) _
       refine (cviews_to A zs c HN.out hc HT.out os HO.out _ ((HR.out.below hal).more hal.size)).mono ?_
       rintro e w1 ⟨v1, rfl, hv1, hb⟩
       have hh : Below w.heap.size w w1 := hal.trans (hb.mono hal.size)
       have qTB := (boxT (a) (b) (d) (A) (n) (c) 26) w
       try simp only [World.size_alloc] at qTB
       have TB := Lib.hid (qTB.below (by first | (simp; done) | (simp; omega)) hb)
       have yTB : w.heap.size < w1.heap.size := by have := hb.size; simp at this; omega
       clear qTB
       replace HR := Lib.hid ((HR.out.below hh).more hh.size)
       have HBW : Hid (Below w.heap.size w w1) := Lib.hid hh
       have HV := Lib.hid hv1
       clear hv1
       obtain ⟨tbp0, tbp1, tbp2, tbp3⟩ := TB.out
       clear hb hh hal))
  go_upto_region 5 with (first
    | (go_at_call 14
       have hal : Below w1.heap.size w1 w1 := Below.refl _ _
       refine (cback_no (a : Int) b d A n c HT.out p (by omega) _).mono ?_
       rintro e w2 ⟨rfl, hb⟩
       have hh : Below w1.heap.size w1 w2 := hal.trans (hb.mono hal.size)
       replace TB := Lib.hid (TB.out.below yTB hh)
       replace yTB := Nat.lt_of_lt_of_le yTB hh.size
       replace HR := Lib.hid ((HR.out.below hh).more hh.size)
       replace HBW := Lib.hid (HBW.out.trans (hh.mono HBW.out.size))
       clear tbp0 tbp1 tbp2 tbp3
       replace HV := Lib.hid (HV.out.below hh)
       obtain ⟨tbp0, tbp1, tbp2, tbp3⟩ := TB.out
       clear hb hh hal))
  obtain ⟨As, cs, g2, cap, rfl, hg2, hviews⟩ := views_open HV.out (by omega)
  have HVW := Lib.hid hviews
  clear hviews HV
  go_wp2_with (first
    | (go_at_call 9
       have hal : Below w2.heap.size w2 (w2.alloc (.cells #[.int .i64 0, .int .i64 0, .int .i64 0, .slice none 0 0] 26)) := (Below.refl _ _).alloc (by first | exact Nat.le_refl _ | (simp; done) | (simp; omega)) _
       refine (refRight_to a b d A n c true HT.out _).mono ?_
       rintro e w3 ⟨rfl, hb⟩
       have hh : Below w2.heap.size w2 w3 := hal.trans (hb.mono hal.size)
       have qTU := (boxT (0) (0) (0) (none) (0) (0) 26) w2
       try simp only [World.size_alloc] at qTU
       have TU := Lib.hid (qTU.below (by first | (simp; done) | (simp; omega)) hb)
       have yTU : w2.heap.size < w3.heap.size := by have := hb.size; simp at this; omega
       clear qTU
       replace TB := Lib.hid (TB.out.below yTB hh)
       replace yTB := Nat.lt_of_lt_of_le yTB hh.size
       replace HR := Lib.hid ((HR.out.below hh).more hh.size)
       replace HBW := Lib.hid (HBW.out.trans (hh.mono HBW.out.size))
       clear tbp0 tbp1 tbp2 tbp3
       have HBV := Lib.hid hh; have HGG := Lib.hid hg2; clear hg2
       obtain ⟨tbp0, tbp1, tbp2, tbp3⟩ := TB.out
       obtain ⟨tup0, tup1, tup2, tup3⟩ := TU.out
       clear hb hh hal))
  clear tbp0 tbp1 tbp2 tbp3 tup0 tup1 tup2 tup3
  have HB3 := HBW
  have yTB3 := Lib.hid yTB
  have yTU3 := Lib.hid yTU
  clear HBW yTB yTU
  obtain ⟨PF, hPF⟩ : ∃ PF : Nat → Int, PF = (fun i => (rA a b (i % 4) : Int)) := ⟨_, rfl⟩
  obtain ⟨QF, hQF⟩ : ∃ QF : Nat → Int, QF = (fun i => (rB a b (i % 4) : Int)) := ⟨_, rfl⟩
  obtain ⟨YS, hYS⟩ : ∃ YS : Nat → List Int, YS = (fun i => (itT d (i % 4) (a, b, if i < 4 then zs else os)).2.2) := ⟨_, rfl⟩
  have hvw : ∀ i, i < 8 → FourC g2 (i * 4) (PF i) (QF i) d (As i) n (cs i) w2 ∧ Kit.Rd w2 w2.heap.size (As i) (I8s (YS i)) ∧ n ≤ cs i := by
    rw [hPF, hQF, hYS]; exact HVW.out
  have HVX := Lib.hid hvw
  clear hvw HVW
  have HPF := Lib.hid hPF
  have HQF := Lib.hid hQF
  have HYS := Lib.hid hYS
  clear hPF hQF hYS
  go_loopw [9] (fun x wr => ∃ i : Nat, i ≤ 8 ∧ x = .int .i64 i ∧ Hid (Below w3.heap.size w3 wr)) (fun x _ => 8 - (intOf x).toNat)
  case atStart => exact ⟨0, by omega, rfl, Lib.hid (Below.refl _ _)⟩
  case round =>
    obtain ⟨i, hi, rfl, HBW⟩ := hrel
    by_cases hlt : i < 8
    · have hi0 : (0 : Int) ≤ (i : Int) := by omega
      have hi1 : (i : Int) < 8 := by omega
      obtain ⟨fci, rai, hci⟩ := HVX.out i hlt
      have hsd : ∃ S, (if i < 4 then zs else os) = S := ⟨_, rfl⟩
      obtain ⟨S, hS⟩ := hsd
      have hSl : S.length = n := by rw [← hS]; split; exact HN.out; exact HOL.out
      have hSf : Fits d n (a, b, S) := ⟨HFT.out.1, hSl⟩
      have hti : turnsN (i : Int) = i % 4 := by unfold turnsN; omega
      have hyi : (itT d (i % 4) (a, b, S)).2.2 = YS i := by rw [HYS.out, ← hS]
      have htri : itT d (i % 4) (a, b, S) = (rA a b (i % 4), rB a b (i % 4), YS i) := by
        obtain ⟨e1, e2⟩ := itT_dimsR d (i % 4) a b S
        exact Prod.ext e1 (Prod.ext e2 hyi)
      have hbk := turns_back hSf (i : Int)
      rw [hti, htri] at hbk
      have hPi : (rA a b (i % 4) : Int) = PF i := by rw [HPF.out]
      have hQi : (rB a b (i % 4) : Int) = QF i := by rw [HQF.out]
      have hYl : (YS i).length = n := by rw [← hyi]; exact (itT_fits hSf).2
      have hck := fun (wd : World) (h : Kit.Rd wd wd.heap.size (As i) (I8s (YS i))) => cback_to (a := rA a b (i % 4)) (b := rB a b (i % 4)) (d := d) (As i) (YS i) (cs i) hYl hci (by have := tens_turn (zs := S) (r := i % 4) HT.out; rw [htri] at this; exact this) (i : Int) hi0 hi1 (a : Int) (b : Int) S zs (by rw [hbk]) (by rw [hbk]) (by rw [hbk])
        (by rw [hbk]
            by_cases h4 : i < 4
            · rw [if_pos (by omega), ← hS, if_pos h4]
            · rw [if_neg (by omega), ← hS, if_neg h4]; exact HOO.out) wd h
      rw [hPi, hQi] at hck
      have HBK := Lib.hid hck
      have HRB := Lib.hid (fun (A9 : Option Addr) (c9 : Nat) (wd : World) (h : Kit.Rd wd wd.heap.size A9 (I8s S)) => rby_to A9 S c9 hSl HT.out (i : Int) (by omega) (by omega) (PF i) (QF i) (YS i) (by rw [hti, htri]; exact hPi) (by rw [hti, htri]; exact hQi) (by rw [hti]; exact hyi) wd h)
      have HSMI := Lib.hid (fun (A1 A2 : Option Addr) (c1 c2 : Nat) (wd : World) (h1 : Kit.Rd wd wd.heap.size A1 (I8s (YS i))) (h2 : Kit.Rd wd wd.heap.size A2 (I8s (YS i))) => refSame_to (PF i) (QF i) d A1 A2 (YS i) (YS i) n c1 c2 hYl hYl hn6 true (by simp) wd (Nat.le_refl _) (Nat.le_refl _) h1 h2)
      have hb0 := HBV.out.trans (HBW.out.mono HBV.out.size)
      have FC := Lib.hid (fci.below HGG.out hb0)
      have RAi := Lib.hid ((rai.below hb0).more hb0.size)
      have yG : g2 < wr.heap.size := Nat.lt_of_lt_of_le HGG.out hb0.size
      have yT : w.heap.size < wr.heap.size := Nat.lt_of_lt_of_le yTB3.out HBW.out.size
      replace TB := Lib.hid (TB.out.below yTB3.out HBW.out)
      replace HR := Lib.hid ((HR.out.below HBW.out).more HBW.out.size)
      have HSS := Lib.hid hS
      clear fci rai hci hS hSl hSf hti hyi htri hbk hPi hQi hYl hck hb0
      obtain ⟨tbp0, tbp1, tbp2, tbp3⟩ := TB.out
      have hal5 : Below wr.heap.size wr (wr.alloc (.cells #[.int .i64 (a : Int), .int .i64 (b : Int), .int .i64 (d : Int), .slice A n c] 26)) := (Below.refl _ _).alloc (Nat.le_refl _) _
      by_cases h4 : i < 4
      · have hi4 : (i : Int) ≤ 3 := by omega
        have hS1 : zs = S := by rw [← HSS.out, if_pos h4]
        go_upto_region 15 with fail
        have TF := Lib.hid (boxT (a : Int) b d A n c 26 wr)
        have yF : wr.heap.size < (wr.alloc (.cells #[.int .i64 (a : Int), .int .i64 (b : Int), .int .i64 (d : Int), .slice A n c] 26)).heap.size := by simp
        have RF := HR
        rw [hS1] at RF
        replace RF := Lib.hid ((RF.out.below hal5).more hal5.size)
        replace FC := Lib.hid (FC.out.below yG hal5)
        replace TB := Lib.hid (TB.out.below yT hal5)
        replace HR := Lib.hid ((HR.out.below hal5).more hal5.size)
        replace RAi := Lib.hid ((RAi.out.below hal5).more hal5.size)
        replace HBW := Lib.hid (HBW.out.trans (hal5.mono HBW.out.size))
        replace yG := Nat.lt_of_lt_of_le yG hal5.size
        replace yT := Nat.lt_of_lt_of_le yT hal5.size
        obtain ⟨fb, hfb⟩ : ∃ fb, wr.heap.size = fb := ⟨_, rfl⟩
        simp only [hfb] at TF yF ⊢
        clear hS1 hal5 hfb tbp0 tbp1 tbp2 tbp3 HSS
        generalize wr.alloc (.cells #[.int .i64 (a : Int), .int .i64 (b : Int), .int .i64 (d : Int), .slice A n c] 26) = W1 at TF RF FC TB HR RAi HBW yG yF yT ⊢
        obtain ⟨l0, l1, l2, l3⟩ := FC.out
        go_upto_region 16 with (go_at_call 14; (refine (HBK.out _ RAi.out).mono ?_); rintro e w6 ⟨v6, rfl, ho6, hb⟩; (obtain ⟨A6, c6, rfl, -, -, hrd6⟩ := Kit.own_rd ho6); (have RA6 := Lib.hid hrd6); (replace FC := Lib.hid (FC.out.below yG hb)); (replace TF := Lib.hid (TF.out.below yF hb)); (replace TB := Lib.hid (TB.out.below yT hb)); (replace HR := Lib.hid ((HR.out.below hb).more hb.size)); (replace RF := Lib.hid ((RF.out.below hb).more hb.size)); (replace RAi := Lib.hid ((RAi.out.below hb).more hb.size)); (replace HBW := Lib.hid (HBW.out.trans (hb.mono HBW.out.size))); (replace yG := Nat.lt_of_lt_of_le yG hb.size); (replace yF := Nat.lt_of_lt_of_le yF hb.size); (replace yT := Nat.lt_of_lt_of_le yT hb.size); clear ho6 hrd6 hb l0 l1 l2 l3)
        have hal6 : Below w6.heap.size w6 (w6.alloc (.cells #[.int .i64 (a : Int), .int .i64 (b : Int), .int .i64 (d : Int), .slice A6 n c6] 26)) := (Below.refl _ _).alloc (Nat.le_refl _) _
        have hd6 : Below (w6.alloc (.cells #[.int .i64 (a : Int), .int .i64 (b : Int), .int .i64 (d : Int), .slice A6 n c6] 26)).heap.size (w6.alloc (.cells #[.int .i64 (a : Int), .int .i64 (b : Int), .int .i64 (d : Int), .slice A6 n c6] 26)) (w6.alloc (.cells #[.int .i64 (a : Int), .int .i64 (b : Int), .int .i64 (d : Int), .slice A6 n c6] 26)).drew := (Below.refl _ _).drew
        have hal7 : Below w6.heap.size w6 (w6.alloc (.cells #[.int .i64 (a : Int), .int .i64 (b : Int), .int .i64 (d : Int), .slice A6 n c6] 26)).drew := hal6.trans (hd6.mono hal6.size)
        have TK := Lib.hid (boxT (a : Int) b d A6 n c6 26 w6)
        have yK : w6.heap.size < (w6.alloc (.cells #[.int .i64 (a : Int), .int .i64 (b : Int), .int .i64 (d : Int), .slice A6 n c6] 26)).drew.heap.size := by show w6.heap.size < (w6.alloc (.cells #[.int .i64 (a : Int), .int .i64 (b : Int), .int .i64 (d : Int), .slice A6 n c6] 26)).heap.size; simp
        have hSt := And.intro (FC.out.below yG hal6) (And.intro (TF.out.below yF hal6) (And.intro TK.out (TB.out.below yT hal6)))
        replace HR := Lib.hid ((HR.out.below hal7).more hal7.size)
        replace RF := Lib.hid ((RF.out.below hal7).more hal7.size)
        replace RAi := Lib.hid ((RAi.out.below hal7).more hal7.size)
        replace RA6 := Lib.hid ((RA6.out.below hal7).more hal7.size)
        replace HBW := Lib.hid (HBW.out.trans (hal7.mono HBW.out.size))
        replace yG := Nat.lt_of_lt_of_le yG hal7.size
        replace yF := Nat.lt_of_lt_of_le yF hal7.size
        replace yT := Nat.lt_of_lt_of_le yT hal7.size
        obtain ⟨kb, hkb⟩ : ∃ kb, w6.heap.size = kb := ⟨_, rfl⟩
        clear hal6 hd6 hal7 TK FC TF TB
        simp only [hkb] at hSt yK ⊢
        clear hkb
        refine wp_region_held_drew (S := (fun w' => FourC g2 (i * 4) (PF i) (QF i) d (As i) n (cs i) w' ∧ BoxAt fb (a : Int) b d A n c w' ∧ BoxAt kb (a : Int) b d A6 n c6 w' ∧ BoxAt w.heap.size (a : Int) b d A n c w')) (by kernel_rfl) hSt (fun hHeld => ?_)
        clear hSt
        generalize (w6.alloc (.cells #[.int .i64 (a : Int), .int .i64 (b : Int), .int .i64 (d : Int), .slice A6 n c6] 26)).drew = W7 at HR RF RAi RA6 HBW yG yF yT yK hHeld ⊢
        refine wpAnyH_take (i := 0) (oi := ({ dst := some 76, op := Op.move (Operand.tmp 5), type := 39, pos := "law.go:63", after := #[], guard := none } : Oper)) (v := ?_) rfl (by kernel_rfl) (by kernel_rfl) (by kernel_rfl) (fun _ _ _ h => h) (Or.inl ⟨by rfl, ?_⟩) (by assumption) ?_
        rotate_left
        · intro wS hSw
          first
            | (go_simp; done)
            | (go_simp; with_reducible rfl)
        try simp only [Act.put, List.setIfInBounds_toArray, List.set_cons_zero, List.set_cons_succ]
        refine wpAnyH_take (i := 1) (oi := ({ dst := some 77, op := Op.move (Operand.tmp 9), type := 3, pos := "law.go:63", after := #[], guard := none } : Oper)) (v := ?_) rfl (by kernel_rfl) (by kernel_rfl) (by kernel_rfl) (fun _ _ _ h => h) (Or.inl ⟨by rfl, ?_⟩) (by assumption) ?_
        rotate_left
        · intro wS hSw
          first
            | (go_simp; done)
            | (go_simp; with_reducible rfl)
        try simp only [Act.put, List.setIfInBounds_toArray, List.set_cons_zero, List.set_cons_succ]
        refine wpAnyH_take (i := 2) (oi := ({ dst := some 78, op := Op.indexAddr 39 (Operand.tmp 76) (Operand.tmp 77), type := 0, pos := "law.go:63", after := #[{ on := 0, ground := Ground.data }, { on := 1, ground := Ground.data }], guard := none } : Oper)) (v := ?_) rfl (by kernel_rfl) (by kernel_rfl) (by kernel_rfl) (fun _ _ _ h => h) (Or.inl ⟨by rfl, ?_⟩) (by assumption) ?_
        rotate_left
        · intro wS hSw
          first
            | (go_simp; done)
            | (go_simp; with_reducible rfl)
        try simp only [Act.put, List.setIfInBounds_toArray, List.set_cons_zero, List.set_cons_succ]
        refine wpAnyH_take (i := 3) (oi := ({ dst := some 79, op := Op.load 26 (Operand.tmp 78), type := 26, pos := "law.go:63", after := #[{ on := 2, ground := Ground.data }], guard := none } : Oper)) (v := ?_) rfl (by kernel_rfl) (by kernel_rfl) (by kernel_rfl) (fun _ _ _ h => h) (Or.inl ⟨by rfl, ?_⟩) (by assumption) ?_
        rotate_left
        · intro wS hSw
          obtain ⟨⟨q0, q1, q2, q3⟩, -, -, -⟩ := hSw
          first
            | (go_simp; done)
            | (go_simp; with_reducible rfl)
        try simp only [Act.put, List.setIfInBounds_toArray, List.set_cons_zero, List.set_cons_succ]
        refine wpAnyH_take (i := 4) (oi := ({ dst := some 80, op := Op.load 26 (Operand.tmp 10), type := 26, pos := "law.go:63", after := #[], guard := none } : Oper)) (v := ?_) rfl (by kernel_rfl) (by kernel_rfl) (by kernel_rfl) (fun _ _ _ h => h) (Or.inl ⟨by rfl, ?_⟩) (by assumption) ?_
        rotate_left
        · intro wS hSw
          obtain ⟨-, ⟨q0, q1, q2, q3⟩, -, -⟩ := hSw
          first
            | (go_simp; done)
            | (go_simp; with_reducible rfl)
        try simp only [Act.put, List.setIfInBounds_toArray, List.set_cons_zero, List.set_cons_succ]
        refine wpAnyH_take (i := 5) (oi := ({ dst := some 81, op := Op.move (Operand.tmp 9), type := 3, pos := "law.go:63", after := #[], guard := none } : Oper)) (v := ?_) rfl (by kernel_rfl) (by kernel_rfl) (by kernel_rfl) (fun _ _ _ h => h) (Or.inl ⟨by rfl, ?_⟩) (by assumption) ?_
        rotate_left
        · intro wS hSw
          first
            | (go_simp; done)
            | (go_simp; with_reducible rfl)
        try simp only [Act.put, List.setIfInBounds_toArray, List.set_cons_zero, List.set_cons_succ]
        refine wpAnyH_ready (rs := [6]) (by kernel_rfl) (by simp) ?_
        refine AllReadyH.cons (o := ({ dst := some 82, op := Op.call { callee := Callee.value (Operand.func 11), args := #[Operand.tmp 80, Operand.tmp 81], argTypes := #[26, 3] }, type := 26, pos := "law.go:63", after := #[{ on := 4, ground := Ground.data }, { on := 5, ground := Ground.data }], guard := none } : Oper)) rfl (fun Kq hK => ?_) (AllReadyH.nil)
        go_simp
        go_at_call 11
        refine (HRB.out A c _ RF.out).mono ?_
        rintro e W8 ⟨A8, c8, rfl, hrd8, hb3⟩
        have RA8 := Lib.hid hrd8
        clear hrd8
        have hS1 := And.intro (hHeld.1.below yG hb3) (And.intro (hHeld.2.1.below yF hb3) (And.intro (hHeld.2.2.1.below yK hb3) (hHeld.2.2.2.below yT hb3)))
        replace HR := Lib.hid ((HR.out.below hb3).more hb3.size)
        replace RAi := Lib.hid ((RAi.out.below hb3).more hb3.size)
        replace RA6 := Lib.hid ((RA6.out.below hb3).more hb3.size)
        replace yG := Nat.lt_of_lt_of_le yG hb3.size
        replace yF := Nat.lt_of_lt_of_le yF hb3.size
        replace yK := Nat.lt_of_lt_of_le yK hb3.size
        replace yT := Nat.lt_of_lt_of_le yT hb3.size
        replace HBW := Lib.hid (HBW.out.trans (hb3.mono HBW.out.size))
        clear hb3 hHeld
        try dsimp only
        refine hK.out _ _ ?_ (fun hHeld => ?_)
        · exact hS1
        clear hK Kq
        try simp only [Act.put, List.setIfInBounds_toArray, List.set_cons_zero, List.set_cons_succ]
        refine wpAnyH_ready (rs := [7]) (by kernel_rfl) (by simp) ?_
        refine AllReadyH.cons (o := ({ dst := some 83, op := Op.call { callee := Callee.value (Operand.func 10), args := #[Operand.tmp 79, Operand.tmp 82], argTypes := #[26, 26] }, type := 4, pos := "law.go:63", after := #[{ on := 3, ground := Ground.data }, { on := 6, ground := Ground.data }, { on := 6, ground := Ground.chain }], guard := none } : Oper)) rfl (fun Kq hK => ?_) (AllReadyH.nil)
        go_simp
        go_at_call 10
        refine (HSMI.out (As i) A8 (cs i) c8 _ RAi.out RA8.out).mono ?_
        rintro e W9 ⟨rfl, hb3⟩
        have hS1 := And.intro (hHeld.1.below yG hb3) (And.intro (hHeld.2.1.below yF hb3) (And.intro (hHeld.2.2.1.below yK hb3) (hHeld.2.2.2.below yT hb3)))
        replace HR := Lib.hid ((HR.out.below hb3).more hb3.size)
        replace RA6 := Lib.hid ((RA6.out.below hb3).more hb3.size)
        replace yG := Nat.lt_of_lt_of_le yG hb3.size
        replace yF := Nat.lt_of_lt_of_le yF hb3.size
        replace yK := Nat.lt_of_lt_of_le yK hb3.size
        replace yT := Nat.lt_of_lt_of_le yT hb3.size
        replace HBW := Lib.hid (HBW.out.trans (hb3.mono HBW.out.size))
        clear hb3 hHeld
        try dsimp only
        refine hK.out _ _ ?_ (fun hHeld => ?_)
        · exact hS1
        clear hK Kq
        try simp only [Act.put, List.setIfInBounds_toArray, List.set_cons_zero, List.set_cons_succ]
        refine wpAnyH_take (i := 8) (oi := ({ dst := some 84, op := Op.unOp UnOp.not 4 (Operand.tmp 83), type := 4, pos := "law.go:63", after := #[{ on := 7, ground := Ground.data }], guard := none } : Oper)) (v := ?_) rfl (by kernel_rfl) (by kernel_rfl) (by kernel_rfl) (fun _ _ _ h => h) (Or.inl ⟨by rfl, ?_⟩) (by assumption) ?_
        rotate_left
        · intro wS hSw
          first
            | (go_simp; done)
            | (go_simp; with_reducible rfl)
        try simp only [Act.put, List.setIfInBounds_toArray, List.set_cons_zero, List.set_cons_succ]
        refine wpAnyH_take (i := 9) (oi := ({ dst := some 85, op := Op.move (Operand.tmp 84), type := 4, pos := "law.go:63", after := #[{ on := 8, ground := Ground.data }, { on := 7, ground := Ground.chain }], guard := none } : Oper)) (v := ?_) rfl (by kernel_rfl) (by kernel_rfl) (by kernel_rfl) (fun _ _ _ h => h) (Or.inl ⟨by rfl, ?_⟩) (by assumption) ?_
        rotate_left
        · intro wS hSw
          first
            | (go_simp; done)
            | (go_simp; with_reducible rfl)
        try simp only [Act.put, List.setIfInBounds_toArray, List.set_cons_zero, List.set_cons_succ]
        refine wpAnyH_take (i := 10) (oi := ({ dst := some 86, op := Op.move (Operand.tmp 12), type := 28, pos := "law.go:63", after := #[{ on := 9, ground := Ground.guard }], guard := some (9, false) } : Oper)) (v := ?_) rfl (by kernel_rfl) (by kernel_rfl) (by kernel_rfl) (fun _ _ _ h => h) (Or.inl ⟨by rfl, ?_⟩) (by assumption) ?_
        rotate_left
        · intro wS hSw
          first
            | (go_simp; done)
            | (go_simp; with_reducible rfl)
        try simp only [Act.put, List.setIfInBounds_toArray, List.set_cons_zero, List.set_cons_succ]
        refine wpAnyH_take (i := 11) (oi := ({ dst := some 87, op := Op.binOp BinOp.neq 28 (Operand.tmp 86) (Operand.const (Value.int IntKind.i64 0)) 28, type := 4, pos := "law.go:63", after := #[{ on := 10, ground := Ground.data }, { on := 9, ground := Ground.guard }], guard := some (9, false) } : Oper)) (v := ?_) rfl (by kernel_rfl) (by kernel_rfl) (by kernel_rfl) (fun _ _ _ h => h) (Or.inl ⟨by rfl, ?_⟩) (by assumption) ?_
        rotate_left
        · intro wS hSw
          first
            | (go_simp; done)
            | (go_simp; with_reducible rfl)
        try simp only [Act.put, List.setIfInBounds_toArray, List.set_cons_zero, List.set_cons_succ]
        refine wpAnyH_take (i := 12) (oi := ({ dst := some 88, op := Op.pick (Operand.tmp 85) (Operand.const (Value.bool true)) (Operand.tmp 87), type := 4, pos := "law.go:63", after := #[{ on := 9, ground := Ground.data }, { on := 11, ground := Ground.data }], guard := none } : Oper)) (v := ?_) rfl (by kernel_rfl) (by kernel_rfl) (by kernel_rfl) (fun _ _ _ h => h) (Or.inl ⟨by rfl, ?_⟩) (by assumption) ?_
        rotate_left
        · intro wS hSw
          first
            | (go_simp; done)
            | (go_simp; with_reducible rfl)
        try simp only [Act.put, List.setIfInBounds_toArray, List.set_cons_zero, List.set_cons_succ]
        refine wpAnyH_take (i := 13) (oi := ({ dst := some 89, op := Op.move (Operand.tmp 88), type := 4, pos := "law.go:63", after := #[{ on := 12, ground := Ground.data }, { on := 9, ground := Ground.chain }], guard := none } : Oper)) (v := ?_) rfl (by kernel_rfl) (by kernel_rfl) (by kernel_rfl) (fun _ _ _ h => h) (Or.inl ⟨by rfl, ?_⟩) (by assumption) ?_
        rotate_left
        · intro wS hSw
          first
            | (go_simp; done)
            | (go_simp; with_reducible rfl)
        try simp only [Act.put, List.setIfInBounds_toArray, List.set_cons_zero, List.set_cons_succ]
        refine wpAnyH_take (i := 14) (oi := ({ dst := some 90, op := Op.load 26 (Operand.tmp 11), type := 26, pos := "law.go:63", after := #[{ on := 13, ground := Ground.guard }], guard := some (13, false) } : Oper)) (v := ?_) rfl (by kernel_rfl) (by kernel_rfl) (by kernel_rfl) (fun _ _ _ h => h) (Or.inl ⟨by rfl, ?_⟩) (by assumption) ?_
        rotate_left
        · intro wS hSw
          obtain ⟨-, -, ⟨q0, q1, q2, q3⟩, -⟩ := hSw
          first
            | (go_simp; done)
            | (go_simp; with_reducible rfl)
        try simp only [Act.put, List.setIfInBounds_toArray, List.set_cons_zero, List.set_cons_succ]
        refine wpAnyH_take (i := 15) (oi := ({ dst := some 91, op := Op.load 26 (Operand.tmp 2), type := 26, pos := "law.go:63", after := #[{ on := 13, ground := Ground.guard }], guard := some (13, false) } : Oper)) (v := ?_) rfl (by kernel_rfl) (by kernel_rfl) (by kernel_rfl) (fun _ _ _ h => h) (Or.inl ⟨by rfl, ?_⟩) (by assumption) ?_
        rotate_left
        · intro wS hSw
          obtain ⟨-, -, -, ⟨q0, q1, q2, q3⟩⟩ := hSw
          first
            | (go_simp; done)
            | (go_simp; with_reducible rfl)
        try simp only [Act.put, List.setIfInBounds_toArray, List.set_cons_zero, List.set_cons_succ]
        refine wpAnyH_ready (rs := [16]) (by kernel_rfl) (by simp) ?_
        refine AllReadyH.cons (o := ({ dst := some 92, op := Op.call { callee := Callee.value (Operand.func 10), args := #[Operand.tmp 90, Operand.tmp 91], argTypes := #[26, 26] }, type := 4, pos := "law.go:63", after := #[{ on := 14, ground := Ground.data }, { on := 15, ground := Ground.data }, { on := 13, ground := Ground.chain }, { on := 13, ground := Ground.guard }], guard := some (13, false) } : Oper)) rfl (fun Kq hK => ?_) (AllReadyH.nil)
        go_simp
        go_at_call 10
        refine (HSMZ.out A6 A c6 c _ RA6.out HR.out).mono ?_
        rintro e W10 ⟨rfl, hb3⟩
        have hS1 := And.intro (hHeld.1.below yG hb3) (And.intro (hHeld.2.1.below yF hb3) (And.intro (hHeld.2.2.1.below yK hb3) (hHeld.2.2.2.below yT hb3)))
        replace yG := Nat.lt_of_lt_of_le yG hb3.size
        replace yF := Nat.lt_of_lt_of_le yF hb3.size
        replace yK := Nat.lt_of_lt_of_le yK hb3.size
        replace yT := Nat.lt_of_lt_of_le yT hb3.size
        replace HBW := Lib.hid (HBW.out.trans (hb3.mono HBW.out.size))
        clear hb3 hHeld
        try dsimp only
        refine hK.out _ _ ?_ (fun hHeld => ?_)
        · exact hS1
        clear hK Kq
        try simp only [Act.put, List.setIfInBounds_toArray, List.set_cons_zero, List.set_cons_succ]
        refine wpAnyH_take (i := 17) (oi := ({ dst := some 93, op := Op.unOp UnOp.not 4 (Operand.tmp 92), type := 4, pos := "law.go:63", after := #[{ on := 16, ground := Ground.data }, { on := 13, ground := Ground.guard }], guard := some (13, false) } : Oper)) (v := ?_) rfl (by kernel_rfl) (by kernel_rfl) (by kernel_rfl) (fun _ _ _ h => h) (Or.inl ⟨by rfl, ?_⟩) (by assumption) ?_
        rotate_left
        · intro wS hSw
          first
            | (go_simp; done)
            | (go_simp; with_reducible rfl)
        try simp only [Act.put, List.setIfInBounds_toArray, List.set_cons_zero, List.set_cons_succ]
        refine wpAnyH_take (i := 18) (oi := ({ dst := some 94, op := Op.pick (Operand.tmp 89) (Operand.const (Value.bool true)) (Operand.tmp 93), type := 4, pos := "law.go:63", after := #[{ on := 13, ground := Ground.data }, { on := 17, ground := Ground.data }], guard := none } : Oper)) (v := ?_) rfl (by kernel_rfl) (by kernel_rfl) (by kernel_rfl) (fun _ _ _ h => h) (Or.inl ⟨by rfl, ?_⟩) (by assumption) ?_
        rotate_left
        · intro wS hSw
          first
            | (go_simp; done)
            | (go_simp; with_reducible rfl)
        try simp only [Act.put, List.setIfInBounds_toArray, List.set_cons_zero, List.set_cons_succ]
        refine wpAnyH_done (by kernel_rfl) ?_ _
        clear hHeld
        go_wp2_with fail
        go_roundw
        case rel => exact ⟨i + 1, by omega, by go_num, HBW⟩
        case measure => simp [intOf]; omega
      · have hi4 : (3 : Int) < (i : Int) := by omega
        have hS1 : os = S := by rw [← HSS.out, if_neg h4]
        have bw := BoxW.new (a : Int) b d A n c 26 wr
        have BW := Lib.hid bw
        have hz5 : wr.heap.size < (wr.alloc (.cells #[.int .i64 (a : Int), .int .i64 (b : Int), .int .i64 (d : Int), .slice A n c] 26)).heap.size := by simp
        clear bw
        have HRf := Lib.hid (HR.out.below hal5)
        have RAf := Lib.hid (RAi.out.below hal5)
        go_upto_region 14 with fail
        replace FC := Lib.hid (FC.out.below yG hal5)
        replace TB := Lib.hid (TB.out.below yT hal5)
        have hfw : w3.heap.size ≤ wr.heap.size := HBW.out.size
        have yGf : g2 < wr.heap.size := yG
        have yTf : w.heap.size < wr.heap.size := yT
        replace HBW := Lib.hid (HBW.out.trans (hal5.mono HBW.out.size))
        obtain ⟨fb, hfb⟩ : ∃ fb, wr.heap.size = fb := ⟨_, rfl⟩
        simp only [hfb] at BW hz5 hfw yGf yTf HRf RAf ⊢
        clear hal5 hfb tbp0 tbp1 tbp2 tbp3 HSS HR RAi yG yT
        generalize wr.alloc (.cells #[.int .i64 (a : Int), .int .i64 (b : Int), .int .i64 (d : Int), .slice A n c] 26) = W1 at BW FC TB HRf RAf HBW hz5 ⊢
        obtain ⟨tbp0, tbp1, tbp2, tbp3⟩ := TB.out
        have HW1 := Lib.hid hz5
        go_upto_region 15 with (go_at_call 12; (refine (HOT.out _ (HRf.out.more (Nat.le_of_lt HW1.out))).mono ?_); rintro e w5 ⟨v5, rfl, ho5, hb⟩; (rw [HO.out, hS1] at ho5); (obtain ⟨Af, cf, rfl, -, -, -⟩ := Kit.own_rd ho5); (have HO5 := Lib.hid ho5); (have hbf : Below fb W1 w5 := hb.mono (Nat.le_of_lt HW1.out)); (replace BW := Lib.hid (BW.out.below HW1.out hb)); (replace FC := Lib.hid (FC.out.below yGf hbf)); (replace TB := Lib.hid (TB.out.below yTf hbf)); (replace HRf := Lib.hid (HRf.out.below hbf)); (replace RAf := Lib.hid (RAf.out.below hbf)); (replace HBW := Lib.hid (HBW.out.trans (hbf.mono hfw))); (have hof := Nat.lt_of_lt_of_le HW1.out hb.size); clear ho5 hb hbf tbp0 tbp1 tbp2 tbp3; (obtain ⟨⟨tbp0, tbp1, tbp2, tbp3⟩, tff⟩ := BW.out); (have tf0 := tff 0); (have tf1 := tff 1); (have tf2 := tff 2); (have tf3 := tff 3); clear tff)
        have hst : Below fb w5 ((((w5.setCell ⟨fb, 0, none⟩ (.int .i64 (a : Int))).setCell ⟨fb, 1, none⟩ (.int .i64 (b : Int))).setCell ⟨fb, 2, none⟩ (.int .i64 (d : Int))).setCell ⟨fb, 3, none⟩ (.slice Af n cf)) := below_set4 (Below.refl _ _) (Nat.le_refl _) _ _ _ _
        have TF := Lib.hid (show BoxAt fb (a : Int) b d Af n cf ((((w5.setCell ⟨fb, 0, none⟩ (.int .i64 (a : Int))).setCell ⟨fb, 1, none⟩ (.int .i64 (b : Int))).setCell ⟨fb, 2, none⟩ (.int .i64 (d : Int))).setCell ⟨fb, 3, none⟩ (.slice Af n cf)) from BW.out.set4.1)
        have hne : (Value.slice Af n cf).ownBlock ≠ some fb := fun he => absurd (Kit.own_block_ge HO5.out fb he) (by have := HW1.out; omega)
        obtain ⟨A'', c'', e2, -, -, hrdf⟩ := Kit.own_rd (own_apart HO5.out hne (.int .i64 (a : Int)) (.int .i64 (b : Int)) (.int .i64 (d : Int)) (.slice Af n cf))
        cases e2
        have RF := Lib.hid hrdf
        have yF : fb < ((((w5.setCell ⟨fb, 0, none⟩ (.int .i64 (a : Int))).setCell ⟨fb, 1, none⟩ (.int .i64 (b : Int))).setCell ⟨fb, 2, none⟩ (.int .i64 (d : Int))).setCell ⟨fb, 3, none⟩ (.slice Af n cf)).heap.size := by simpa using hof
        have yG : g2 < ((((w5.setCell ⟨fb, 0, none⟩ (.int .i64 (a : Int))).setCell ⟨fb, 1, none⟩ (.int .i64 (b : Int))).setCell ⟨fb, 2, none⟩ (.int .i64 (d : Int))).setCell ⟨fb, 3, none⟩ (.slice Af n cf)).heap.size := by omega
        have yT : w.heap.size < ((((w5.setCell ⟨fb, 0, none⟩ (.int .i64 (a : Int))).setCell ⟨fb, 1, none⟩ (.int .i64 (b : Int))).setCell ⟨fb, 2, none⟩ (.int .i64 (d : Int))).setCell ⟨fb, 3, none⟩ (.slice Af n cf)).heap.size := by omega
        replace FC := Lib.hid (FC.out.below yGf hst)
        replace TB := Lib.hid (TB.out.below yTf hst)
        have HR := Lib.hid ((HRf.out.below hst).more (Nat.le_of_lt yF))
        have RAi := Lib.hid ((RAf.out.below hst).more (Nat.le_of_lt yF))
        replace HBW := Lib.hid (HBW.out.trans (hst.mono hfw))
        clear hst hne hrdf HO5 HW1 hof tf0 tf1 tf2 tf3 tbp0 tbp1 tbp2 tbp3 HRf RAf BW hS1 hz5 yGf yTf hfw
        generalize ((((w5.setCell ⟨fb, 0, none⟩ (.int .i64 (a : Int))).setCell ⟨fb, 1, none⟩ (.int .i64 (b : Int))).setCell ⟨fb, 2, none⟩ (.int .i64 (d : Int))).setCell ⟨fb, 3, none⟩ (.slice Af n cf)) = W6 at TF RF yF yG yT FC TB HR RAi HBW ⊢
        obtain ⟨l0, l1, l2, l3⟩ := FC.out
        go_upto_region 16 with (go_at_call 14; (refine (HBK.out _ RAi.out).mono ?_); rintro e w6 ⟨v6, rfl, ho6, hb⟩; (obtain ⟨A6, c6, rfl, -, -, hrd6⟩ := Kit.own_rd ho6); (have RA6 := Lib.hid hrd6); (replace FC := Lib.hid (FC.out.below yG hb)); (replace TF := Lib.hid (TF.out.below yF hb)); (replace TB := Lib.hid (TB.out.below yT hb)); (replace HR := Lib.hid ((HR.out.below hb).more hb.size)); (replace RF := Lib.hid ((RF.out.below hb).more hb.size)); (replace RAi := Lib.hid ((RAi.out.below hb).more hb.size)); (replace HBW := Lib.hid (HBW.out.trans (hb.mono HBW.out.size))); (replace yG := Nat.lt_of_lt_of_le yG hb.size); (replace yF := Nat.lt_of_lt_of_le yF hb.size); (replace yT := Nat.lt_of_lt_of_le yT hb.size); clear ho6 hrd6 hb l0 l1 l2 l3)
        have hal6 : Below w6.heap.size w6 (w6.alloc (.cells #[.int .i64 (a : Int), .int .i64 (b : Int), .int .i64 (d : Int), .slice A6 n c6] 26)) := (Below.refl _ _).alloc (Nat.le_refl _) _
        have hd6 : Below (w6.alloc (.cells #[.int .i64 (a : Int), .int .i64 (b : Int), .int .i64 (d : Int), .slice A6 n c6] 26)).heap.size (w6.alloc (.cells #[.int .i64 (a : Int), .int .i64 (b : Int), .int .i64 (d : Int), .slice A6 n c6] 26)) (w6.alloc (.cells #[.int .i64 (a : Int), .int .i64 (b : Int), .int .i64 (d : Int), .slice A6 n c6] 26)).drew := (Below.refl _ _).drew
        have hal7 : Below w6.heap.size w6 (w6.alloc (.cells #[.int .i64 (a : Int), .int .i64 (b : Int), .int .i64 (d : Int), .slice A6 n c6] 26)).drew := hal6.trans (hd6.mono hal6.size)
        have TK := Lib.hid (boxT (a : Int) b d A6 n c6 26 w6)
        have yK : w6.heap.size < (w6.alloc (.cells #[.int .i64 (a : Int), .int .i64 (b : Int), .int .i64 (d : Int), .slice A6 n c6] 26)).drew.heap.size := by show w6.heap.size < (w6.alloc (.cells #[.int .i64 (a : Int), .int .i64 (b : Int), .int .i64 (d : Int), .slice A6 n c6] 26)).heap.size; simp
        have hSt := And.intro (FC.out.below yG hal6) (And.intro (TF.out.below yF hal6) (And.intro TK.out (TB.out.below yT hal6)))
        replace HR := Lib.hid ((HR.out.below hal7).more hal7.size)
        replace RF := Lib.hid ((RF.out.below hal7).more hal7.size)
        replace RAi := Lib.hid ((RAi.out.below hal7).more hal7.size)
        replace RA6 := Lib.hid ((RA6.out.below hal7).more hal7.size)
        replace HBW := Lib.hid (HBW.out.trans (hal7.mono HBW.out.size))
        replace yG := Nat.lt_of_lt_of_le yG hal7.size
        replace yF := Nat.lt_of_lt_of_le yF hal7.size
        replace yT := Nat.lt_of_lt_of_le yT hal7.size
        obtain ⟨kb, hkb⟩ : ∃ kb, w6.heap.size = kb := ⟨_, rfl⟩
        clear hal6 hd6 hal7 TK FC TF TB
        simp only [hkb] at hSt yK ⊢
        clear hkb
        refine wp_region_held_drew (S := (fun w' => FourC g2 (i * 4) (PF i) (QF i) d (As i) n (cs i) w' ∧ BoxAt fb (a : Int) b d Af n cf w' ∧ BoxAt kb (a : Int) b d A6 n c6 w' ∧ BoxAt w.heap.size (a : Int) b d A n c w')) (by kernel_rfl) hSt (fun hHeld => ?_)
        clear hSt
        generalize (w6.alloc (.cells #[.int .i64 (a : Int), .int .i64 (b : Int), .int .i64 (d : Int), .slice A6 n c6] 26)).drew = W7 at HR RF RAi RA6 HBW yG yF yT yK hHeld ⊢
        refine wpAnyH_take (i := 0) (oi := ({ dst := some 76, op := Op.move (Operand.tmp 5), type := 39, pos := "law.go:63", after := #[], guard := none } : Oper)) (v := ?_) rfl (by kernel_rfl) (by kernel_rfl) (by kernel_rfl) (fun _ _ _ h => h) (Or.inl ⟨by rfl, ?_⟩) (by assumption) ?_
        rotate_left
        · intro wS hSw
          first
            | (go_simp; done)
            | (go_simp; with_reducible rfl)
        try simp only [Act.put, List.setIfInBounds_toArray, List.set_cons_zero, List.set_cons_succ]
        refine wpAnyH_take (i := 1) (oi := ({ dst := some 77, op := Op.move (Operand.tmp 9), type := 3, pos := "law.go:63", after := #[], guard := none } : Oper)) (v := ?_) rfl (by kernel_rfl) (by kernel_rfl) (by kernel_rfl) (fun _ _ _ h => h) (Or.inl ⟨by rfl, ?_⟩) (by assumption) ?_
        rotate_left
        · intro wS hSw
          first
            | (go_simp; done)
            | (go_simp; with_reducible rfl)
        try simp only [Act.put, List.setIfInBounds_toArray, List.set_cons_zero, List.set_cons_succ]
        refine wpAnyH_take (i := 2) (oi := ({ dst := some 78, op := Op.indexAddr 39 (Operand.tmp 76) (Operand.tmp 77), type := 0, pos := "law.go:63", after := #[{ on := 0, ground := Ground.data }, { on := 1, ground := Ground.data }], guard := none } : Oper)) (v := ?_) rfl (by kernel_rfl) (by kernel_rfl) (by kernel_rfl) (fun _ _ _ h => h) (Or.inl ⟨by rfl, ?_⟩) (by assumption) ?_
        rotate_left
        · intro wS hSw
          first
            | (go_simp; done)
            | (go_simp; with_reducible rfl)
        try simp only [Act.put, List.setIfInBounds_toArray, List.set_cons_zero, List.set_cons_succ]
        refine wpAnyH_take (i := 3) (oi := ({ dst := some 79, op := Op.load 26 (Operand.tmp 78), type := 26, pos := "law.go:63", after := #[{ on := 2, ground := Ground.data }], guard := none } : Oper)) (v := ?_) rfl (by kernel_rfl) (by kernel_rfl) (by kernel_rfl) (fun _ _ _ h => h) (Or.inl ⟨by rfl, ?_⟩) (by assumption) ?_
        rotate_left
        · intro wS hSw
          obtain ⟨⟨q0, q1, q2, q3⟩, -, -, -⟩ := hSw
          first
            | (go_simp; done)
            | (go_simp; with_reducible rfl)
        try simp only [Act.put, List.setIfInBounds_toArray, List.set_cons_zero, List.set_cons_succ]
        refine wpAnyH_take (i := 4) (oi := ({ dst := some 80, op := Op.load 26 (Operand.tmp 10), type := 26, pos := "law.go:63", after := #[], guard := none } : Oper)) (v := ?_) rfl (by kernel_rfl) (by kernel_rfl) (by kernel_rfl) (fun _ _ _ h => h) (Or.inl ⟨by rfl, ?_⟩) (by assumption) ?_
        rotate_left
        · intro wS hSw
          obtain ⟨-, ⟨q0, q1, q2, q3⟩, -, -⟩ := hSw
          first
            | (go_simp; done)
            | (go_simp; with_reducible rfl)
        try simp only [Act.put, List.setIfInBounds_toArray, List.set_cons_zero, List.set_cons_succ]
        refine wpAnyH_take (i := 5) (oi := ({ dst := some 81, op := Op.move (Operand.tmp 9), type := 3, pos := "law.go:63", after := #[], guard := none } : Oper)) (v := ?_) rfl (by kernel_rfl) (by kernel_rfl) (by kernel_rfl) (fun _ _ _ h => h) (Or.inl ⟨by rfl, ?_⟩) (by assumption) ?_
        rotate_left
        · intro wS hSw
          first
            | (go_simp; done)
            | (go_simp; with_reducible rfl)
        try simp only [Act.put, List.setIfInBounds_toArray, List.set_cons_zero, List.set_cons_succ]
        refine wpAnyH_ready (rs := [6]) (by kernel_rfl) (by simp) ?_
        refine AllReadyH.cons (o := ({ dst := some 82, op := Op.call { callee := Callee.value (Operand.func 11), args := #[Operand.tmp 80, Operand.tmp 81], argTypes := #[26, 3] }, type := 26, pos := "law.go:63", after := #[{ on := 4, ground := Ground.data }, { on := 5, ground := Ground.data }], guard := none } : Oper)) rfl (fun Kq hK => ?_) (AllReadyH.nil)
        go_simp
        go_at_call 11
        refine (HRB.out Af cf _ RF.out).mono ?_
        rintro e W8 ⟨A8, c8, rfl, hrd8, hb3⟩
        have RA8 := Lib.hid hrd8
        clear hrd8
        have hS1 := And.intro (hHeld.1.below yG hb3) (And.intro (hHeld.2.1.below yF hb3) (And.intro (hHeld.2.2.1.below yK hb3) (hHeld.2.2.2.below yT hb3)))
        replace HR := Lib.hid ((HR.out.below hb3).more hb3.size)
        replace RAi := Lib.hid ((RAi.out.below hb3).more hb3.size)
        replace RA6 := Lib.hid ((RA6.out.below hb3).more hb3.size)
        replace yG := Nat.lt_of_lt_of_le yG hb3.size
        replace yF := Nat.lt_of_lt_of_le yF hb3.size
        replace yK := Nat.lt_of_lt_of_le yK hb3.size
        replace yT := Nat.lt_of_lt_of_le yT hb3.size
        replace HBW := Lib.hid (HBW.out.trans (hb3.mono HBW.out.size))
        clear hb3 hHeld
        try dsimp only
        refine hK.out _ _ ?_ (fun hHeld => ?_)
        · exact hS1
        clear hK Kq
        try simp only [Act.put, List.setIfInBounds_toArray, List.set_cons_zero, List.set_cons_succ]
        refine wpAnyH_ready (rs := [7]) (by kernel_rfl) (by simp) ?_
        refine AllReadyH.cons (o := ({ dst := some 83, op := Op.call { callee := Callee.value (Operand.func 10), args := #[Operand.tmp 79, Operand.tmp 82], argTypes := #[26, 26] }, type := 4, pos := "law.go:63", after := #[{ on := 3, ground := Ground.data }, { on := 6, ground := Ground.data }, { on := 6, ground := Ground.chain }], guard := none } : Oper)) rfl (fun Kq hK => ?_) (AllReadyH.nil)
        go_simp
        go_at_call 10
        refine (HSMI.out (As i) A8 (cs i) c8 _ RAi.out RA8.out).mono ?_
        rintro e W9 ⟨rfl, hb3⟩
        have hS1 := And.intro (hHeld.1.below yG hb3) (And.intro (hHeld.2.1.below yF hb3) (And.intro (hHeld.2.2.1.below yK hb3) (hHeld.2.2.2.below yT hb3)))
        replace HR := Lib.hid ((HR.out.below hb3).more hb3.size)
        replace RA6 := Lib.hid ((RA6.out.below hb3).more hb3.size)
        replace yG := Nat.lt_of_lt_of_le yG hb3.size
        replace yF := Nat.lt_of_lt_of_le yF hb3.size
        replace yK := Nat.lt_of_lt_of_le yK hb3.size
        replace yT := Nat.lt_of_lt_of_le yT hb3.size
        replace HBW := Lib.hid (HBW.out.trans (hb3.mono HBW.out.size))
        clear hb3 hHeld
        try dsimp only
        refine hK.out _ _ ?_ (fun hHeld => ?_)
        · exact hS1
        clear hK Kq
        try simp only [Act.put, List.setIfInBounds_toArray, List.set_cons_zero, List.set_cons_succ]
        refine wpAnyH_take (i := 8) (oi := ({ dst := some 84, op := Op.unOp UnOp.not 4 (Operand.tmp 83), type := 4, pos := "law.go:63", after := #[{ on := 7, ground := Ground.data }], guard := none } : Oper)) (v := ?_) rfl (by kernel_rfl) (by kernel_rfl) (by kernel_rfl) (fun _ _ _ h => h) (Or.inl ⟨by rfl, ?_⟩) (by assumption) ?_
        rotate_left
        · intro wS hSw
          first
            | (go_simp; done)
            | (go_simp; with_reducible rfl)
        try simp only [Act.put, List.setIfInBounds_toArray, List.set_cons_zero, List.set_cons_succ]
        refine wpAnyH_take (i := 9) (oi := ({ dst := some 85, op := Op.move (Operand.tmp 84), type := 4, pos := "law.go:63", after := #[{ on := 8, ground := Ground.data }, { on := 7, ground := Ground.chain }], guard := none } : Oper)) (v := ?_) rfl (by kernel_rfl) (by kernel_rfl) (by kernel_rfl) (fun _ _ _ h => h) (Or.inl ⟨by rfl, ?_⟩) (by assumption) ?_
        rotate_left
        · intro wS hSw
          first
            | (go_simp; done)
            | (go_simp; with_reducible rfl)
        try simp only [Act.put, List.setIfInBounds_toArray, List.set_cons_zero, List.set_cons_succ]
        refine wpAnyH_take (i := 10) (oi := ({ dst := some 86, op := Op.move (Operand.tmp 12), type := 28, pos := "law.go:63", after := #[{ on := 9, ground := Ground.guard }], guard := some (9, false) } : Oper)) (v := ?_) rfl (by kernel_rfl) (by kernel_rfl) (by kernel_rfl) (fun _ _ _ h => h) (Or.inl ⟨by rfl, ?_⟩) (by assumption) ?_
        rotate_left
        · intro wS hSw
          first
            | (go_simp; done)
            | (go_simp; with_reducible rfl)
        try simp only [Act.put, List.setIfInBounds_toArray, List.set_cons_zero, List.set_cons_succ]
        refine wpAnyH_take (i := 11) (oi := ({ dst := some 87, op := Op.binOp BinOp.neq 28 (Operand.tmp 86) (Operand.const (Value.int IntKind.i64 0)) 28, type := 4, pos := "law.go:63", after := #[{ on := 10, ground := Ground.data }, { on := 9, ground := Ground.guard }], guard := some (9, false) } : Oper)) (v := ?_) rfl (by kernel_rfl) (by kernel_rfl) (by kernel_rfl) (fun _ _ _ h => h) (Or.inl ⟨by rfl, ?_⟩) (by assumption) ?_
        rotate_left
        · intro wS hSw
          first
            | (go_simp; done)
            | (go_simp; with_reducible rfl)
        try simp only [Act.put, List.setIfInBounds_toArray, List.set_cons_zero, List.set_cons_succ]
        refine wpAnyH_take (i := 12) (oi := ({ dst := some 88, op := Op.pick (Operand.tmp 85) (Operand.const (Value.bool true)) (Operand.tmp 87), type := 4, pos := "law.go:63", after := #[{ on := 9, ground := Ground.data }, { on := 11, ground := Ground.data }], guard := none } : Oper)) (v := ?_) rfl (by kernel_rfl) (by kernel_rfl) (by kernel_rfl) (fun _ _ _ h => h) (Or.inl ⟨by rfl, ?_⟩) (by assumption) ?_
        rotate_left
        · intro wS hSw
          first
            | (go_simp; done)
            | (go_simp; with_reducible rfl)
        try simp only [Act.put, List.setIfInBounds_toArray, List.set_cons_zero, List.set_cons_succ]
        refine wpAnyH_take (i := 13) (oi := ({ dst := some 89, op := Op.move (Operand.tmp 88), type := 4, pos := "law.go:63", after := #[{ on := 12, ground := Ground.data }, { on := 9, ground := Ground.chain }], guard := none } : Oper)) (v := ?_) rfl (by kernel_rfl) (by kernel_rfl) (by kernel_rfl) (fun _ _ _ h => h) (Or.inl ⟨by rfl, ?_⟩) (by assumption) ?_
        rotate_left
        · intro wS hSw
          first
            | (go_simp; done)
            | (go_simp; with_reducible rfl)
        try simp only [Act.put, List.setIfInBounds_toArray, List.set_cons_zero, List.set_cons_succ]
        refine wpAnyH_take (i := 14) (oi := ({ dst := some 90, op := Op.load 26 (Operand.tmp 11), type := 26, pos := "law.go:63", after := #[{ on := 13, ground := Ground.guard }], guard := some (13, false) } : Oper)) (v := ?_) rfl (by kernel_rfl) (by kernel_rfl) (by kernel_rfl) (fun _ _ _ h => h) (Or.inl ⟨by rfl, ?_⟩) (by assumption) ?_
        rotate_left
        · intro wS hSw
          obtain ⟨-, -, ⟨q0, q1, q2, q3⟩, -⟩ := hSw
          first
            | (go_simp; done)
            | (go_simp; with_reducible rfl)
        try simp only [Act.put, List.setIfInBounds_toArray, List.set_cons_zero, List.set_cons_succ]
        refine wpAnyH_take (i := 15) (oi := ({ dst := some 91, op := Op.load 26 (Operand.tmp 2), type := 26, pos := "law.go:63", after := #[{ on := 13, ground := Ground.guard }], guard := some (13, false) } : Oper)) (v := ?_) rfl (by kernel_rfl) (by kernel_rfl) (by kernel_rfl) (fun _ _ _ h => h) (Or.inl ⟨by rfl, ?_⟩) (by assumption) ?_
        rotate_left
        · intro wS hSw
          obtain ⟨-, -, -, ⟨q0, q1, q2, q3⟩⟩ := hSw
          first
            | (go_simp; done)
            | (go_simp; with_reducible rfl)
        try simp only [Act.put, List.setIfInBounds_toArray, List.set_cons_zero, List.set_cons_succ]
        refine wpAnyH_ready (rs := [16]) (by kernel_rfl) (by simp) ?_
        refine AllReadyH.cons (o := ({ dst := some 92, op := Op.call { callee := Callee.value (Operand.func 10), args := #[Operand.tmp 90, Operand.tmp 91], argTypes := #[26, 26] }, type := 4, pos := "law.go:63", after := #[{ on := 14, ground := Ground.data }, { on := 15, ground := Ground.data }, { on := 13, ground := Ground.chain }, { on := 13, ground := Ground.guard }], guard := some (13, false) } : Oper)) rfl (fun Kq hK => ?_) (AllReadyH.nil)
        go_simp
        go_at_call 10
        refine (HSMZ.out A6 A c6 c _ RA6.out HR.out).mono ?_
        rintro e W10 ⟨rfl, hb3⟩
        have hS1 := And.intro (hHeld.1.below yG hb3) (And.intro (hHeld.2.1.below yF hb3) (And.intro (hHeld.2.2.1.below yK hb3) (hHeld.2.2.2.below yT hb3)))
        replace yG := Nat.lt_of_lt_of_le yG hb3.size
        replace yF := Nat.lt_of_lt_of_le yF hb3.size
        replace yK := Nat.lt_of_lt_of_le yK hb3.size
        replace yT := Nat.lt_of_lt_of_le yT hb3.size
        replace HBW := Lib.hid (HBW.out.trans (hb3.mono HBW.out.size))
        clear hb3 hHeld
        try dsimp only
        refine hK.out _ _ ?_ (fun hHeld => ?_)
        · exact hS1
        clear hK Kq
        try simp only [Act.put, List.setIfInBounds_toArray, List.set_cons_zero, List.set_cons_succ]
        refine wpAnyH_take (i := 17) (oi := ({ dst := some 93, op := Op.unOp UnOp.not 4 (Operand.tmp 92), type := 4, pos := "law.go:63", after := #[{ on := 16, ground := Ground.data }, { on := 13, ground := Ground.guard }], guard := some (13, false) } : Oper)) (v := ?_) rfl (by kernel_rfl) (by kernel_rfl) (by kernel_rfl) (fun _ _ _ h => h) (Or.inl ⟨by rfl, ?_⟩) (by assumption) ?_
        rotate_left
        · intro wS hSw
          first
            | (go_simp; done)
            | (go_simp; with_reducible rfl)
        try simp only [Act.put, List.setIfInBounds_toArray, List.set_cons_zero, List.set_cons_succ]
        refine wpAnyH_take (i := 18) (oi := ({ dst := some 94, op := Op.pick (Operand.tmp 89) (Operand.const (Value.bool true)) (Operand.tmp 93), type := 4, pos := "law.go:63", after := #[{ on := 13, ground := Ground.data }, { on := 17, ground := Ground.data }], guard := none } : Oper)) (v := ?_) rfl (by kernel_rfl) (by kernel_rfl) (by kernel_rfl) (fun _ _ _ h => h) (Or.inl ⟨by rfl, ?_⟩) (by assumption) ?_
        rotate_left
        · intro wS hSw
          first
            | (go_simp; done)
            | (go_simp; with_reducible rfl)
        try simp only [Act.put, List.setIfInBounds_toArray, List.set_cons_zero, List.set_cons_succ]
        refine wpAnyH_done (by kernel_rfl) ?_ _
        clear hHeld
        go_wp2_with fail
        go_roundw
        case rel => exact ⟨i + 1, by omega, by go_num, HBW⟩
        case measure => simp [intOf]; omega
    · obtain rfl : i = 8 := by omega
      replace TB := Lib.hid (TB.out.below yTB3.out HBW.out)
      replace TU := Lib.hid (TU.out.below yTU3.out HBW.out)
      have yU : w2.heap.size < wr.heap.size := Nat.lt_of_lt_of_le yTU3.out HBW.out.size
      have HBE := Lib.hid (HB3.out.trans (HBW.out.mono HB3.out.size))
      obtain ⟨u0, u1, u2, u3⟩ := TU.out
      have hV3 : ¬ p ≥ 0 := by omega
      go_wp2_with (first
        | (go_at_call 10; (refine (refSame_00 _).mono ?_); rintro e w8 ⟨rfl, hb⟩; (replace HBE := Lib.hid (HBE.out.trans (hb.mono HBE.out.size))); clear hb)
        | (go_at_call 6; (refine (known23 _).mono ?_); rintro e w9 ⟨rfl, hb⟩; (replace HBE := Lib.hid (HBE.out.trans (hb.mono HBE.out.size))); clear hb))
      go_ret
      exact ⟨rfl, HBE.out⟩
set_option maxRecDepth 100000 in
set_option maxHeartbeats 16000000 in
theorem walk_hi {w : World} {a b d n : Nat} (A : Option Addr) (zs : List Int) (c : Nat) (hn : zs.length = n) (hc : n ≤ c) (hl : n ≤ 1024) (hr : Kit.Rd w w.heap.size A (I8s zs)) (p : Int) (ht : tensB (a : Int) (b : Int) (d : Int) n = true) (hV1 : 8 ≤ p) (p2 : p ≤ 9223372036854775807) :
    Calls Try.prog 5 #[.agg #[.int .i64 (a : Int), .int .i64 (b : Int), .int .i64 (d : Int), .slice A n c], .int .i64 p] w fun e w' => e = .returned (.bool true) ∧ Below w.heap.size w w' := by
  have hlI : (n : Int) ≤ 1024 := by omega
  have hn6 : n ≤ 1000000 := by omega
  have hft : Fits d n (a, b, zs) := ⟨(tens_nat ht).1, hn⟩
  obtain ⟨os, ho⟩ : ∃ os, overL zs a b d = os := ⟨_, rfl⟩
  have hol : os.length = n := by rw [← ho]; exact (overL_len _ _ _ _).trans (tens_nat ht).1
  have hoo : overL os a b d = zs := by rw [← ho]; exact over_twice (hn.trans (tens_nat ht).1.symm)
  have hsmz := fun (A1 A2 : Option Addr) (c1 c2 : Nat) (wd : World) (h1 : Kit.Rd wd wd.heap.size A1 (I8s zs)) (h2 : Kit.Rd wd wd.heap.size A2 (I8s zs)) => refSame_to a b d A1 A2 zs zs n c1 c2 hn hn hn6 true (by simp) wd (Nat.le_refl _) (Nat.le_refl _) h1 h2
  have HSMZ := Lib.hid hsmz
  have HOT := Lib.hid (fun (wd : World) (h : Kit.Rd wd wd.heap.size A (I8s zs)) => rover_T A zs c hn ht wd (Nat.le_refl _) h)
  have HFT := Lib.hid hft
  have HOL := Lib.hid hol
  have HOO := Lib.hid hoo
  have HT := Lib.hid ht
  have HN := Lib.hid hn
  have HR := Lib.hid hr
  have HO := Lib.hid ho
  clear hft hol hoo hsmz ht hn hr ho
  go_enter Try.func5, Try.ntmps5
  go_upto_region 4 with (first
    | (go_at_call 13
       have hal : Below w.heap.size w (w.alloc (.cells #[.int .i64 (a : Int), .int .i64 (b : Int), .int .i64 (d : Int), .slice A n c] 26)) := (Below.refl _ _).alloc (by first | exact Nat.le_refl _ | (simp; done) | (simp; omega)) _
       refine (cviews_to A zs c HN.out hc HT.out os HO.out _ ((HR.out.below hal).more hal.size)).mono ?_
       rintro e w1 ⟨v1, rfl, hv1, hb⟩
       have hh : Below w.heap.size w w1 := hal.trans (hb.mono hal.size)
       have qTB := (boxT (a) (b) (d) (A) (n) (c) 26) w
       try simp only [World.size_alloc] at qTB
       have TB := Lib.hid (qTB.below (by first | (simp; done) | (simp; omega)) hb)
       have yTB : w.heap.size < w1.heap.size := by have := hb.size; simp at this; omega
       clear qTB
       replace HR := Lib.hid ((HR.out.below hh).more hh.size)
       have HBW : Hid (Below w.heap.size w w1) := Lib.hid hh
       have HV := Lib.hid hv1
       clear hv1
       obtain ⟨tbp0, tbp1, tbp2, tbp3⟩ := TB.out
       clear hb hh hal))
  go_upto_region 5 with (first
    | (go_at_call 14
       have hal : Below w1.heap.size w1 w1 := Below.refl _ _
       refine (cback_no (a : Int) b d A n c HT.out p (by omega) _).mono ?_
       rintro e w2 ⟨rfl, hb⟩
       have hh : Below w1.heap.size w1 w2 := hal.trans (hb.mono hal.size)
       replace TB := Lib.hid (TB.out.below yTB hh)
       replace yTB := Nat.lt_of_lt_of_le yTB hh.size
       replace HR := Lib.hid ((HR.out.below hh).more hh.size)
       replace HBW := Lib.hid (HBW.out.trans (hh.mono HBW.out.size))
       clear tbp0 tbp1 tbp2 tbp3
       replace HV := Lib.hid (HV.out.below hh)
       obtain ⟨tbp0, tbp1, tbp2, tbp3⟩ := TB.out
       clear hb hh hal))
  obtain ⟨As, cs, g2, cap, rfl, hg2, hviews⟩ := views_open HV.out (by omega)
  have HVW := Lib.hid hviews
  clear hviews HV
  go_wp2_with (first
    | (go_at_call 9
       have hal : Below w2.heap.size w2 (w2.alloc (.cells #[.int .i64 0, .int .i64 0, .int .i64 0, .slice none 0 0] 26)) := (Below.refl _ _).alloc (by first | exact Nat.le_refl _ | (simp; done) | (simp; omega)) _
       refine (refRight_to a b d A n c true HT.out _).mono ?_
       rintro e w3 ⟨rfl, hb⟩
       have hh : Below w2.heap.size w2 w3 := hal.trans (hb.mono hal.size)
       have qTU := (boxT (0) (0) (0) (none) (0) (0) 26) w2
       try simp only [World.size_alloc] at qTU
       have TU := Lib.hid (qTU.below (by first | (simp; done) | (simp; omega)) hb)
       have yTU : w2.heap.size < w3.heap.size := by have := hb.size; simp at this; omega
       clear qTU
       replace TB := Lib.hid (TB.out.below yTB hh)
       replace yTB := Nat.lt_of_lt_of_le yTB hh.size
       replace HR := Lib.hid ((HR.out.below hh).more hh.size)
       replace HBW := Lib.hid (HBW.out.trans (hh.mono HBW.out.size))
       clear tbp0 tbp1 tbp2 tbp3
       have HBV := Lib.hid hh; have HGG := Lib.hid hg2; clear hg2
       obtain ⟨tbp0, tbp1, tbp2, tbp3⟩ := TB.out
       obtain ⟨tup0, tup1, tup2, tup3⟩ := TU.out
       clear hb hh hal))
  clear tbp0 tbp1 tbp2 tbp3 tup0 tup1 tup2 tup3
  have HB3 := HBW
  have yTB3 := Lib.hid yTB
  have yTU3 := Lib.hid yTU
  clear HBW yTB yTU
  obtain ⟨PF, hPF⟩ : ∃ PF : Nat → Int, PF = (fun i => (rA a b (i % 4) : Int)) := ⟨_, rfl⟩
  obtain ⟨QF, hQF⟩ : ∃ QF : Nat → Int, QF = (fun i => (rB a b (i % 4) : Int)) := ⟨_, rfl⟩
  obtain ⟨YS, hYS⟩ : ∃ YS : Nat → List Int, YS = (fun i => (itT d (i % 4) (a, b, if i < 4 then zs else os)).2.2) := ⟨_, rfl⟩
  have hvw : ∀ i, i < 8 → FourC g2 (i * 4) (PF i) (QF i) d (As i) n (cs i) w2 ∧ Kit.Rd w2 w2.heap.size (As i) (I8s (YS i)) ∧ n ≤ cs i := by
    rw [hPF, hQF, hYS]; exact HVW.out
  have HVX := Lib.hid hvw
  clear hvw HVW
  have HPF := Lib.hid hPF
  have HQF := Lib.hid hQF
  have HYS := Lib.hid hYS
  clear hPF hQF hYS
  go_loopw [9] (fun x wr => ∃ i : Nat, i ≤ 8 ∧ x = .int .i64 i ∧ Hid (Below w3.heap.size w3 wr)) (fun x _ => 8 - (intOf x).toNat)
  case atStart => exact ⟨0, by omega, rfl, Lib.hid (Below.refl _ _)⟩
  case round =>
    obtain ⟨i, hi, rfl, HBW⟩ := hrel
    by_cases hlt : i < 8
    · have hi0 : (0 : Int) ≤ (i : Int) := by omega
      have hi1 : (i : Int) < 8 := by omega
      obtain ⟨fci, rai, hci⟩ := HVX.out i hlt
      have hsd : ∃ S, (if i < 4 then zs else os) = S := ⟨_, rfl⟩
      obtain ⟨S, hS⟩ := hsd
      have hSl : S.length = n := by rw [← hS]; split; exact HN.out; exact HOL.out
      have hSf : Fits d n (a, b, S) := ⟨HFT.out.1, hSl⟩
      have hti : turnsN (i : Int) = i % 4 := by unfold turnsN; omega
      have hyi : (itT d (i % 4) (a, b, S)).2.2 = YS i := by rw [HYS.out, ← hS]
      have htri : itT d (i % 4) (a, b, S) = (rA a b (i % 4), rB a b (i % 4), YS i) := by
        obtain ⟨e1, e2⟩ := itT_dimsR d (i % 4) a b S
        exact Prod.ext e1 (Prod.ext e2 hyi)
      have hbk := turns_back hSf (i : Int)
      rw [hti, htri] at hbk
      have hPi : (rA a b (i % 4) : Int) = PF i := by rw [HPF.out]
      have hQi : (rB a b (i % 4) : Int) = QF i := by rw [HQF.out]
      have hYl : (YS i).length = n := by rw [← hyi]; exact (itT_fits hSf).2
      have hck := fun (wd : World) (h : Kit.Rd wd wd.heap.size (As i) (I8s (YS i))) => cback_to (a := rA a b (i % 4)) (b := rB a b (i % 4)) (d := d) (As i) (YS i) (cs i) hYl hci (by have := tens_turn (zs := S) (r := i % 4) HT.out; rw [htri] at this; exact this) (i : Int) hi0 hi1 (a : Int) (b : Int) S zs (by rw [hbk]) (by rw [hbk]) (by rw [hbk])
        (by rw [hbk]
            by_cases h4 : i < 4
            · rw [if_pos (by omega), ← hS, if_pos h4]
            · rw [if_neg (by omega), ← hS, if_neg h4]; exact HOO.out) wd h
      rw [hPi, hQi] at hck
      have HBK := Lib.hid hck
      have HRB := Lib.hid (fun (A9 : Option Addr) (c9 : Nat) (wd : World) (h : Kit.Rd wd wd.heap.size A9 (I8s S)) => rby_to A9 S c9 hSl HT.out (i : Int) (by omega) (by omega) (PF i) (QF i) (YS i) (by rw [hti, htri]; exact hPi) (by rw [hti, htri]; exact hQi) (by rw [hti]; exact hyi) wd h)
      have HSMI := Lib.hid (fun (A1 A2 : Option Addr) (c1 c2 : Nat) (wd : World) (h1 : Kit.Rd wd wd.heap.size A1 (I8s (YS i))) (h2 : Kit.Rd wd wd.heap.size A2 (I8s (YS i))) => refSame_to (PF i) (QF i) d A1 A2 (YS i) (YS i) n c1 c2 hYl hYl hn6 true (by simp) wd (Nat.le_refl _) (Nat.le_refl _) h1 h2)
      have hb0 := HBV.out.trans (HBW.out.mono HBV.out.size)
      have FC := Lib.hid (fci.below HGG.out hb0)
      have RAi := Lib.hid ((rai.below hb0).more hb0.size)
      have yG : g2 < wr.heap.size := Nat.lt_of_lt_of_le HGG.out hb0.size
      have yT : w.heap.size < wr.heap.size := Nat.lt_of_lt_of_le yTB3.out HBW.out.size
      replace TB := Lib.hid (TB.out.below yTB3.out HBW.out)
      replace HR := Lib.hid ((HR.out.below HBW.out).more HBW.out.size)
      have HSS := Lib.hid hS
      clear fci rai hci hS hSl hSf hti hyi htri hbk hPi hQi hYl hck hb0
      obtain ⟨tbp0, tbp1, tbp2, tbp3⟩ := TB.out
      have hal5 : Below wr.heap.size wr (wr.alloc (.cells #[.int .i64 (a : Int), .int .i64 (b : Int), .int .i64 (d : Int), .slice A n c] 26)) := (Below.refl _ _).alloc (Nat.le_refl _) _
      by_cases h4 : i < 4
      · have hi4 : (i : Int) ≤ 3 := by omega
        have hS1 : zs = S := by rw [← HSS.out, if_pos h4]
        go_upto_region 15 with fail
        have TF := Lib.hid (boxT (a : Int) b d A n c 26 wr)
        have yF : wr.heap.size < (wr.alloc (.cells #[.int .i64 (a : Int), .int .i64 (b : Int), .int .i64 (d : Int), .slice A n c] 26)).heap.size := by simp
        have RF := HR
        rw [hS1] at RF
        replace RF := Lib.hid ((RF.out.below hal5).more hal5.size)
        replace FC := Lib.hid (FC.out.below yG hal5)
        replace TB := Lib.hid (TB.out.below yT hal5)
        replace HR := Lib.hid ((HR.out.below hal5).more hal5.size)
        replace RAi := Lib.hid ((RAi.out.below hal5).more hal5.size)
        replace HBW := Lib.hid (HBW.out.trans (hal5.mono HBW.out.size))
        replace yG := Nat.lt_of_lt_of_le yG hal5.size
        replace yT := Nat.lt_of_lt_of_le yT hal5.size
        obtain ⟨fb, hfb⟩ : ∃ fb, wr.heap.size = fb := ⟨_, rfl⟩
        simp only [hfb] at TF yF ⊢
        clear hS1 hal5 hfb tbp0 tbp1 tbp2 tbp3 HSS
        generalize wr.alloc (.cells #[.int .i64 (a : Int), .int .i64 (b : Int), .int .i64 (d : Int), .slice A n c] 26) = W1 at TF RF FC TB HR RAi HBW yG yF yT ⊢
        obtain ⟨l0, l1, l2, l3⟩ := FC.out
        go_upto_region 16 with (go_at_call 14; (refine (HBK.out _ RAi.out).mono ?_); rintro e w6 ⟨v6, rfl, ho6, hb⟩; (obtain ⟨A6, c6, rfl, -, -, hrd6⟩ := Kit.own_rd ho6); (have RA6 := Lib.hid hrd6); (replace FC := Lib.hid (FC.out.below yG hb)); (replace TF := Lib.hid (TF.out.below yF hb)); (replace TB := Lib.hid (TB.out.below yT hb)); (replace HR := Lib.hid ((HR.out.below hb).more hb.size)); (replace RF := Lib.hid ((RF.out.below hb).more hb.size)); (replace RAi := Lib.hid ((RAi.out.below hb).more hb.size)); (replace HBW := Lib.hid (HBW.out.trans (hb.mono HBW.out.size))); (replace yG := Nat.lt_of_lt_of_le yG hb.size); (replace yF := Nat.lt_of_lt_of_le yF hb.size); (replace yT := Nat.lt_of_lt_of_le yT hb.size); clear ho6 hrd6 hb l0 l1 l2 l3)
        have hal6 : Below w6.heap.size w6 (w6.alloc (.cells #[.int .i64 (a : Int), .int .i64 (b : Int), .int .i64 (d : Int), .slice A6 n c6] 26)) := (Below.refl _ _).alloc (Nat.le_refl _) _
        have hd6 : Below (w6.alloc (.cells #[.int .i64 (a : Int), .int .i64 (b : Int), .int .i64 (d : Int), .slice A6 n c6] 26)).heap.size (w6.alloc (.cells #[.int .i64 (a : Int), .int .i64 (b : Int), .int .i64 (d : Int), .slice A6 n c6] 26)) (w6.alloc (.cells #[.int .i64 (a : Int), .int .i64 (b : Int), .int .i64 (d : Int), .slice A6 n c6] 26)).drew := (Below.refl _ _).drew
        have hal7 : Below w6.heap.size w6 (w6.alloc (.cells #[.int .i64 (a : Int), .int .i64 (b : Int), .int .i64 (d : Int), .slice A6 n c6] 26)).drew := hal6.trans (hd6.mono hal6.size)
        have TK := Lib.hid (boxT (a : Int) b d A6 n c6 26 w6)
        have yK : w6.heap.size < (w6.alloc (.cells #[.int .i64 (a : Int), .int .i64 (b : Int), .int .i64 (d : Int), .slice A6 n c6] 26)).drew.heap.size := by show w6.heap.size < (w6.alloc (.cells #[.int .i64 (a : Int), .int .i64 (b : Int), .int .i64 (d : Int), .slice A6 n c6] 26)).heap.size; simp
        have hSt := And.intro (FC.out.below yG hal6) (And.intro (TF.out.below yF hal6) (And.intro TK.out (TB.out.below yT hal6)))
        replace HR := Lib.hid ((HR.out.below hal7).more hal7.size)
        replace RF := Lib.hid ((RF.out.below hal7).more hal7.size)
        replace RAi := Lib.hid ((RAi.out.below hal7).more hal7.size)
        replace RA6 := Lib.hid ((RA6.out.below hal7).more hal7.size)
        replace HBW := Lib.hid (HBW.out.trans (hal7.mono HBW.out.size))
        replace yG := Nat.lt_of_lt_of_le yG hal7.size
        replace yF := Nat.lt_of_lt_of_le yF hal7.size
        replace yT := Nat.lt_of_lt_of_le yT hal7.size
        obtain ⟨kb, hkb⟩ : ∃ kb, w6.heap.size = kb := ⟨_, rfl⟩
        clear hal6 hd6 hal7 TK FC TF TB
        simp only [hkb] at hSt yK ⊢
        clear hkb
        refine wp_region_held_drew (S := (fun w' => FourC g2 (i * 4) (PF i) (QF i) d (As i) n (cs i) w' ∧ BoxAt fb (a : Int) b d A n c w' ∧ BoxAt kb (a : Int) b d A6 n c6 w' ∧ BoxAt w.heap.size (a : Int) b d A n c w')) (by kernel_rfl) hSt (fun hHeld => ?_)
        clear hSt
        generalize (w6.alloc (.cells #[.int .i64 (a : Int), .int .i64 (b : Int), .int .i64 (d : Int), .slice A6 n c6] 26)).drew = W7 at HR RF RAi RA6 HBW yG yF yT yK hHeld ⊢
        refine wpAnyH_take (i := 0) (oi := ({ dst := some 76, op := Op.move (Operand.tmp 5), type := 39, pos := "law.go:63", after := #[], guard := none } : Oper)) (v := ?_) rfl (by kernel_rfl) (by kernel_rfl) (by kernel_rfl) (fun _ _ _ h => h) (Or.inl ⟨by rfl, ?_⟩) (by assumption) ?_
        rotate_left
        · intro wS hSw
          first
            | (go_simp; done)
            | (go_simp; with_reducible rfl)
        try simp only [Act.put, List.setIfInBounds_toArray, List.set_cons_zero, List.set_cons_succ]
        refine wpAnyH_take (i := 1) (oi := ({ dst := some 77, op := Op.move (Operand.tmp 9), type := 3, pos := "law.go:63", after := #[], guard := none } : Oper)) (v := ?_) rfl (by kernel_rfl) (by kernel_rfl) (by kernel_rfl) (fun _ _ _ h => h) (Or.inl ⟨by rfl, ?_⟩) (by assumption) ?_
        rotate_left
        · intro wS hSw
          first
            | (go_simp; done)
            | (go_simp; with_reducible rfl)
        try simp only [Act.put, List.setIfInBounds_toArray, List.set_cons_zero, List.set_cons_succ]
        refine wpAnyH_take (i := 2) (oi := ({ dst := some 78, op := Op.indexAddr 39 (Operand.tmp 76) (Operand.tmp 77), type := 0, pos := "law.go:63", after := #[{ on := 0, ground := Ground.data }, { on := 1, ground := Ground.data }], guard := none } : Oper)) (v := ?_) rfl (by kernel_rfl) (by kernel_rfl) (by kernel_rfl) (fun _ _ _ h => h) (Or.inl ⟨by rfl, ?_⟩) (by assumption) ?_
        rotate_left
        · intro wS hSw
          first
            | (go_simp; done)
            | (go_simp; with_reducible rfl)
        try simp only [Act.put, List.setIfInBounds_toArray, List.set_cons_zero, List.set_cons_succ]
        refine wpAnyH_take (i := 3) (oi := ({ dst := some 79, op := Op.load 26 (Operand.tmp 78), type := 26, pos := "law.go:63", after := #[{ on := 2, ground := Ground.data }], guard := none } : Oper)) (v := ?_) rfl (by kernel_rfl) (by kernel_rfl) (by kernel_rfl) (fun _ _ _ h => h) (Or.inl ⟨by rfl, ?_⟩) (by assumption) ?_
        rotate_left
        · intro wS hSw
          obtain ⟨⟨q0, q1, q2, q3⟩, -, -, -⟩ := hSw
          first
            | (go_simp; done)
            | (go_simp; with_reducible rfl)
        try simp only [Act.put, List.setIfInBounds_toArray, List.set_cons_zero, List.set_cons_succ]
        refine wpAnyH_take (i := 4) (oi := ({ dst := some 80, op := Op.load 26 (Operand.tmp 10), type := 26, pos := "law.go:63", after := #[], guard := none } : Oper)) (v := ?_) rfl (by kernel_rfl) (by kernel_rfl) (by kernel_rfl) (fun _ _ _ h => h) (Or.inl ⟨by rfl, ?_⟩) (by assumption) ?_
        rotate_left
        · intro wS hSw
          obtain ⟨-, ⟨q0, q1, q2, q3⟩, -, -⟩ := hSw
          first
            | (go_simp; done)
            | (go_simp; with_reducible rfl)
        try simp only [Act.put, List.setIfInBounds_toArray, List.set_cons_zero, List.set_cons_succ]
        refine wpAnyH_take (i := 5) (oi := ({ dst := some 81, op := Op.move (Operand.tmp 9), type := 3, pos := "law.go:63", after := #[], guard := none } : Oper)) (v := ?_) rfl (by kernel_rfl) (by kernel_rfl) (by kernel_rfl) (fun _ _ _ h => h) (Or.inl ⟨by rfl, ?_⟩) (by assumption) ?_
        rotate_left
        · intro wS hSw
          first
            | (go_simp; done)
            | (go_simp; with_reducible rfl)
        try simp only [Act.put, List.setIfInBounds_toArray, List.set_cons_zero, List.set_cons_succ]
        refine wpAnyH_ready (rs := [6]) (by kernel_rfl) (by simp) ?_
        refine AllReadyH.cons (o := ({ dst := some 82, op := Op.call { callee := Callee.value (Operand.func 11), args := #[Operand.tmp 80, Operand.tmp 81], argTypes := #[26, 3] }, type := 26, pos := "law.go:63", after := #[{ on := 4, ground := Ground.data }, { on := 5, ground := Ground.data }], guard := none } : Oper)) rfl (fun Kq hK => ?_) (AllReadyH.nil)
        go_simp
        go_at_call 11
        refine (HRB.out A c _ RF.out).mono ?_
        rintro e W8 ⟨A8, c8, rfl, hrd8, hb3⟩
        have RA8 := Lib.hid hrd8
        clear hrd8
        have hS1 := And.intro (hHeld.1.below yG hb3) (And.intro (hHeld.2.1.below yF hb3) (And.intro (hHeld.2.2.1.below yK hb3) (hHeld.2.2.2.below yT hb3)))
        replace HR := Lib.hid ((HR.out.below hb3).more hb3.size)
        replace RAi := Lib.hid ((RAi.out.below hb3).more hb3.size)
        replace RA6 := Lib.hid ((RA6.out.below hb3).more hb3.size)
        replace yG := Nat.lt_of_lt_of_le yG hb3.size
        replace yF := Nat.lt_of_lt_of_le yF hb3.size
        replace yK := Nat.lt_of_lt_of_le yK hb3.size
        replace yT := Nat.lt_of_lt_of_le yT hb3.size
        replace HBW := Lib.hid (HBW.out.trans (hb3.mono HBW.out.size))
        clear hb3 hHeld
        try dsimp only
        refine hK.out _ _ ?_ (fun hHeld => ?_)
        · exact hS1
        clear hK Kq
        try simp only [Act.put, List.setIfInBounds_toArray, List.set_cons_zero, List.set_cons_succ]
        refine wpAnyH_ready (rs := [7]) (by kernel_rfl) (by simp) ?_
        refine AllReadyH.cons (o := ({ dst := some 83, op := Op.call { callee := Callee.value (Operand.func 10), args := #[Operand.tmp 79, Operand.tmp 82], argTypes := #[26, 26] }, type := 4, pos := "law.go:63", after := #[{ on := 3, ground := Ground.data }, { on := 6, ground := Ground.data }, { on := 6, ground := Ground.chain }], guard := none } : Oper)) rfl (fun Kq hK => ?_) (AllReadyH.nil)
        go_simp
        go_at_call 10
        refine (HSMI.out (As i) A8 (cs i) c8 _ RAi.out RA8.out).mono ?_
        rintro e W9 ⟨rfl, hb3⟩
        have hS1 := And.intro (hHeld.1.below yG hb3) (And.intro (hHeld.2.1.below yF hb3) (And.intro (hHeld.2.2.1.below yK hb3) (hHeld.2.2.2.below yT hb3)))
        replace HR := Lib.hid ((HR.out.below hb3).more hb3.size)
        replace RA6 := Lib.hid ((RA6.out.below hb3).more hb3.size)
        replace yG := Nat.lt_of_lt_of_le yG hb3.size
        replace yF := Nat.lt_of_lt_of_le yF hb3.size
        replace yK := Nat.lt_of_lt_of_le yK hb3.size
        replace yT := Nat.lt_of_lt_of_le yT hb3.size
        replace HBW := Lib.hid (HBW.out.trans (hb3.mono HBW.out.size))
        clear hb3 hHeld
        try dsimp only
        refine hK.out _ _ ?_ (fun hHeld => ?_)
        · exact hS1
        clear hK Kq
        try simp only [Act.put, List.setIfInBounds_toArray, List.set_cons_zero, List.set_cons_succ]
        refine wpAnyH_take (i := 8) (oi := ({ dst := some 84, op := Op.unOp UnOp.not 4 (Operand.tmp 83), type := 4, pos := "law.go:63", after := #[{ on := 7, ground := Ground.data }], guard := none } : Oper)) (v := ?_) rfl (by kernel_rfl) (by kernel_rfl) (by kernel_rfl) (fun _ _ _ h => h) (Or.inl ⟨by rfl, ?_⟩) (by assumption) ?_
        rotate_left
        · intro wS hSw
          first
            | (go_simp; done)
            | (go_simp; with_reducible rfl)
        try simp only [Act.put, List.setIfInBounds_toArray, List.set_cons_zero, List.set_cons_succ]
        refine wpAnyH_take (i := 9) (oi := ({ dst := some 85, op := Op.move (Operand.tmp 84), type := 4, pos := "law.go:63", after := #[{ on := 8, ground := Ground.data }, { on := 7, ground := Ground.chain }], guard := none } : Oper)) (v := ?_) rfl (by kernel_rfl) (by kernel_rfl) (by kernel_rfl) (fun _ _ _ h => h) (Or.inl ⟨by rfl, ?_⟩) (by assumption) ?_
        rotate_left
        · intro wS hSw
          first
            | (go_simp; done)
            | (go_simp; with_reducible rfl)
        try simp only [Act.put, List.setIfInBounds_toArray, List.set_cons_zero, List.set_cons_succ]
        refine wpAnyH_take (i := 10) (oi := ({ dst := some 86, op := Op.move (Operand.tmp 12), type := 28, pos := "law.go:63", after := #[{ on := 9, ground := Ground.guard }], guard := some (9, false) } : Oper)) (v := ?_) rfl (by kernel_rfl) (by kernel_rfl) (by kernel_rfl) (fun _ _ _ h => h) (Or.inl ⟨by rfl, ?_⟩) (by assumption) ?_
        rotate_left
        · intro wS hSw
          first
            | (go_simp; done)
            | (go_simp; with_reducible rfl)
        try simp only [Act.put, List.setIfInBounds_toArray, List.set_cons_zero, List.set_cons_succ]
        refine wpAnyH_take (i := 11) (oi := ({ dst := some 87, op := Op.binOp BinOp.neq 28 (Operand.tmp 86) (Operand.const (Value.int IntKind.i64 0)) 28, type := 4, pos := "law.go:63", after := #[{ on := 10, ground := Ground.data }, { on := 9, ground := Ground.guard }], guard := some (9, false) } : Oper)) (v := ?_) rfl (by kernel_rfl) (by kernel_rfl) (by kernel_rfl) (fun _ _ _ h => h) (Or.inl ⟨by rfl, ?_⟩) (by assumption) ?_
        rotate_left
        · intro wS hSw
          first
            | (go_simp; done)
            | (go_simp; with_reducible rfl)
        try simp only [Act.put, List.setIfInBounds_toArray, List.set_cons_zero, List.set_cons_succ]
        refine wpAnyH_take (i := 12) (oi := ({ dst := some 88, op := Op.pick (Operand.tmp 85) (Operand.const (Value.bool true)) (Operand.tmp 87), type := 4, pos := "law.go:63", after := #[{ on := 9, ground := Ground.data }, { on := 11, ground := Ground.data }], guard := none } : Oper)) (v := ?_) rfl (by kernel_rfl) (by kernel_rfl) (by kernel_rfl) (fun _ _ _ h => h) (Or.inl ⟨by rfl, ?_⟩) (by assumption) ?_
        rotate_left
        · intro wS hSw
          first
            | (go_simp; done)
            | (go_simp; with_reducible rfl)
        try simp only [Act.put, List.setIfInBounds_toArray, List.set_cons_zero, List.set_cons_succ]
        refine wpAnyH_take (i := 13) (oi := ({ dst := some 89, op := Op.move (Operand.tmp 88), type := 4, pos := "law.go:63", after := #[{ on := 12, ground := Ground.data }, { on := 9, ground := Ground.chain }], guard := none } : Oper)) (v := ?_) rfl (by kernel_rfl) (by kernel_rfl) (by kernel_rfl) (fun _ _ _ h => h) (Or.inl ⟨by rfl, ?_⟩) (by assumption) ?_
        rotate_left
        · intro wS hSw
          first
            | (go_simp; done)
            | (go_simp; with_reducible rfl)
        try simp only [Act.put, List.setIfInBounds_toArray, List.set_cons_zero, List.set_cons_succ]
        refine wpAnyH_take (i := 14) (oi := ({ dst := some 90, op := Op.load 26 (Operand.tmp 11), type := 26, pos := "law.go:63", after := #[{ on := 13, ground := Ground.guard }], guard := some (13, false) } : Oper)) (v := ?_) rfl (by kernel_rfl) (by kernel_rfl) (by kernel_rfl) (fun _ _ _ h => h) (Or.inl ⟨by rfl, ?_⟩) (by assumption) ?_
        rotate_left
        · intro wS hSw
          obtain ⟨-, -, ⟨q0, q1, q2, q3⟩, -⟩ := hSw
          first
            | (go_simp; done)
            | (go_simp; with_reducible rfl)
        try simp only [Act.put, List.setIfInBounds_toArray, List.set_cons_zero, List.set_cons_succ]
        refine wpAnyH_take (i := 15) (oi := ({ dst := some 91, op := Op.load 26 (Operand.tmp 2), type := 26, pos := "law.go:63", after := #[{ on := 13, ground := Ground.guard }], guard := some (13, false) } : Oper)) (v := ?_) rfl (by kernel_rfl) (by kernel_rfl) (by kernel_rfl) (fun _ _ _ h => h) (Or.inl ⟨by rfl, ?_⟩) (by assumption) ?_
        rotate_left
        · intro wS hSw
          obtain ⟨-, -, -, ⟨q0, q1, q2, q3⟩⟩ := hSw
          first
            | (go_simp; done)
            | (go_simp; with_reducible rfl)
        try simp only [Act.put, List.setIfInBounds_toArray, List.set_cons_zero, List.set_cons_succ]
        refine wpAnyH_ready (rs := [16]) (by kernel_rfl) (by simp) ?_
        refine AllReadyH.cons (o := ({ dst := some 92, op := Op.call { callee := Callee.value (Operand.func 10), args := #[Operand.tmp 90, Operand.tmp 91], argTypes := #[26, 26] }, type := 4, pos := "law.go:63", after := #[{ on := 14, ground := Ground.data }, { on := 15, ground := Ground.data }, { on := 13, ground := Ground.chain }, { on := 13, ground := Ground.guard }], guard := some (13, false) } : Oper)) rfl (fun Kq hK => ?_) (AllReadyH.nil)
        go_simp
        go_at_call 10
        refine (HSMZ.out A6 A c6 c _ RA6.out HR.out).mono ?_
        rintro e W10 ⟨rfl, hb3⟩
        have hS1 := And.intro (hHeld.1.below yG hb3) (And.intro (hHeld.2.1.below yF hb3) (And.intro (hHeld.2.2.1.below yK hb3) (hHeld.2.2.2.below yT hb3)))
        replace yG := Nat.lt_of_lt_of_le yG hb3.size
        replace yF := Nat.lt_of_lt_of_le yF hb3.size
        replace yK := Nat.lt_of_lt_of_le yK hb3.size
        replace yT := Nat.lt_of_lt_of_le yT hb3.size
        replace HBW := Lib.hid (HBW.out.trans (hb3.mono HBW.out.size))
        clear hb3 hHeld
        try dsimp only
        refine hK.out _ _ ?_ (fun hHeld => ?_)
        · exact hS1
        clear hK Kq
        try simp only [Act.put, List.setIfInBounds_toArray, List.set_cons_zero, List.set_cons_succ]
        refine wpAnyH_take (i := 17) (oi := ({ dst := some 93, op := Op.unOp UnOp.not 4 (Operand.tmp 92), type := 4, pos := "law.go:63", after := #[{ on := 16, ground := Ground.data }, { on := 13, ground := Ground.guard }], guard := some (13, false) } : Oper)) (v := ?_) rfl (by kernel_rfl) (by kernel_rfl) (by kernel_rfl) (fun _ _ _ h => h) (Or.inl ⟨by rfl, ?_⟩) (by assumption) ?_
        rotate_left
        · intro wS hSw
          first
            | (go_simp; done)
            | (go_simp; with_reducible rfl)
        try simp only [Act.put, List.setIfInBounds_toArray, List.set_cons_zero, List.set_cons_succ]
        refine wpAnyH_take (i := 18) (oi := ({ dst := some 94, op := Op.pick (Operand.tmp 89) (Operand.const (Value.bool true)) (Operand.tmp 93), type := 4, pos := "law.go:63", after := #[{ on := 13, ground := Ground.data }, { on := 17, ground := Ground.data }], guard := none } : Oper)) (v := ?_) rfl (by kernel_rfl) (by kernel_rfl) (by kernel_rfl) (fun _ _ _ h => h) (Or.inl ⟨by rfl, ?_⟩) (by assumption) ?_
        rotate_left
        · intro wS hSw
          first
            | (go_simp; done)
            | (go_simp; with_reducible rfl)
        try simp only [Act.put, List.setIfInBounds_toArray, List.set_cons_zero, List.set_cons_succ]
        refine wpAnyH_done (by kernel_rfl) ?_ _
        clear hHeld
        go_wp2_with fail
        go_roundw
        case rel => exact ⟨i + 1, by omega, by go_num, HBW⟩
        case measure => simp [intOf]; omega
      · have hi4 : (3 : Int) < (i : Int) := by omega
        have hS1 : os = S := by rw [← HSS.out, if_neg h4]
        have bw := BoxW.new (a : Int) b d A n c 26 wr
        have BW := Lib.hid bw
        have hz5 : wr.heap.size < (wr.alloc (.cells #[.int .i64 (a : Int), .int .i64 (b : Int), .int .i64 (d : Int), .slice A n c] 26)).heap.size := by simp
        clear bw
        have HRf := Lib.hid (HR.out.below hal5)
        have RAf := Lib.hid (RAi.out.below hal5)
        go_upto_region 14 with fail
        replace FC := Lib.hid (FC.out.below yG hal5)
        replace TB := Lib.hid (TB.out.below yT hal5)
        have hfw : w3.heap.size ≤ wr.heap.size := HBW.out.size
        have yGf : g2 < wr.heap.size := yG
        have yTf : w.heap.size < wr.heap.size := yT
        replace HBW := Lib.hid (HBW.out.trans (hal5.mono HBW.out.size))
        obtain ⟨fb, hfb⟩ : ∃ fb, wr.heap.size = fb := ⟨_, rfl⟩
        simp only [hfb] at BW hz5 hfw yGf yTf HRf RAf ⊢
        clear hal5 hfb tbp0 tbp1 tbp2 tbp3 HSS HR RAi yG yT
        generalize wr.alloc (.cells #[.int .i64 (a : Int), .int .i64 (b : Int), .int .i64 (d : Int), .slice A n c] 26) = W1 at BW FC TB HRf RAf HBW hz5 ⊢
        obtain ⟨tbp0, tbp1, tbp2, tbp3⟩ := TB.out
        have HW1 := Lib.hid hz5
        go_upto_region 15 with (go_at_call 12; (refine (HOT.out _ (HRf.out.more (Nat.le_of_lt HW1.out))).mono ?_); rintro e w5 ⟨v5, rfl, ho5, hb⟩; (rw [HO.out, hS1] at ho5); (obtain ⟨Af, cf, rfl, -, -, -⟩ := Kit.own_rd ho5); (have HO5 := Lib.hid ho5); (have hbf : Below fb W1 w5 := hb.mono (Nat.le_of_lt HW1.out)); (replace BW := Lib.hid (BW.out.below HW1.out hb)); (replace FC := Lib.hid (FC.out.below yGf hbf)); (replace TB := Lib.hid (TB.out.below yTf hbf)); (replace HRf := Lib.hid (HRf.out.below hbf)); (replace RAf := Lib.hid (RAf.out.below hbf)); (replace HBW := Lib.hid (HBW.out.trans (hbf.mono hfw))); (have hof := Nat.lt_of_lt_of_le HW1.out hb.size); clear ho5 hb hbf tbp0 tbp1 tbp2 tbp3; (obtain ⟨⟨tbp0, tbp1, tbp2, tbp3⟩, tff⟩ := BW.out); (have tf0 := tff 0); (have tf1 := tff 1); (have tf2 := tff 2); (have tf3 := tff 3); clear tff)
        have hst : Below fb w5 ((((w5.setCell ⟨fb, 0, none⟩ (.int .i64 (a : Int))).setCell ⟨fb, 1, none⟩ (.int .i64 (b : Int))).setCell ⟨fb, 2, none⟩ (.int .i64 (d : Int))).setCell ⟨fb, 3, none⟩ (.slice Af n cf)) := below_set4 (Below.refl _ _) (Nat.le_refl _) _ _ _ _
        have TF := Lib.hid (show BoxAt fb (a : Int) b d Af n cf ((((w5.setCell ⟨fb, 0, none⟩ (.int .i64 (a : Int))).setCell ⟨fb, 1, none⟩ (.int .i64 (b : Int))).setCell ⟨fb, 2, none⟩ (.int .i64 (d : Int))).setCell ⟨fb, 3, none⟩ (.slice Af n cf)) from BW.out.set4.1)
        have hne : (Value.slice Af n cf).ownBlock ≠ some fb := fun he => absurd (Kit.own_block_ge HO5.out fb he) (by have := HW1.out; omega)
        obtain ⟨A'', c'', e2, -, -, hrdf⟩ := Kit.own_rd (own_apart HO5.out hne (.int .i64 (a : Int)) (.int .i64 (b : Int)) (.int .i64 (d : Int)) (.slice Af n cf))
        cases e2
        have RF := Lib.hid hrdf
        have yF : fb < ((((w5.setCell ⟨fb, 0, none⟩ (.int .i64 (a : Int))).setCell ⟨fb, 1, none⟩ (.int .i64 (b : Int))).setCell ⟨fb, 2, none⟩ (.int .i64 (d : Int))).setCell ⟨fb, 3, none⟩ (.slice Af n cf)).heap.size := by simpa using hof
        have yG : g2 < ((((w5.setCell ⟨fb, 0, none⟩ (.int .i64 (a : Int))).setCell ⟨fb, 1, none⟩ (.int .i64 (b : Int))).setCell ⟨fb, 2, none⟩ (.int .i64 (d : Int))).setCell ⟨fb, 3, none⟩ (.slice Af n cf)).heap.size := by omega
        have yT : w.heap.size < ((((w5.setCell ⟨fb, 0, none⟩ (.int .i64 (a : Int))).setCell ⟨fb, 1, none⟩ (.int .i64 (b : Int))).setCell ⟨fb, 2, none⟩ (.int .i64 (d : Int))).setCell ⟨fb, 3, none⟩ (.slice Af n cf)).heap.size := by omega
        replace FC := Lib.hid (FC.out.below yGf hst)
        replace TB := Lib.hid (TB.out.below yTf hst)
        have HR := Lib.hid ((HRf.out.below hst).more (Nat.le_of_lt yF))
        have RAi := Lib.hid ((RAf.out.below hst).more (Nat.le_of_lt yF))
        replace HBW := Lib.hid (HBW.out.trans (hst.mono hfw))
        clear hst hne hrdf HO5 HW1 hof tf0 tf1 tf2 tf3 tbp0 tbp1 tbp2 tbp3 HRf RAf BW hS1 hz5 yGf yTf hfw
        generalize ((((w5.setCell ⟨fb, 0, none⟩ (.int .i64 (a : Int))).setCell ⟨fb, 1, none⟩ (.int .i64 (b : Int))).setCell ⟨fb, 2, none⟩ (.int .i64 (d : Int))).setCell ⟨fb, 3, none⟩ (.slice Af n cf)) = W6 at TF RF yF yG yT FC TB HR RAi HBW ⊢
        obtain ⟨l0, l1, l2, l3⟩ := FC.out
        go_upto_region 16 with (go_at_call 14; (refine (HBK.out _ RAi.out).mono ?_); rintro e w6 ⟨v6, rfl, ho6, hb⟩; (obtain ⟨A6, c6, rfl, -, -, hrd6⟩ := Kit.own_rd ho6); (have RA6 := Lib.hid hrd6); (replace FC := Lib.hid (FC.out.below yG hb)); (replace TF := Lib.hid (TF.out.below yF hb)); (replace TB := Lib.hid (TB.out.below yT hb)); (replace HR := Lib.hid ((HR.out.below hb).more hb.size)); (replace RF := Lib.hid ((RF.out.below hb).more hb.size)); (replace RAi := Lib.hid ((RAi.out.below hb).more hb.size)); (replace HBW := Lib.hid (HBW.out.trans (hb.mono HBW.out.size))); (replace yG := Nat.lt_of_lt_of_le yG hb.size); (replace yF := Nat.lt_of_lt_of_le yF hb.size); (replace yT := Nat.lt_of_lt_of_le yT hb.size); clear ho6 hrd6 hb l0 l1 l2 l3)
        have hal6 : Below w6.heap.size w6 (w6.alloc (.cells #[.int .i64 (a : Int), .int .i64 (b : Int), .int .i64 (d : Int), .slice A6 n c6] 26)) := (Below.refl _ _).alloc (Nat.le_refl _) _
        have hd6 : Below (w6.alloc (.cells #[.int .i64 (a : Int), .int .i64 (b : Int), .int .i64 (d : Int), .slice A6 n c6] 26)).heap.size (w6.alloc (.cells #[.int .i64 (a : Int), .int .i64 (b : Int), .int .i64 (d : Int), .slice A6 n c6] 26)) (w6.alloc (.cells #[.int .i64 (a : Int), .int .i64 (b : Int), .int .i64 (d : Int), .slice A6 n c6] 26)).drew := (Below.refl _ _).drew
        have hal7 : Below w6.heap.size w6 (w6.alloc (.cells #[.int .i64 (a : Int), .int .i64 (b : Int), .int .i64 (d : Int), .slice A6 n c6] 26)).drew := hal6.trans (hd6.mono hal6.size)
        have TK := Lib.hid (boxT (a : Int) b d A6 n c6 26 w6)
        have yK : w6.heap.size < (w6.alloc (.cells #[.int .i64 (a : Int), .int .i64 (b : Int), .int .i64 (d : Int), .slice A6 n c6] 26)).drew.heap.size := by show w6.heap.size < (w6.alloc (.cells #[.int .i64 (a : Int), .int .i64 (b : Int), .int .i64 (d : Int), .slice A6 n c6] 26)).heap.size; simp
        have hSt := And.intro (FC.out.below yG hal6) (And.intro (TF.out.below yF hal6) (And.intro TK.out (TB.out.below yT hal6)))
        replace HR := Lib.hid ((HR.out.below hal7).more hal7.size)
        replace RF := Lib.hid ((RF.out.below hal7).more hal7.size)
        replace RAi := Lib.hid ((RAi.out.below hal7).more hal7.size)
        replace RA6 := Lib.hid ((RA6.out.below hal7).more hal7.size)
        replace HBW := Lib.hid (HBW.out.trans (hal7.mono HBW.out.size))
        replace yG := Nat.lt_of_lt_of_le yG hal7.size
        replace yF := Nat.lt_of_lt_of_le yF hal7.size
        replace yT := Nat.lt_of_lt_of_le yT hal7.size
        obtain ⟨kb, hkb⟩ : ∃ kb, w6.heap.size = kb := ⟨_, rfl⟩
        clear hal6 hd6 hal7 TK FC TF TB
        simp only [hkb] at hSt yK ⊢
        clear hkb
        refine wp_region_held_drew (S := (fun w' => FourC g2 (i * 4) (PF i) (QF i) d (As i) n (cs i) w' ∧ BoxAt fb (a : Int) b d Af n cf w' ∧ BoxAt kb (a : Int) b d A6 n c6 w' ∧ BoxAt w.heap.size (a : Int) b d A n c w')) (by kernel_rfl) hSt (fun hHeld => ?_)
        clear hSt
        generalize (w6.alloc (.cells #[.int .i64 (a : Int), .int .i64 (b : Int), .int .i64 (d : Int), .slice A6 n c6] 26)).drew = W7 at HR RF RAi RA6 HBW yG yF yT yK hHeld ⊢
        refine wpAnyH_take (i := 0) (oi := ({ dst := some 76, op := Op.move (Operand.tmp 5), type := 39, pos := "law.go:63", after := #[], guard := none } : Oper)) (v := ?_) rfl (by kernel_rfl) (by kernel_rfl) (by kernel_rfl) (fun _ _ _ h => h) (Or.inl ⟨by rfl, ?_⟩) (by assumption) ?_
        rotate_left
        · intro wS hSw
          first
            | (go_simp; done)
            | (go_simp; with_reducible rfl)
        try simp only [Act.put, List.setIfInBounds_toArray, List.set_cons_zero, List.set_cons_succ]
        refine wpAnyH_take (i := 1) (oi := ({ dst := some 77, op := Op.move (Operand.tmp 9), type := 3, pos := "law.go:63", after := #[], guard := none } : Oper)) (v := ?_) rfl (by kernel_rfl) (by kernel_rfl) (by kernel_rfl) (fun _ _ _ h => h) (Or.inl ⟨by rfl, ?_⟩) (by assumption) ?_
        rotate_left
        · intro wS hSw
          first
            | (go_simp; done)
            | (go_simp; with_reducible rfl)
        try simp only [Act.put, List.setIfInBounds_toArray, List.set_cons_zero, List.set_cons_succ]
        refine wpAnyH_take (i := 2) (oi := ({ dst := some 78, op := Op.indexAddr 39 (Operand.tmp 76) (Operand.tmp 77), type := 0, pos := "law.go:63", after := #[{ on := 0, ground := Ground.data }, { on := 1, ground := Ground.data }], guard := none } : Oper)) (v := ?_) rfl (by kernel_rfl) (by kernel_rfl) (by kernel_rfl) (fun _ _ _ h => h) (Or.inl ⟨by rfl, ?_⟩) (by assumption) ?_
        rotate_left
        · intro wS hSw
          first
            | (go_simp; done)
            | (go_simp; with_reducible rfl)
        try simp only [Act.put, List.setIfInBounds_toArray, List.set_cons_zero, List.set_cons_succ]
        refine wpAnyH_take (i := 3) (oi := ({ dst := some 79, op := Op.load 26 (Operand.tmp 78), type := 26, pos := "law.go:63", after := #[{ on := 2, ground := Ground.data }], guard := none } : Oper)) (v := ?_) rfl (by kernel_rfl) (by kernel_rfl) (by kernel_rfl) (fun _ _ _ h => h) (Or.inl ⟨by rfl, ?_⟩) (by assumption) ?_
        rotate_left
        · intro wS hSw
          obtain ⟨⟨q0, q1, q2, q3⟩, -, -, -⟩ := hSw
          first
            | (go_simp; done)
            | (go_simp; with_reducible rfl)
        try simp only [Act.put, List.setIfInBounds_toArray, List.set_cons_zero, List.set_cons_succ]
        refine wpAnyH_take (i := 4) (oi := ({ dst := some 80, op := Op.load 26 (Operand.tmp 10), type := 26, pos := "law.go:63", after := #[], guard := none } : Oper)) (v := ?_) rfl (by kernel_rfl) (by kernel_rfl) (by kernel_rfl) (fun _ _ _ h => h) (Or.inl ⟨by rfl, ?_⟩) (by assumption) ?_
        rotate_left
        · intro wS hSw
          obtain ⟨-, ⟨q0, q1, q2, q3⟩, -, -⟩ := hSw
          first
            | (go_simp; done)
            | (go_simp; with_reducible rfl)
        try simp only [Act.put, List.setIfInBounds_toArray, List.set_cons_zero, List.set_cons_succ]
        refine wpAnyH_take (i := 5) (oi := ({ dst := some 81, op := Op.move (Operand.tmp 9), type := 3, pos := "law.go:63", after := #[], guard := none } : Oper)) (v := ?_) rfl (by kernel_rfl) (by kernel_rfl) (by kernel_rfl) (fun _ _ _ h => h) (Or.inl ⟨by rfl, ?_⟩) (by assumption) ?_
        rotate_left
        · intro wS hSw
          first
            | (go_simp; done)
            | (go_simp; with_reducible rfl)
        try simp only [Act.put, List.setIfInBounds_toArray, List.set_cons_zero, List.set_cons_succ]
        refine wpAnyH_ready (rs := [6]) (by kernel_rfl) (by simp) ?_
        refine AllReadyH.cons (o := ({ dst := some 82, op := Op.call { callee := Callee.value (Operand.func 11), args := #[Operand.tmp 80, Operand.tmp 81], argTypes := #[26, 3] }, type := 26, pos := "law.go:63", after := #[{ on := 4, ground := Ground.data }, { on := 5, ground := Ground.data }], guard := none } : Oper)) rfl (fun Kq hK => ?_) (AllReadyH.nil)
        go_simp
        go_at_call 11
        refine (HRB.out Af cf _ RF.out).mono ?_
        rintro e W8 ⟨A8, c8, rfl, hrd8, hb3⟩
        have RA8 := Lib.hid hrd8
        clear hrd8
        have hS1 := And.intro (hHeld.1.below yG hb3) (And.intro (hHeld.2.1.below yF hb3) (And.intro (hHeld.2.2.1.below yK hb3) (hHeld.2.2.2.below yT hb3)))
        replace HR := Lib.hid ((HR.out.below hb3).more hb3.size)
        replace RAi := Lib.hid ((RAi.out.below hb3).more hb3.size)
        replace RA6 := Lib.hid ((RA6.out.below hb3).more hb3.size)
        replace yG := Nat.lt_of_lt_of_le yG hb3.size
        replace yF := Nat.lt_of_lt_of_le yF hb3.size
        replace yK := Nat.lt_of_lt_of_le yK hb3.size
        replace yT := Nat.lt_of_lt_of_le yT hb3.size
        replace HBW := Lib.hid (HBW.out.trans (hb3.mono HBW.out.size))
        clear hb3 hHeld
        try dsimp only
        refine hK.out _ _ ?_ (fun hHeld => ?_)
        · exact hS1
        clear hK Kq
        try simp only [Act.put, List.setIfInBounds_toArray, List.set_cons_zero, List.set_cons_succ]
        refine wpAnyH_ready (rs := [7]) (by kernel_rfl) (by simp) ?_
        refine AllReadyH.cons (o := ({ dst := some 83, op := Op.call { callee := Callee.value (Operand.func 10), args := #[Operand.tmp 79, Operand.tmp 82], argTypes := #[26, 26] }, type := 4, pos := "law.go:63", after := #[{ on := 3, ground := Ground.data }, { on := 6, ground := Ground.data }, { on := 6, ground := Ground.chain }], guard := none } : Oper)) rfl (fun Kq hK => ?_) (AllReadyH.nil)
        go_simp
        go_at_call 10
        refine (HSMI.out (As i) A8 (cs i) c8 _ RAi.out RA8.out).mono ?_
        rintro e W9 ⟨rfl, hb3⟩
        have hS1 := And.intro (hHeld.1.below yG hb3) (And.intro (hHeld.2.1.below yF hb3) (And.intro (hHeld.2.2.1.below yK hb3) (hHeld.2.2.2.below yT hb3)))
        replace HR := Lib.hid ((HR.out.below hb3).more hb3.size)
        replace RA6 := Lib.hid ((RA6.out.below hb3).more hb3.size)
        replace yG := Nat.lt_of_lt_of_le yG hb3.size
        replace yF := Nat.lt_of_lt_of_le yF hb3.size
        replace yK := Nat.lt_of_lt_of_le yK hb3.size
        replace yT := Nat.lt_of_lt_of_le yT hb3.size
        replace HBW := Lib.hid (HBW.out.trans (hb3.mono HBW.out.size))
        clear hb3 hHeld
        try dsimp only
        refine hK.out _ _ ?_ (fun hHeld => ?_)
        · exact hS1
        clear hK Kq
        try simp only [Act.put, List.setIfInBounds_toArray, List.set_cons_zero, List.set_cons_succ]
        refine wpAnyH_take (i := 8) (oi := ({ dst := some 84, op := Op.unOp UnOp.not 4 (Operand.tmp 83), type := 4, pos := "law.go:63", after := #[{ on := 7, ground := Ground.data }], guard := none } : Oper)) (v := ?_) rfl (by kernel_rfl) (by kernel_rfl) (by kernel_rfl) (fun _ _ _ h => h) (Or.inl ⟨by rfl, ?_⟩) (by assumption) ?_
        rotate_left
        · intro wS hSw
          first
            | (go_simp; done)
            | (go_simp; with_reducible rfl)
        try simp only [Act.put, List.setIfInBounds_toArray, List.set_cons_zero, List.set_cons_succ]
        refine wpAnyH_take (i := 9) (oi := ({ dst := some 85, op := Op.move (Operand.tmp 84), type := 4, pos := "law.go:63", after := #[{ on := 8, ground := Ground.data }, { on := 7, ground := Ground.chain }], guard := none } : Oper)) (v := ?_) rfl (by kernel_rfl) (by kernel_rfl) (by kernel_rfl) (fun _ _ _ h => h) (Or.inl ⟨by rfl, ?_⟩) (by assumption) ?_
        rotate_left
        · intro wS hSw
          first
            | (go_simp; done)
            | (go_simp; with_reducible rfl)
        try simp only [Act.put, List.setIfInBounds_toArray, List.set_cons_zero, List.set_cons_succ]
        refine wpAnyH_take (i := 10) (oi := ({ dst := some 86, op := Op.move (Operand.tmp 12), type := 28, pos := "law.go:63", after := #[{ on := 9, ground := Ground.guard }], guard := some (9, false) } : Oper)) (v := ?_) rfl (by kernel_rfl) (by kernel_rfl) (by kernel_rfl) (fun _ _ _ h => h) (Or.inl ⟨by rfl, ?_⟩) (by assumption) ?_
        rotate_left
        · intro wS hSw
          first
            | (go_simp; done)
            | (go_simp; with_reducible rfl)
        try simp only [Act.put, List.setIfInBounds_toArray, List.set_cons_zero, List.set_cons_succ]
        refine wpAnyH_take (i := 11) (oi := ({ dst := some 87, op := Op.binOp BinOp.neq 28 (Operand.tmp 86) (Operand.const (Value.int IntKind.i64 0)) 28, type := 4, pos := "law.go:63", after := #[{ on := 10, ground := Ground.data }, { on := 9, ground := Ground.guard }], guard := some (9, false) } : Oper)) (v := ?_) rfl (by kernel_rfl) (by kernel_rfl) (by kernel_rfl) (fun _ _ _ h => h) (Or.inl ⟨by rfl, ?_⟩) (by assumption) ?_
        rotate_left
        · intro wS hSw
          first
            | (go_simp; done)
            | (go_simp; with_reducible rfl)
        try simp only [Act.put, List.setIfInBounds_toArray, List.set_cons_zero, List.set_cons_succ]
        refine wpAnyH_take (i := 12) (oi := ({ dst := some 88, op := Op.pick (Operand.tmp 85) (Operand.const (Value.bool true)) (Operand.tmp 87), type := 4, pos := "law.go:63", after := #[{ on := 9, ground := Ground.data }, { on := 11, ground := Ground.data }], guard := none } : Oper)) (v := ?_) rfl (by kernel_rfl) (by kernel_rfl) (by kernel_rfl) (fun _ _ _ h => h) (Or.inl ⟨by rfl, ?_⟩) (by assumption) ?_
        rotate_left
        · intro wS hSw
          first
            | (go_simp; done)
            | (go_simp; with_reducible rfl)
        try simp only [Act.put, List.setIfInBounds_toArray, List.set_cons_zero, List.set_cons_succ]
        refine wpAnyH_take (i := 13) (oi := ({ dst := some 89, op := Op.move (Operand.tmp 88), type := 4, pos := "law.go:63", after := #[{ on := 12, ground := Ground.data }, { on := 9, ground := Ground.chain }], guard := none } : Oper)) (v := ?_) rfl (by kernel_rfl) (by kernel_rfl) (by kernel_rfl) (fun _ _ _ h => h) (Or.inl ⟨by rfl, ?_⟩) (by assumption) ?_
        rotate_left
        · intro wS hSw
          first
            | (go_simp; done)
            | (go_simp; with_reducible rfl)
        try simp only [Act.put, List.setIfInBounds_toArray, List.set_cons_zero, List.set_cons_succ]
        refine wpAnyH_take (i := 14) (oi := ({ dst := some 90, op := Op.load 26 (Operand.tmp 11), type := 26, pos := "law.go:63", after := #[{ on := 13, ground := Ground.guard }], guard := some (13, false) } : Oper)) (v := ?_) rfl (by kernel_rfl) (by kernel_rfl) (by kernel_rfl) (fun _ _ _ h => h) (Or.inl ⟨by rfl, ?_⟩) (by assumption) ?_
        rotate_left
        · intro wS hSw
          obtain ⟨-, -, ⟨q0, q1, q2, q3⟩, -⟩ := hSw
          first
            | (go_simp; done)
            | (go_simp; with_reducible rfl)
        try simp only [Act.put, List.setIfInBounds_toArray, List.set_cons_zero, List.set_cons_succ]
        refine wpAnyH_take (i := 15) (oi := ({ dst := some 91, op := Op.load 26 (Operand.tmp 2), type := 26, pos := "law.go:63", after := #[{ on := 13, ground := Ground.guard }], guard := some (13, false) } : Oper)) (v := ?_) rfl (by kernel_rfl) (by kernel_rfl) (by kernel_rfl) (fun _ _ _ h => h) (Or.inl ⟨by rfl, ?_⟩) (by assumption) ?_
        rotate_left
        · intro wS hSw
          obtain ⟨-, -, -, ⟨q0, q1, q2, q3⟩⟩ := hSw
          first
            | (go_simp; done)
            | (go_simp; with_reducible rfl)
        try simp only [Act.put, List.setIfInBounds_toArray, List.set_cons_zero, List.set_cons_succ]
        refine wpAnyH_ready (rs := [16]) (by kernel_rfl) (by simp) ?_
        refine AllReadyH.cons (o := ({ dst := some 92, op := Op.call { callee := Callee.value (Operand.func 10), args := #[Operand.tmp 90, Operand.tmp 91], argTypes := #[26, 26] }, type := 4, pos := "law.go:63", after := #[{ on := 14, ground := Ground.data }, { on := 15, ground := Ground.data }, { on := 13, ground := Ground.chain }, { on := 13, ground := Ground.guard }], guard := some (13, false) } : Oper)) rfl (fun Kq hK => ?_) (AllReadyH.nil)
        go_simp
        go_at_call 10
        refine (HSMZ.out A6 A c6 c _ RA6.out HR.out).mono ?_
        rintro e W10 ⟨rfl, hb3⟩
        have hS1 := And.intro (hHeld.1.below yG hb3) (And.intro (hHeld.2.1.below yF hb3) (And.intro (hHeld.2.2.1.below yK hb3) (hHeld.2.2.2.below yT hb3)))
        replace yG := Nat.lt_of_lt_of_le yG hb3.size
        replace yF := Nat.lt_of_lt_of_le yF hb3.size
        replace yK := Nat.lt_of_lt_of_le yK hb3.size
        replace yT := Nat.lt_of_lt_of_le yT hb3.size
        replace HBW := Lib.hid (HBW.out.trans (hb3.mono HBW.out.size))
        clear hb3 hHeld
        try dsimp only
        refine hK.out _ _ ?_ (fun hHeld => ?_)
        · exact hS1
        clear hK Kq
        try simp only [Act.put, List.setIfInBounds_toArray, List.set_cons_zero, List.set_cons_succ]
        refine wpAnyH_take (i := 17) (oi := ({ dst := some 93, op := Op.unOp UnOp.not 4 (Operand.tmp 92), type := 4, pos := "law.go:63", after := #[{ on := 16, ground := Ground.data }, { on := 13, ground := Ground.guard }], guard := some (13, false) } : Oper)) (v := ?_) rfl (by kernel_rfl) (by kernel_rfl) (by kernel_rfl) (fun _ _ _ h => h) (Or.inl ⟨by rfl, ?_⟩) (by assumption) ?_
        rotate_left
        · intro wS hSw
          first
            | (go_simp; done)
            | (go_simp; with_reducible rfl)
        try simp only [Act.put, List.setIfInBounds_toArray, List.set_cons_zero, List.set_cons_succ]
        refine wpAnyH_take (i := 18) (oi := ({ dst := some 94, op := Op.pick (Operand.tmp 89) (Operand.const (Value.bool true)) (Operand.tmp 93), type := 4, pos := "law.go:63", after := #[{ on := 13, ground := Ground.data }, { on := 17, ground := Ground.data }], guard := none } : Oper)) (v := ?_) rfl (by kernel_rfl) (by kernel_rfl) (by kernel_rfl) (fun _ _ _ h => h) (Or.inl ⟨by rfl, ?_⟩) (by assumption) ?_
        rotate_left
        · intro wS hSw
          first
            | (go_simp; done)
            | (go_simp; with_reducible rfl)
        try simp only [Act.put, List.setIfInBounds_toArray, List.set_cons_zero, List.set_cons_succ]
        refine wpAnyH_done (by kernel_rfl) ?_ _
        clear hHeld
        go_wp2_with fail
        go_roundw
        case rel => exact ⟨i + 1, by omega, by go_num, HBW⟩
        case measure => simp [intOf]; omega
    · obtain rfl : i = 8 := by omega
      replace TB := Lib.hid (TB.out.below yTB3.out HBW.out)
      replace TU := Lib.hid (TU.out.below yTU3.out HBW.out)
      have yU : w2.heap.size < wr.heap.size := Nat.lt_of_lt_of_le yTU3.out HBW.out.size
      have HBE := Lib.hid (HB3.out.trans (HBW.out.mono HB3.out.size))
      obtain ⟨u0, u1, u2, u3⟩ := TU.out
      have hV3 : ¬ p < 8 := by omega
      have hV4 : p ≥ 0 := by omega
      go_wp2_with (first
        | (go_at_call 10; (refine (refSame_00 _).mono ?_); rintro e w8 ⟨rfl, hb⟩; (replace HBE := Lib.hid (HBE.out.trans (hb.mono HBE.out.size))); clear hb)
        | (go_at_call 6; (refine (known23 _).mono ?_); rintro e w9 ⟨rfl, hb⟩; (replace HBE := Lib.hid (HBE.out.trans (hb.mono HBE.out.size))); clear hb))
      go_ret
      exact ⟨rfl, HBE.out⟩
theorem walk {w : World} (H : Int) (wH : (Lit.int .i64 H).wf = true) (W : Int) (wW : (Lit.int .i64 W).wf = true) (C : Int) (wC : (Lit.int .i64 C).wf = true) (A : Option Addr) (zs : List Int) (c : Nat) (hc : zs.length ≤ c) (hm : c ≤ maxLen) (hw : ∀ n ∈ zs, (Lit.int .i8 n).wf = true) (hr : Kit.Rd w w.heap.size A (zs.map (.int .i8)))
    (p : Int) (wp : (Lit.int .i64 p).wf = true) :
    Calls Try.prog 5 #[.agg #[.int .i64 H, .int .i64 W, .int .i64 C, .slice A zs.length c], .int .i64 p] w fun e w' => e = .returned (.bool true) ∧ Below w.heap.size w w' := by
  have ⟨p1, p2⟩ : -9223372036854775808 ≤ p ∧ p ≤ 9223372036854775807 := by simpa [Lit.wf, IntKind.min, IntKind.max, IntKind.signed, IntKind.bits] using wp
  by_cases hl : 1024 < zs.length
  · exact walk_long H W C A _ c hl p
  · cases ht : tensB H W C zs.length
    · exact walk_bad H W C A _ c (by omega) p ht
    · obtain ⟨a, b, d, rfl, rfl, rfl⟩ := tens_cast ht
      by_cases h1 : p < 0
      · exact walk_lo A zs c rfl hc (by omega) hr p ht h1
      · by_cases h2 : p < 8
        · exact walk_y A zs c rfl hc (by omega) hr p ht (by omega) h2
        · exact walk_hi A zs c rfl hc (by omega) hr p ht (by omega) p2
/-! ### the frame: written by program -/
theorem own : ownKnob Try.prog.godebug = none := by kernel_rfl
theorem laid : laidOutB Try.prog = true := by kernel_rfl
theorem contract {H : Type} {enc : TypeId × Value → H} {W : World} {base : Nat} {args : Array Value} {ds gs : List (DataW H)} {before : List MemPlace}
    (hval0 : ∀ (j : Nat) t v, Try.f5.params[j]? = some t → args[j]? = some v → Value.okWide Try.prog W .any base t v)
    (hW : DataW.Whole enc Try.prog Try.f5.params.toList Rows.turnViewsSpec.vars false W args.toList ds gs before) :
    Calls Try.prog 5 args W fun e W' => e = .returned (.bool true) ∧ Below W.heap.size W W' := by
  have hval : ∀ (j : Nat) t v, Try.f5.params[j]? = some t → args[j]? = some v → Value.okWide Try.prog W .any base t v := hval0
  obtain ⟨p, q, hA0, hV, rfl, hfz, hnd⟩ := hW
  have hA : DataW.TrodAll enc Try.prog W 0 (fun _ => true) true Try.f5.params.toList args.toList ds p := hA0
  rw [Try.params5] at hA hval
  obtain ⟨v0, vs0, d0, ds0, p0, q0, hargs, rfl, rfl, h0, r0⟩ := trodAll_cons hA
  obtain ⟨v1, vs1, d1, ds1, p1, q1, rfl, rfl, rfl, h1, r1⟩ := trodAll_cons r0
  obtain ⟨rfl, rfl, rfl⟩ := trodAll_nil r1
  obtain rfl : args = #[v0, v1] := by cases args; simp_all
  clear hA0 hval0
  obtain ⟨x0, y0, t0, A0, z0, c0, rfl, wx0, wy0, wt0, hc0, hm0, hw0, hr0⟩ := Kit.open_tensor (s := 23) (d := 24) (e := 37) (i := 3) Try.underlying26 Try.underlying23 Try.underlying24 Try.underlying37 Try.underlying3 (by kernel_rfl) (by kernel_rfl) (by kernel_rfl) (by kernel_rfl) (by kernel_rfl) ⟨rfl, rfl, rfl, rfl⟩ ⟨rfl, rfl, rfl, rfl, rfl, rfl⟩ (hval 0 26 v0 rfl rfl) h0
  obtain ⟨a1, rfl, rfl, rfl, w1⟩ := open_int Try.underlying3 (hval 1 3 v1 rfl rfl) h1
  exact walk (w := W) x0 wx0 y0 wy0 t0 wt0 A0 z0 c0 hc0 hm0 hw0 hr0 a1 w1
theorem fnIs {H : Type} : ∀ ds : List (DataW H), ds.length = Try.f5.params.toList.length → Rows.turnViewsSpec.fn H ds = { results := [.lit (.bool true)], args := ds } := by
  intro ds h
  rw [Try.params5] at h
  match ds, h with
  | [d1, d2], _ => rfl
set_option maxRecDepth 100000 in
theorem lifted (os : Os) (started : os.Started) (H : Type) (enc : TypeId × Value → H) :
    ReturnsInHanded {} Try.checked os 5 .any (Rows.turnViewsSpec.pre6 enc Try.prog Try.f5 Rows.turnViewsRow.domain false) (Rows.turnViewsSpec.post enc Try.prog Try.f5 false true false false) := by
  refine returnsInHanded_of_change (C := Try.checked) own started (by kernel_rfl) Try.func5
    (ChangeSpec.witness6 (enc := enc) (C := Try.checked) false ⟨#[], #[.agg #[.int .i64 0, .int .i64 0, .int .i64 0, .slice none 0 0], .int .i64 0], []⟩ 8 (by kernel_rfl) (by kernel_rfl) (by kernel_rfl) (by kernel_rfl)) ?_
  intro W base args ds gs before hval hW _ _
  refine (contract hval hW).mono fun e W' ⟨he, hg⟩ => ?_
  subst he
  exact ⟨_, rfl, Kit.law_post (tb := 4) laid (by kernel_rfl) rfl (by kernel_rfl) Try.underlying4 fnIs hW hg⟩
theorem over : Rows.turnViewsRow.holds Try.pinned (OpenSpec.ofChange Rows.turnViewsSpec) :=
  OpenClaim.holds_of_wide 5 Try.f5 rfl rfl rfl rfl rfl rfl rfl ⟨rfl, rfl, rfl, rfl, rfl⟩ rfl rfl rfl rfl rfl (by kernel_rfl) Try.func5 (by kernel_rfl)
    (of_decide_eq_true (by kernel_rfl)) (by unfold Func.isWrapper; first | (rw [if_pos (by decide +kernel)]; kernel_rfl) | (rw [if_neg (by decide +kernel)]; exact ⟨rfl, rfl⟩))
    (fun os started H enc _ => lifted os started H enc)
/-- the statement. -/
theorem proved : Rows.TurnViewsSaid :=
  over
end Go.Proofs.Ytmjcjdgdpecpjaa.lawTurnViews
