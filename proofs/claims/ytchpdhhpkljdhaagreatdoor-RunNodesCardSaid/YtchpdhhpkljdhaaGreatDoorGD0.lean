/- -/
import Derived.Deep.AppendLies
import Derived.Lib.Hide
import Derived.Deep.Fields
import Derived.BigQuiet
import Derived.Deep.MidRow
import Derived.Laws.ComplexArith
import Derived.Handy
import Derived.Deep.RegionHeld
import Derived.Deep.RegionHeld3
import Derived.Deep.CutRange
import Derived.Handy
set_option linter.unusedVariables false
namespace Go.Proofs
theorem Z0 {p:Prop} (h:p:=by
 first | (go_simp;done) | (go_simp;with_reducible rfl)
):p:=h
theorem Z1 {p:Prop} (h:p:=by
 refine bodyPost_ret (Kit.zaa rfl _ _ (w.heap.size+2) 0 [Jj Jq 0,Jj Jq 0,Jj Jq 0] _ rfl (Kit.za3 Zb6 Zb6 Zb6) Tryz.underlying30 rfl Zb5) rfl ?_
 exact Z40
):p:=h
theorem Z2 {p:Prop} (h:p:=by
 exact Z40
):p:=h
theorem Z3 {p:Prop} (h:p:=by
 rw [zby F (o+k) x HXX.out] at hown5
 have hS1:BoxAt w.heap.size H W C A n c _∧zae (w.heap.size+1) x0 x1 x2 x8 x11 x12 x13 x14 x15 x16 x17 x18 K S P O Z WA (some ⟨bb,ob,none⟩) nW cW nB cB _:=⟨hHeld.1.below (B':=_) Zb3 hb5,hHeld.2.below (B':=_) Zb3 hb5⟩
 replace HBW:=hid (HBW.out.trans (hb5.mono Zb3))
 replace hA3:=hid (hA3.out.below h63 Zb3 hb5)
 replace hT3:=hid (hT3.out.below Zb3 hb5)
 replace hW3:=hid (hown5)
 replace hsz:=Nat.le_trans hsz hb5.size
 clear hHeld ov3 ovf
 obtain⟨-, -, -,ov3,ovf⟩:=hT3.out
 clear hown5 hg5 hb5 HXR
 dsimp only
 refine hK.out _ _ ?_ (fun hHeld=>?_)
 ·exact hS1
 clear hK Kq
 refine Z5y ?_
 refine Za5 ?_
 refine Z5y ?_
 have hb9:Below (g6+1) w5 (w5.setCell ⟨g6+1,3,none⟩ (.slice A5 (o+k+1) c5)):=(Below.refl _ _).setCell (p:=⟨g6+1,3,none⟩) (le_refl _) _
 have hA4:=hid (hA3.out.below h63 (lt_succ_self _) hb9)
 have hT4:=hid (hT3.out.store (.slice A5 (o+k+1) c5))
 have hW4:=hid (zat hW3.out ⟨g6+1,3,none⟩ (.slice A5 (o+k+1) c5) Zb7)
 have hz4:g6+2≤(w5.setCell ⟨g6+1,3,none⟩ (.slice A5 (o+k+1) c5)).heap.size:=by simpa using hsz
 refine Tk.s 12 rfl (fun Kq hK=>?_)
 go_simp
 refine hK.out _ _ ?_ (fun hHeld=>?_)
 ·exact⟨hA4.out.1,hA4.out.2.1⟩
 clear hK Kq
 refine Z5y ?_
 refine Z6y ?_
 clear hHeld hcv ov3 ovf hA3 hT3 hW3 hsz hb9
 go_wp2_with fail
 exact Z4t
):p:=h
theorem Z4 {p:Prop} (h:p:=by
 have HT1:=hid h1
 have HT2:=hid h1
 clear h1
 have HE:=zb9 H W C H W C
 have hg:=Tryz.eqGuardType30
 have HR1:=hid hr1
 have HR2:=hid hr2
 clear hr1 hr2
 go_enter Tryz.func24,Tryz.ntmps24
 go_wp2_with (first
 | (go_at_call 22
    have hchk:=HBW
    clear hchk
    refine Z72 ?_;intro hal
    refine (zal H W C B n d true HT2.out _).mono ?_
    rintro e w2 ⟨rfl,hb⟩
    refine Z6r ?_;intro hh
    refine Z78 ?_;try clear TA yTA;intro TA yTA
    refine Z60 ?_;try clear TB yTB TN yTN FR yFR;intro TB yTB TN yTN FR yFR
    refine Z74 ?_;try clear HBW;intro HBW
    clear tap0 tap1 tap2 tap3 tbp0 tbp1 tbp2 tbp3 n11 n12 n13 n14 n15 n16
    refine Z7q ?_;intro tap0 tap1 tap2 tap3 tbp0 tbp1 tbp2 tbp3
    refine Z6e ?_;intro n11 n12 n13 n14 n15 n16
    clear hb hh hal)
 | (go_at_call 22
    refine Z6z ?_;intro hal
    refine (zal H W C A n c true HT1.out _).mono ?_
    rintro e w1 ⟨rfl,hb⟩
    refine Z66 ?_;intro hh TA yTA TB yTB TN yTN FR yFR HBW
    refine Z7q ?_;intro tap0 tap1 tap2 tap3 tbp0 tbp1 tbp2 tbp3
    refine Z6e ?_;intro n11 n12 n13 n14 n15 n16
    clear hb hh hal)
 | (go_at_call 64
    have hal:Below w2.heap.size w2 w2:=Below.refl _ _
    refine (za8 _ _ _ _).mono ?_
    rintro e w3 ⟨rfl,hb⟩
    refine Z8c ?_;intro hh
    refine Z78 ?_;try clear TA yTA;intro TA yTA
    refine Z60 ?_;try clear TB yTB TN yTN FR yFR;intro TB yTB TN yTN FR yFR
    refine Z74 ?_;try clear HBW;intro HBW
    clear tap0 tap1 tap2 tap3 tbp0 tbp1 tbp2 tbp3 n11 n12 n13 n14 n15 n16
    rw [HR1.out]
    have hchk3:=True.intro
    obtain⟨⟨z0,z1,z2,z3⟩,z4,z5,z6,z7⟩:=FR.out
    refine Z7q ?_;intro tap0 tap1 tap2 tap3 tbp0 tbp1 tbp2 tbp3
    refine Z6e ?_;intro n11 n12 n13 n14 n15 n16
    clear hb hh hal))
 refine bodyPost_ret (Kit.zaa rfl _ _ (w.heap.size+3) 0 [Jj Jq 0,Jj Jq 0,Jj Jq 0,.slice none 0 0] _ rfl (zao Zb6 Zb6 Zb6 Zb6) Tryz.underlying32 rfl Zb5) rfl ?_
 exact Z4h
):p:=h
theorem Z5 {p:Prop} (h:p:=by
 refine bodyPost_ret (Kit.zaa rfl _ _ (w.heap.size+3) 0 [Jj Jq r.X,Jj Jq r.Y,Jj Jq r.U,.slice A2 r.m c2] _ rfl (zba Zb6 Zb6 Zb6 Zb6) Tryz.underlying32 rfl Zb5) rfl ?_
 refine⟨_,rfl,Kit.zah (za0 HO.out HZO.out) Zb3,?_⟩
 exact Z3p
):p:=h
theorem Z6 {p:Prop} (h:p:=by
 exact Z3p
):p:=h
theorem Z7 {p:Prop} (h:p:=by
 refine Z5y ?_
 refine Tk.x 14 rfl ?_
 refine Z5y ?_
 refine Tk.x 15 rfl ?_
 refine Z5y ?_
 refine Tk.t 16 (v:=undef) rfl (Or.inr ⟨by rfl,rfl⟩) Zbd ?_
 refine Z5y ?_
 refine Tk.t 17 (v:=undef) rfl (Or.inr ⟨by rfl,rfl⟩) Zbd ?_
 refine Z5y ?_
 refine Tk.t 18 (v:=undef) rfl (Or.inr ⟨by rfl,rfl⟩) Zbd ?_
 refine Z5y ?_
 refine Tk.t 19 (v:=undef) rfl (Or.inr ⟨by rfl,rfl⟩) Zbd ?_
 refine Z5y ?_
 refine Tk.t 20 (v:=undef) rfl (Or.inr ⟨by rfl,rfl⟩) Zbd ?_
 refine Z5y ?_
 refine Tk.t 21 (v:=undef) rfl (Or.inr ⟨by rfl,rfl⟩) Zbd ?_
 refine Z5y ?_
 refine Tk.x 22 rfl ?_
 refine Z5y ?_
 refine Z6y ?_
 obtain⟨⟨z0,z1,z2⟩,z4,z5,z6⟩:=hFS.out
 obtain⟨f0,f1,f2⟩:=hTF.out
 exact Z44
):p:=h
theorem Z8 {p:Prop} (h:p:=by
 refine Zal ?_;intro hB1
 exact⟨_,rfl,World.ownsRow_nil _ _ _ _,(((hB1.setCell (p:=⟨w.heap.size+2,0,none⟩) Zb7 _).setCell (p:=⟨w.heap.size+2,1,none⟩) Zb7 _).setCell (p:=⟨w.heap.size+2,2,none⟩) Zb7 _).setCell (p:=⟨w.heap.size+2,3,none⟩) Zb7 _⟩
):p:=h
theorem Z9 {p:Prop} (h:p:=by
 exact Z44
):p:=h
theorem Za {p:Prop} (h:p:=by
 refine bodyPost_ret (Kit.zaa rfl _ _ (w.heap.size+2) 0 [Jj Jq r.X,Jj Jq r.Y,Jj Jq r.U,.slice A2 r.m c2] _ rfl (zba Zb6 Zb6 Zb6 Zb6) Tryz.underlying41 rfl Zb5) rfl ?_
 refine⟨_,rfl,Kit.zah (za0 HO.out HZO.out) Zb3,?_⟩
 exact Z4e
):p:=h
theorem Zb {p:Prop} (h:p:=by
 go_wp2_with (first
  | (go_at_call 45
     refine Z7a ?_;intro hal
     refine (HE.out _ ((HR.out.below hal).more hal.size)).mono ?_
     rintro e w1 ⟨v,rfl,ho,hb⟩
     refine Z5x ?_;intro hh TB yTB TN yTN
     refine Z84 ?_;intro qFR
     refine Z6c ?_;intro FR yFR
     clear qFR
     replace HR:=hid ((HR.out.below hh).more hh.size)
     refine Z71 ?_;intro HBW
     have HO:=hid ho
     obtain⟨A2,c2,rfl, -, -, -⟩:=Kit.zaj ho
     have hal9:=hal.size
     clear ho
     obtain⟨⟨z0,z1,z2,z3⟩,z4,z5,z6,z7⟩:=FR.out
     obtain⟨tbp0,tbp1,tbp2,tbp3⟩:=TB.out
     clear hb hh hal)
  | (refine wpList_load_mid rfl 28 (.tmp 3) rfl (w.heap.size+1) 0 rfl [x0,x1,x2,Jj Jq K,Jj Jq S,Jj Jq P,Jj Jq O,.int .i8 Z,x8,.slice WA nW cW,.slice BA nB cB,x11,x12,x13,x14,x15,x16,x17,x18] _ TN0.out Tryz.underlying28 rfl Zb5 ?_))
 simp only [World.size_alloc] at hal9
 refine bodyPost_ret (Kit.zaa rfl _ _ (w.heap.size+2) 0 [Jj Jq X,Jj Jq Y,Jj Jq U,.slice A2 m c2] _ rfl (zao Zb6 Zb6 Zb6 Zb6) Tryz.underlying32 rfl Zb5) rfl ?_
 refine⟨_,rfl,Kit.zah (za0 HO.out ?_) ?_,?_⟩
 any_goals (first | omega | (simp;done) | (simp;omega))
 exact (((HBW.out.setCell (p:=⟨w.heap.size+2,0,none⟩) Zb7 _).setCell (p:=⟨w.heap.size+2,1,none⟩) Zb7 _).setCell (p:=⟨w.heap.size+2,2,none⟩) Zb7 _).setCell (p:=⟨w.heap.size+2,3,none⟩) Zb7 _
):p:=h
theorem Zc {p:Prop} (h:p:=by
 go_enter Tryz.func3,Tryz.ntmps3
 go_wp2_with (first
  | (go_at_call 4
     refine Z8k ?_;intro hal
     refine (HF.out _).mono ?_
     rintro e w1 ⟨rfl,hb⟩
     refine Z6m ?_;intro hh
     refine Z79 ?_;intro TN yTN TA yTA TB yTB
     refine Z71 ?_;intro HBW
     refine Z7q ?_;intro tap0 tap1 tap2 tap3 tbp0 tbp1 tbp2 tbp3
     clear hb hh hal)
  | (go_at_call 5
     refine Z72 ?_;intro hal
     refine (known26 _ (HT.out.grown HBW.out)).mono ?_
     rintro e w2 ⟨rfl,hb⟩
     refine Z6r ?_;intro hh
     refine Z6j ?_;try clear TN yTN;intro TN yTN
     refine Z6l ?_;try clear TA yTA TB yTB;intro TA yTA TB yTB
     refine Z74 ?_;try clear HBW;intro HBW
     clear tap0 tap1 tap2 tap3 tbp0 tbp1 tbp2 tbp3
     refine Z7q ?_;intro tap0 tap1 tap2 tap3 tbp0 tbp1 tbp2 tbp3
     clear hb hh hal)
  | (refine za4 rfl _ rfl w.heap.size x rfl (show NdAt w.heap.size x _ from (NdAt.new x 28 w).below (B:=w.heap.size+1) Zb3 (((Below.refl _ _).alloc Zb7 _).alloc Zbj _)) ?_))
 go_ret
 exact⟨rfl,HBW.out⟩
):p:=h
theorem Zd {p:Prop} (h:p:=by
 exact (((HBW.out.setCell (p:=⟨w.heap.size+2,0,none⟩) Zb7 _).setCell (p:=⟨w.heap.size+2,1,none⟩) Zb7 _).setCell (p:=⟨w.heap.size+2,2,none⟩) Zb7 _).setCell (p:=⟨w.heap.size+2,3,none⟩) Zb7 _
):p:=h
theorem Ze {p:Prop} (h:p:=by
 refine Tk.s 6 rfl (fun Kq hK=>?_)
 refine Kit.zar _ rfl (.tmp 42) (.tmp 47) _ rfl g 22 i0 (.int .i8 0) 1 1 Tryz.underlying23 hi0 hi1 hi2 hi3 rfl Zbc _ pre.length (I8s (pre.map F)) rfl HR.out.2.1 _ _ 1 1 [.int .i8 R] rfl rfl HXR.out (Kit.za5 .i8 [R]) (by unfold maxLen;omega) Zb3 (HR.out.2.2.2.2.2) ?_
 intro v5 w5 hown5 hg5 _
 obtain⟨A5,c5,rfl, -, -, -⟩:=Kit.zaj hown5
 obtain⟨hbx,hrn⟩:=HR.out.grown hg5 hown5
 have hNA:zae (w.heap.size+2) x0 x1 x2 (.int .i8 Y) (.int .i32 m1) (Jj Jq s1) (.int .i8 z1) (.int .i32 m2) (Jj Jq s2) (.int .i8 z2) (.int .i8 lo) (.int .i8 hi) K S P O Z WA BA nW cW nB cB w5:=HN5.out.below hN5 (HR.out.2.2.1.grown hg5 HR.out.2.2.2.2.2 (Kit.zaq HR.out.2.1))
 have HRN:=hid hrn
 have hbc:=hbx.cell
 have hbf:=hbx.frozen
 clear hcv hHeld HR HXR hown5 hg5 hbx hrn
 dsimp only
 refine hK.out _ _ ?_ (fun hHeld=>?_)
 ·exact hNA
 clear hK Kq
 refine Z5y ?_
 clear hNA
 refine Tk.s 7 rfl (fun Kq hK=>?_)
 go_simp
 refine hK.out _ _ ?_ (fun hHeld=>?_)
 ·exact HN5.out.below hN5 HRN.out.2.2.1
 clear hK Kq
 refine Z5y ?_
 refine Z6y ?_
 simp only [Norm]
 clear hHeld hbc hbf
 gi_wp2
 exact⟨HRN.out.2.2.2.2.1.from _,⟨below_both HBK.out HRN.out.2.2.1 HRN.out.2.2.2.2.1.size,HRN.out.2.2.2.1.cell.trans hPW.out.cell.symm⟩,⟨_,HRN.out.1,by rw [List.map_append,List.length_append];simpa [I8s,HFX.out] using HRN.out.2.1,trivial⟩,HRN.out.2.2.1,HRN.out.2.2.2.1⟩
):p:=h
theorem Zf {p:Prop} (h:p:=by
 obtain⟨⟨z0,z1,z2,z3⟩,z4,z5,z6,z7⟩:=FR.out
 refine bodyPost_ret (Kit.zaa rfl _ _ (w.heap.size+2) 0 [Jj Jq 0,Jj Jq 0,Jj Jq 0,.slice none 0 0] _ rfl (zao Zb6 Zb6 Zb6 Zb6) Tryz.underlying41 rfl Zb5) rfl ?_
 exact Z48
):p:=h
theorem Zg {p:Prop} (h:p:=by
 refine Z5y ?_
 refine Tk.x 22 rfl ?_
 refine Z5y ?_
 refine Tk.x 23 rfl ?_
 refine Z5y ?_
 refine Tk.t 24 (v:=undef) rfl (Or.inr ⟨by rfl,by rfl⟩) Zbd ?_
 refine Z5y ?_
 refine Tk.t 25 (v:=undef) rfl (Or.inr ⟨by rfl,by rfl⟩) Zbd ?_
 refine Z5y ?_
 refine Tk.t 26 (v:=undef) rfl (Or.inr ⟨by rfl,by rfl⟩) Zbd ?_
 refine Z5y ?_
 refine Tk.t 27 (v:=undef) rfl (Or.inr ⟨by rfl,by rfl⟩) Zbd ?_
 refine Z5y ?_
 refine Tk.t 28 (v:=undef) rfl (Or.inr ⟨by rfl,by rfl⟩) Zbd ?_
 refine Z5y ?_
 exact Z3k
):p:=h
theorem Zh {p:Prop} (h:p:=by
 have HT:=hid (hS.out.step hx2)
 have HG:=hid (hF.out.set hlt x)
 have HR1:=hid (hR.out.other (g':=w.heap.size+1+1+1) (k:=k) x Zb3)
 have HU1:=hid (hU.out.other (g':=w.heap.size+1+1+1) (k:=k) x Zb3)
 have HV1:=hid (hV.out.other (g':=w.heap.size+1+1+1) (k:=k) x Zb3)
 have HB1:=hid (hBw.out.setCell (p:=⟨w.heap.size+1+1+1,k,none⟩) (by show w.heap.size≤w.heap.size+1+1+1;omega) x)
 obtain⟨xa,xb,rfl, -⟩:=hx2
 have hst:=st_c xa xb
 have c0:=hU.out.1 0 Zb3
 have c1:=hU.out.1 1 Zb3
 have c2:=hU.out.1 2 Zb3
 have c3:=hU.out.1 3 Zb3
 have d0:=hV.out.1 0 Zb3
 have d1:=hV.out.1 1 Zb3
 have d2:=hV.out.1 2 Zb3
 have d3:=hV.out.1 3 Zb3
 have e0:=hF.out.1 0 Zb3
 have e1:=hF.out.1 1 Zb3
 have e2:=hF.out.1 2 Zb3
 have e3:=hF.out.1 3 Zb3
 refine Zam ?_;intro f0 f1 f2 f3
 obtain rfl | rfl | rfl | rfl:=lt4 hlt
 all_goals go_wp2
 ·go_region_held3 (fun W=>W.cell? ⟨w.heap.size,0,none⟩=some (X 0)∧W.cell? ⟨w.heap.size+1,0,none⟩=some (Y 0)) (first | exact⟨HU1.out.1 0 Zb3,HV1.out.1 0 Zb3⟩ | (go_keep;done)) (fail)
  exact Z3s
 ·go_region_held3 (fun W=>W.cell? ⟨w.heap.size,1,none⟩=some (X 1)∧W.cell? ⟨w.heap.size+1,1,none⟩=some (Y 1)) (first | exact⟨HU1.out.1 1 Zb3,HV1.out.1 1 Zb3⟩ | (go_keep;done)) (fail)
  exact Z3s
 ·go_region_held3 (fun W=>W.cell? ⟨w.heap.size,2,none⟩=some (X 2)∧W.cell? ⟨w.heap.size+1,2,none⟩=some (Y 2)) (first | exact⟨HU1.out.1 2 Zb3,HV1.out.1 2 Zb3⟩ | (go_keep;done)) (fail)
  exact Z3s
 ·go_region_held3 (fun W=>W.cell? ⟨w.heap.size,3,none⟩=some (X 3)∧W.cell? ⟨w.heap.size+1,3,none⟩=some (Y 3)) (first | exact⟨HU1.out.1 3 Zb3,HV1.out.1 3 Zb3⟩ | (go_keep;done)) (fail)
  exact Z3s
):p:=h
theorem Zi {p:Prop} (h:p:=by
 exact Z4e
):p:=h
theorem Zj {p:Prop} (h:p:=by
 exact Z4h
):p:=h
theorem Zk {p:Prop} (h:p:=by
 exact Z48
):p:=h
theorem Zl {p:Prop} (h:p:=by
 rw [zcr F k x HFK.out] at hown5
 replace hA3:=hid (hA3.out.below h63 Zb3 hb5)
 replace hT3:=hid (hT3.out.below Zb3 hb5)
 replace hW3:=hid (hown5)
 replace hsz:=Nat.le_trans hsz hb5.size
 clear hHeld ov3 ovf
 obtain⟨-, -, -,ov3,ovf⟩:=hT3.out
 clear hown5 hg5 hb5 HXR
 dsimp only
 refine hK.out _ _ ?_ (fun hHeld=>?_)
 ·exact trivial
 clear hK Kq
 refine Z5y ?_
 refine Z9e ?_
 refine Z5y ?_
 refine Z8v ?_;intro hb9 hA4 hT4 hW4 hz4
 refine Tk.s 7 rfl (fun Kq hK=>?_)
 go_simp
 refine hK.out _ _ ?_ (fun hHeld=>?_)
 ·exact trivial
 clear hK Kq
 refine Z5y ?_
 refine Z6y ?_
 clear hHeld ov3 ovf hA3 hT3 hW3 hsz hb9
 go_wp2_with fail
 exact Z4t
):p:=h
theorem Zm {p:Prop} (h:p:=by
 rw [rowL_succ8j F k Rk HFX.out] at hown5
 replace HT0:=hid (HT0.out.below (B':=_) Zb3 hb5)
 replace HW0:=hid (hown5)
 replace HB0:=hid (HB0.out.trans (hb5.mono Zb3))
 replace hz:=Nat.le_trans hz hb5.size
 clear hHeld ov3 ovf
 obtain⟨-, -, -,ov3,ovf⟩:=HT0.out
 clear hown5 hg5 hb5 HXR
 dsimp only
 refine hK.out _ _ ?_ (fun hHeld=>?_)
 ·exact HS.out _ HB0.out
 clear hK Kq
 refine Z5y ?_
 refine Zak ?_
 refine Z5y ?_
 refine Z96 ?_;intro hb9 HT9 HW9 HB9 hz9
 refine Tk.s 17 rfl (fun Kq hK=>?_)
 exact Z4b
):p:=h
theorem Zn {p:Prop} (h:p:=by
 rw [rowL_succ8a F k Rk HFX.out] at hown5
 replace HT0:=hid (HT0.out.below (B':=_) Zb3 hb5)
 replace HW0:=hid (hown5)
 replace HB0:=hid (HB0.out.trans (hb5.mono Zb3))
 replace hz:=Nat.le_trans hz hb5.size
 clear hHeld ov3 ovf
 obtain⟨-, -, -,ov3,ovf⟩:=HT0.out
 clear hown5 hg5 hb5 HXR
 dsimp only
 refine hK.out _ _ ?_ (fun hHeld=>?_)
 ·exact HS.out _ HB0.out
 clear hK Kq
 refine Z5y ?_
 refine Za5 ?_
 refine Z5y ?_
 refine Z96 ?_;intro hb9 HT9 HW9 HB9 hz9
 refine Tk.s 12 rfl (fun Kq hK=>?_)
 exact Z4b
):p:=h
theorem Zo {p:Prop} (h:p:=by
 exact Z3k
):p:=h
theorem Zp {p:Prop} (h:p:=by
 rintro e V2 ⟨v3,rfl,ho3,hb1⟩
 obtain⟨A3,c3,rfl, -, -, -⟩:=Kit.zaj ho3
 have HO3:=hid ho3
 have HGE:Hid (w.heap.size≤V1.heap.size):=hid HBW.out.size
 have HGT:Hid (w.heap.size+2 < V1.heap.size):=hid yFR
 refine Z8g ?_;try clear FR TA TN HBW yFR;intro FR TA TN HBW yFR
 clear hHeld hb1 ho3
 dsimp only
 refine hK.out _ _ ?_ (fun hHeld=>?_)
 ·exact⟨TA.out,TN.out⟩
 clear hK Kq
 refine Z5y ?_
 refine Za5 ?_
 refine Z5y ?_
 obtain⟨⟨z0,z1',z2',z3⟩,z4,z5,z6,z7⟩:=FR.out
 have hb9:∀ x y z u:Value,Below (w.heap.size+2) V2 ((((V2.setCell ⟨w.heap.size+2,0,none⟩ x).setCell ⟨w.heap.size+2,1,none⟩ y).setCell ⟨w.heap.size+2,2,none⟩ z).setCell ⟨w.heap.size+2,3,none⟩ u):=fun x y z u=>(((((Below.refl _ _).setCell (p:=⟨w.heap.size+2,0,none⟩) (le_refl _) _).setCell (p:=⟨w.heap.size+2,1,none⟩) (le_refl _) _).setCell (p:=⟨w.heap.size+2,2,none⟩) (le_refl _) _).setCell (p:=⟨w.heap.size+2,3,none⟩) (le_refl _) _)
 have HB9:=hid hb9
 clear hb9
 refine Tk.s 12 rfl (fun Kq hK=>?_)
 go_simp
 refine hK.out _ _ ?_ (fun hHeld=>?_)
 ·exact⟨TA.out.below Zb3 (HB9.out _ _ _ _),TN.out.below Zb3 (HB9.out _ _ _ _)⟩
 clear hK Kq
 refine Z5y ?_
 refine Za6 ?_
 refine Z5y ?_
 refine Z6y ?_
 clear hHeld
 go_wp2_with fail
 refine bodyPost_ret (Kit.zaa rfl _ _ (w.heap.size+2) 0 [Jj Jq H,Jj Jq W,Jj Jq C,.slice A3 n c3] _ rfl (zao Zb6 Zb6 Zb6 Zb6) Tryz.underlying32 rfl Zb5) rfl ?_
 exact Z46
):p:=h
theorem Zq {p:Prop} (h:p:=by
 have hs1:wd.heap.size+1 < w1.heap.size:=by have:=hb.size;simp at this;omega
 have hB:Below wd.heap.size wd w1:=(((Below.refl _ _).alloc (le_refl _) _).alloc Zb7 _).trans (hb.mono Zba)
 exact Z4q
):p:=h
theorem Zr {p:Prop} (h:p:=by
 exact Z5o
):p:=h
theorem Zs {p:Prop} (h:p:=by
 have hS1:=hHeld.below (B':=_) Zb3 hb5
 rw [zby F (o+k) x HXX.out] at hown5
 replace HBW:=hid (HBW.out.trans (hb5.mono Zb3))
 replace HW2:=hid (HW2.out.below hb5)
 replace HO2:=hid hown5
 replace hz:=Nat.le_trans hz hb5.size
 clear hown5 hg5 hb5 hHeld h6 h7 HXR
 obtain⟨-, -, -,⟨-, -, -,h6,h7⟩, -, -⟩:=HW2.out
 dsimp only
 refine hK.out _ _ ?_ (fun hHeld=>?_)
 ·exact hS1
 clear hK K
 refine Z5y ?_
 refine Tk.x 14 rfl ?_
 refine Z5y ?_
 have HW3:=hid (HW2.out.store (.slice A5 (o+k+1) c5))
 have HO3:=hid (zat HO2.out ⟨w.heap.size+3,3,none⟩ (.slice A5 (o+k+1) c5) Zb7)
 refine Tk.s 15 rfl (fun K hK=>?_)
 go_simp
 refine hK.out _ _ ?_ (fun hHeld=>?_)
 ·exact HW3.out.2.1
 clear hK K
 refine Z5y ?_
 refine Z6y ?_
 clear h6 h7 HW2 HO2 hwi hwj
 go_wp2_with fail
 go_roundw
 case rel=>exact⟨k+1,_,by omega,by go_num,HW3,HO3⟩
 case measure=>simp [intOf];omega
):p:=h
theorem Zt {p:Prop} (h:p:=by
 have H1:=hid h1
 have H2:=hid h2
 clear h1 h2
 go_enter Tryz.func49,Tryz.ntmps49
 go_wp2_with (first
  | (go_at_call 42
     refine Z6s ?_;intro hal
     refine (zb0 _ _ _ _).mono ?_
     rintro e w1 ⟨rfl,hb⟩
     refine Z6i ?_;intro hh TN yTN HBW
     rw [H1.out]
     refine Z6v ?_;intro n14 n15 n16
     clear hb hh hal)
  | (go_at_call 42
     refine Z72 ?_;intro hal
     refine (zb0 _ _ _ _).mono ?_
     rintro e w2 ⟨rfl,hb⟩
     refine Z6r ?_;intro hh
     refine Z6j ?_;try clear TN yTN;intro TN yTN
     refine Z74 ?_;try clear HBW;intro HBW
     clear n14 n15 n16
     rw [H2.out]
     refine Z6v ?_;intro n14 n15 n16
     clear hb hh hal))
 go_ret
 exact⟨rfl,HBW.out⟩
):p:=h
theorem Zu {p:Prop} (h:p:=by
 have H1:=hid h1
 have H2:=hid h2
 unfold oneZ at hR
 rw [h1,h2] at hR
 rw [if_neg Zbc] at hR
 subst hR
 clear h1 h2
 go_enter Tryz.func70,Tryz.ntmps70
 go_wp2_with (first
 | (go_at_call 64
    refine Z6s ?_;intro hal
    refine (za8 _ _ _ _).mono ?_
    rintro e w1 ⟨rfl,hb⟩
    refine Z6i ?_;intro hh TN yTN HBW
    rw [H1.out]
    refine Z99 ?_;intro n7 n8
    refine Z6e ?_;intro n11 n12 n13 n14 n15 n16
    refine Z8y ?_;intro n17 n18
    clear hb hh hal))
 go_ret
 exact⟨rfl,HBW.out⟩
):p:=h
theorem Zv {p:Prop} (h:p:=by
 exact Z4q
):p:=h
theorem Zw {p:Prop} (h:p:=by
 rintro e w5 ⟨v5,rfl,ho5,hb⟩
 obtain⟨A2,c2,rfl,_,_,_⟩:=Kit.zaj ho5
 have HO:=hid (Kit.zah ho5 (show w.heap.size+2≤W3.heap.size by omega))
 refine Z85 ?_;try clear HFR HB hz;intro hS1 HFR HB hz
 clear hHeld
 clear hb ho5
 obtain⟨⟨z0,z1,z2,z3⟩,z4,z5,z6,z7⟩:=HFR.out
 dsimp only
 refine hK.out _ _ ?_ (fun hHeld=>?_)
 ·exact hS1
 clear hK K
 refine Z5y ?_
 refine Z9e ?_
 refine Z5y ?_
 refine Tk.s 7 rfl (fun K hK=>?_)
 go_simp
 refine hK.out _ _ ?_ (fun hHeld=>?_)
 ·exact hHeld.stores Zb3 _ _ _ _
 clear hK K
 refine Z5y ?_
 refine Z9f ?_
 refine Z5y ?_
 refine Z6y ?_
 go_wp2_with fail
 refine bodyPost_ret (Kit.zaa rfl _ _ (w.heap.size+1) 0 [Jj Jq H,Jj Jq W,Jj Jq C,.slice A2 n c2] _ rfl (zao Zb6 Zb6 Zb6 Zb6) Tryz.underlying32 rfl Zb5) rfl ?_
 exact Z45
):p:=h
theorem Zx {p:Prop} (h:p:=by
 have h0:=(Four.box w X 178).below ((((Below.refl _ _).alloc (le_refl _) (.cells #[Y 0,Y 1,Y 2,Y 3] 178)).alloc Zb7 (.cells #[z0,z0,z0,z0] 178)).alloc Zb7 (.cells #[z0,z0,z0,z0] 178)) Zb7
 have h1:=(Four.box (w.alloc (.cells #[X 0,X 1,X 2,X 3] 178)) Y 178).below (((Below.refl _ _).alloc (le_refl _) (.cells #[z0,z0,z0,z0] 178)).alloc Zb7 (.cells #[z0,z0,z0,z0] 178)) Zb7
 have h2:=(Four.new ((w.alloc (.cells #[X 0,X 1,X 2,X 3] 178)).alloc (.cells #[Y 0,Y 1,Y 2,Y 3] 178)) z0 178).below ((Below.refl _ _).alloc (le_refl _) (.cells #[z0,z0,z0,z0] 178)) Zb7
 have h3:=Four.new (((w.alloc (.cells #[X 0,X 1,X 2,X 3] 178)).alloc (.cells #[Y 0,Y 1,Y 2,Y 3] 178)).alloc (.cells #[z0,z0,z0,z0] 178)) z0 178
 have e1:(w.alloc (.cells #[X 0,X 1,X 2,X 3] 178)).heap.size=w.heap.size+1:=by simp
 have e2:((w.alloc (.cells #[X 0,X 1,X 2,X 3] 178)).alloc (.cells #[Y 0,Y 1,Y 2,Y 3] 178)).heap.size=w.heap.size+1+1:=by simp
 have e3:(((w.alloc (.cells #[X 0,X 1,X 2,X 3] 178)).alloc (.cells #[Y 0,Y 1,Y 2,Y 3] 178)).alloc (.cells #[z0,z0,z0,z0] 178)).heap.size=w.heap.size+1+1+1:=by simp
 rw [e1] at h1
 rw [e2] at h2
 rw [e3] at h3
 exact⟨0,fun _=>z0,by omega,rfl,hid (FillR.start _),hid h3,hid h2,hid h0,hid h1,hid (((((Below.refl _ _).alloc (le_refl _) _).alloc Zb7 _).alloc Zba _).alloc Zba _)⟩
):p:=h
theorem Zy {p:Prop} (h:p:=by
 go_enter Tryz.func133,Tryz.ntmps133
 go_wp2_with (first | (go_at_call 147;refine (size _ Zb3 Zb3 _).mono ?_;rintro e w' ⟨rfl,rfl⟩) | (go_at_call 146;refine (zb2 _ _ P hA hB H.out Zb3 _).mono ?_;rintro e w' ⟨rfl,rfl⟩))
 go_ret2
 exact⟨rfl,rfl⟩
):p:=h
theorem Zz {p:Prop} (h:p:=by
 refine⟨_,rfl,Kit.zah (za0 hW0.out ?_) ?_,?_⟩
 any_goals (first | omega | (simp;done) | (simp;omega))
 exact (((HBW.out.setCell (p:=⟨w.heap.size+2,0,none⟩) Zb7 _).setCell (p:=⟨w.heap.size+2,1,none⟩) Zb7 _).setCell (p:=⟨w.heap.size+2,2,none⟩) Zb7 _).setCell (p:=⟨w.heap.size+2,3,none⟩) Zb7 _
):p:=h
theorem Z10 {p:Prop} (h:p:=by
 go_wp2_with (go_at_call 65;(refine (zas (a:Int) (b:Int) C _ HEL.out _).mono ?_);rintro e Wa ⟨rfl,hbe⟩;have hA1:=hid (hA0.out.below h63 (B':=wr.heap.size) Zb3 hbe);have hT1:=hid (hT0.out.below (B':=wr.heap.size) Zb3 hbe);have hW1:=hid (Kit.own_below hW0.out hbe);have hz1:=Nat.le_trans hz0 hbe.size;clear hA0 hT0 hW0 hz0 s1 s2 s3 hbe;obtain⟨Av0,cv0,rfl, -, -, -⟩:=Kit.zaj hW1.out;obtain⟨-, -,⟨⟨z0,z1,z2,z3⟩,z4,z5,z6,z7⟩,⟨s1,s2,s3⟩,hbw,hsz⟩:=hA1.out;obtain⟨o0,o1,o2,o3, -⟩:=hT1.out;have HBW:=hid hbw;clear hbw)
 refine bodyPost_ret (Kit.zaa rfl _ _ (w.heap.size+2) 0 [Jj Jq (a:Int),Jj Jq (b:Int),Jj Jq C,.slice Av0 k cv0] _ rfl (zao Zb6 Zb6 Zb6 Zb6) Tryz.underlying32 rfl Zb5) rfl ?_
 refine⟨_,rfl,Kit.zah (za0 hW1.out ?_) ?_,?_⟩
 any_goals (first | omega | (simp;done) | (simp;omega))
 exact (((HBW.out.setCell (p:=⟨w.heap.size+2,0,none⟩) Zbh _).setCell (p:=⟨w.heap.size+2,1,none⟩) Zbh _).setCell (p:=⟨w.heap.size+2,2,none⟩) Zbh _).setCell (p:=⟨w.heap.size+2,3,none⟩) Zbh _
):p:=h
theorem Z11 {p:Prop} (h:p:=by
 first | (go_simp;done) | (go_simp;with_reducible rfl) | (simp [g];done)
):p:=h
theorem Z12 {p:Prop} (h:p:=by
 have H1:=hid h1
 have H2:=hid h2
 clear h1 h2
 go_enter Tryz.func49,Tryz.ntmps49
 go_wp2_with (first
  | (go_at_call 42
     refine Z6s ?_;intro hal
     refine (zb0 _ _ _ _).mono ?_
     rintro e w1 ⟨rfl,hb⟩
     refine Z6i ?_;intro hh TN yTN HBW
     rw [H1.out]
     refine Z6v ?_;intro n14 n15 n16
     clear hb hh hal))
 go_ret
 exact⟨rfl,HBW.out⟩
):p:=h
theorem Z13 {p:Prop} (h:p:=by
 refine Z7z ?_;intro c0 c1 c2 c3 d0 d1 d2 d3 f0 f1 f2 f3
 clear hlt hk
 obtain⟨a0,b0,s0, -⟩:=hAll (0:Nat) Zb3
 obtain⟨a1,b1,s1, -⟩:=hAll (1:Nat) Zb3
 obtain⟨a2,b2,s2, -⟩:=hAll (2:Nat) Zb3
 obtain⟨a3,b3,s3, -⟩:=hAll (3:Nat) Zb3
 have t0:=st_c a0 b0
 have t1:=st_c a1 b1
 have t2:=st_c a2 b2
 have t3:=st_c a3 b3
 have HA:=hid hAll
 clear hAll
 have HS0:=hid s0
 have HS1:=hid s1
 have HS2:=hid s2
 have HS3:=hid s3
 go_wp2
 refine bodyPost_ret (Kit.zbi rfl _ _ (w.heap.size+1+1) 0 [.complex .f64 a0 b0,.complex .f64 a1 b1,.complex .f64 a2 b2,.complex .f64 a3 b3] _ rfl (zao Zb6 Zb6 Zb6 Zb6) Tryz.underlying178 rfl Zb5) rfl ?_
 exact Z5h
):p:=h
theorem Z14 {p:Prop} (h:p:=by
 obtain⟨h1,h2,h3,h4,h5⟩:=h
 have k:∀ (i:Nat),i≠3→(w.setCell ⟨B,3,none⟩ u).cell? ⟨B,i,none⟩=w.cell? ⟨B,i,none⟩:=fun i hne=>World.cell?_setCell_other _ _ _ _ (fun e=>by injection e;omega)
 exact⟨(k 0 Zb3).trans h1,(k 1 Zb3).trans h2,(k 2 Zb3).trans h3,World.cell?_setCell_same _ _ _ h4,(World.frozen?_setCell _ _ _ _).trans h5⟩
):p:=h
theorem Z15 {p:Prop} (h:p:=by
 rw [← hq]
 exact⟨Int.mul_nonneg Zb3 Zb3,Int.le_trans (Int.mul_le_mul o2 hN2 Zb3 Zb3) Zb3⟩
):p:=h
theorem Z16 {p:Prop} (h:p:=by
 exact Z5q
):p:=h
theorem Z17 {p:Prop} (h:p:=by
 exact⟨_,rfl,World.ownsRow_nil _ _ _ _,by exact (((HBW.out.setCell (p:=⟨w.heap.size+2,0,none⟩) Zb7 _).setCell (p:=⟨w.heap.size+2,1,none⟩) Zb7 _).setCell (p:=⟨w.heap.size+2,2,none⟩) Zb7 _).setCell (p:=⟨w.heap.size+2,3,none⟩) Zb7 _⟩
):p:=h
theorem Z18 {p:Prop} (h:p:=by
 refine Z5y ?_
 refine Tk.z 5 rfl ?_
 refine Z5y ?_
 refine Tk.z 6 rfl ?_
 refine Z5y ?_
 refine wpAny_done Zb5 ?_ _
 simp only [Norm]
 obtain⟨fn,tmps,assign,body,hy,hR⟩:=HYK.out
 unfold piece at hy
 rw [HQ.out] at hy
 gi_wp2
 refine hR.mono ?_
 rintro e W3 (⟨rfl,hJ3,hk3⟩ | ⟨rfl,hJx3⟩)
 ·have hK3:=hid (HK2.out.trans hk3)
  have cn3:=hk3.2.trans cn2
  clear hk3
  gi_wp2
  go_roundw
  case rel=>exact⟨k+1,by omega,by rw [HQ2.out];go_num,by rw [zdb];exact hJ3,hK3⟩
  case measure=>simp [intOf];omega
 ·gi_wp2
  refine bodyPost_ret (results_none rfl _ _ _) rfl ?_
  exact⟨⟨_,rfl⟩,.inr ⟨_,⟨k+1,by omega,(zdb _).symm⟩,hJx3⟩⟩
):p:=h
theorem Z19 {p:Prop} (h:p:=by
 go_wp2_with fail
 go_quiet (fail)
 go_wp2_with fail
 go_ret
 exact⟨rfl,_,rfl⟩
):p:=h
theorem Z1a {p:Prop} (h:p:=by
 go_ret
 exact⟨rfl,(Below.refl _ _).alloc (le_refl _) _⟩
):p:=h
theorem Z1b {p:Prop} (h:p:=by
 go_enter Tryz.func29,Tryz.ntmps29
 go_upto_region 1 with fail
 generalize w.alloc (.cells #[x0,x1,x2,Jj Jq K,Jj Jq S,Jj Jq P,Jj Jq O,.int .i8 Z,x8,.slice WA nW cW,.slice BA nB cB,x11,x12,x13,x14,x15,x16,x17,x18] 28)=w1 at n3 n4 HB ⊢
 go_wp2_with fail
 go_ret
 exact⟨rfl,HB.out⟩
):p:=h
theorem Z1c {p:Prop} (h:p:=by
 subst hr
 go_enter Tryz.func26,Tryz.ntmps26
 go_wp2_with (go_at_call 22;(refine (zal H W C A n c true HT.out _).mono ?_);rintro e w1 ⟨rfl,hb⟩;(have HB:=hid (((Below.refl w.heap.size w).alloc (le_refl _) _).trans (hb.mono Zb7)));clear hb)
 go_ret
 exact⟨rfl,HB.out⟩
):p:=h
theorem Z1d {p:Prop} (h:p:=by
 subst hr
 go_enter Tryz.func55,Tryz.ntmps55
 go_wp2_with (go_at_call 13;(refine (zak H W C A n c true HT.out _).mono ?_);rintro e w1 ⟨rfl,hb⟩;(have HB:=hid (((Below.refl w.heap.size w).alloc (le_refl _) _).trans (hb.mono Zb7)));clear hb)
 go_ret
 exact⟨rfl,HB.out⟩
):p:=h
theorem Z1e {p:Prop} (h:p:=by
 refine hK.out _ _ ?_ (fun hHeld=>?_)
 ·exact⟨HN4.out,HWH.out⟩
 clear hK K
 try simp only [Act.put]
 refine Z6y ?_
 subst hg1
 go_wp2_with fail
 go_roundw
 case rel=>exact⟨k+1,SD,_,by omega,by go_num,HSD,HTN,HF,HZ,HB⟩
 case measure=>simp [intOf];omega
):p:=h
theorem Z1f {p:Prop} (h:p:=by
 go_wp2_with fail
 go_ret
 exact⟨rfl,rfl⟩
):p:=h
theorem Z1g {p:Prop} (h:p:=by
 exact⟨hHeld.1.below (B':=Wb0.heap.size) Zb3 ((Below.refl _ _).alloc (le_refl _) _),hHeld.2.below (B':=Wb0.heap.size) Zb3 ((Below.refl _ _).alloc (le_refl _) _)⟩
):p:=h
theorem Z1h {p:Prop} (h:p:=by
 refine Z9g ?_;intro hs2 hB hB2
 refine bodyPost_ret (Kit.zaa rfl _ _ (wd.heap.size+1) 0 [Jj Jq m,Jj Jq m2,Jj Jq o] _ rfl (Kit.za3 Zb6 Zb6 Zb6) Tryz.underlying30 rfl Zb5) rfl ?_
 exact⟨rfl,by go_grown⟩
):p:=h
theorem Z1i {p:Prop} (h:p:=by
 have h:=run_make (P:=Tryz.prog) w 23 22 i0 (.int .i8 0) Tryz.underlying23 hi0 hi1 .i64 .i64 0 N (Int.le_refl _) Zb3 Zbq Zb3
 rw [hi2,Nat.mul_one,show (Value.int .i8 0).cells=#[.int .i8 0] from rfl] at h
 simpa using h
):p:=h
theorem Z1j {p:Prop} (h:p:=by
 have hb:=zcs h1 h2 h3 h4 h5 h6
 rw [hn] at hb
 obtain⟨b1,b2⟩:=hb
 have HN:=Lib.hid hn
 clear hn
 go_enter Tryz.func44,Tryz.ntmps44
 go_wp2_with (first
   | (go_at_call 96;refine (zca _ _ _ Zb3 Zb3 _).mono ?_;rintro e w' ⟨rfl,rfl⟩)
   | (go_at_call 97;refine (product h w c _ n h1 h2 h3 h4 h5 h6 rfl HN.out _).mono ?_;rintro e w1 ⟨rfl,hb⟩))
 go_ret
 exact⟨rfl,((Below.refl _ _).alloc (Nat.le_refl _) _).trans (hb.mono Zb7)⟩
):p:=h
theorem Z1k {p:Prop} (h:p:=by
 unfold gridF
 have h1:((i * b+j) * d+k) / d=i * b+j:=by rw [Nat.mul_comm,Nat.mul_add_div Zb3,Nat.div_eq_of_lt hk];rfl
 have h2:((i * b+j) * d+k) % d=k:=by rw [Nat.mul_comm,Nat.mul_add_mod,Nat.mod_eq_of_lt hk]
 have h3:(i * b+j) / b=i:=by rw [Nat.mul_comm,Nat.mul_add_div Zb3,Nat.div_eq_of_lt hj];rfl
 have h4:(i * b+j) % b=j:=by rw [Nat.mul_comm,Nat.mul_add_mod,Nat.mod_eq_of_lt hj]
 rw [h1,h2,h3,h4]
):p:=h
theorem Z1l {p:Prop} (h:p:=by
 rw [List.getElem?_map,List.getElem?_take] at hu
 split at hu
 ·rename_i hj
  have hjz:j < zs.length:=by omega
  rw [List.getElem?_eq_getElem hjz] at hu
  simp only [Option.map_some,Option.some.injEq] at hu
  subst hu
  have h9:=hcell j hjz
  rw [List.getD_eq_getElem?_getD,List.getElem?_eq_getElem hjz,Option.getD_some] at h9
  exact⟨a,rfl,by have:=block_lt h9;rwa [add_block] at this,h9⟩
 ·simp at hu
):p:=h
theorem Z1m {p:Prop} (h:p:=by
 have hkI:¬ (k:Int) < C:=by have:=HD.out;omega
 refine Z9t ?_;intro e
 have hW3:Hid (wr.ownsRow (g6+1) 22 1 (.slice Av (o+k) cv) ((i * b+(j+1)) * k) (I8s (rowL F ((i * b+(j+1)) * k)))):=by rw [e];exact hW2
 exact Z5f
):p:=h
theorem Z1n {p:Prop} (h:p:=by
 exact⟨rfl,((Below.refl _ _).alloc (Nat.le_refl _) _).trans (hb.mono Zb7)⟩
):p:=h
theorem Z1o {p:Prop} (h:p:=by
 exact⟨rfl,HB.out.trans (hb1.mono (Nat.le_succ _))⟩
):p:=h
theorem Z1p {p:Prop} (h:p:=by
 rw [fitZ_yes Zb3 Zb3,fits_yes Zb3 Zb3]
 go_enter Tryz.func133,Tryz.ntmps133
 go_wp2_with (first | (go_at_call 147;refine (size _ Zb3 Zb3 _).mono ?_;rintro e w' ⟨rfl,rfl⟩) | (go_at_call 146;refine (zb2 _ _ P hA hB H.out Zb3 _).mono ?_;rintro e w' ⟨rfl,rfl⟩))
 go_ret2
 exact⟨neg_back P Zb3,rfl⟩
):p:=h
theorem Z1q {p:Prop} (h:p:=by
 refine Z9t ?_;intro e
 have hW3:Hid (wr.ownsRow (g6+2) 21 1 (.slice Av (o+k) cv) ((i * b+(j+1)) * k) (I32v (rowL F ((i * b+(j+1)) * k)))):=by rw [e];exact hW2
 go_wp2_with fail
 go_roundw
 case rel=>exact⟨j+1,_,by omega,by go_num,hA2,hT2,hW3,hz2⟩
 case measure=>simp [intOf];omega
):p:=h
theorem Z1r {p:Prop} (h:p:=by
 have e:(i+1) * j * d=(i * j+j) * d:=by rw [Nat.add_mul i 1,Nat.one_mul]
 have hW3:Hid (wr.ownsRow (g6+1) 22 1 (.slice Av1 ((i * j+j) * d) cv1) ((i+1) * j * d) (I8s (rowL F ((i+1) * j * d)))):=by rw [e];exact hW1
 exact Z5g
):p:=h
theorem Z1s {p:Prop} (h:p:=by
 clear g0 g1 g2 g3 g4 e3
 go_wp2
 go_quiet (fail)
 go_wp2
 all_goals
  go_ret
  exact⟨zb5 (by rw [E3.out]),nq,rfl⟩
):p:=h
theorem Z1t {p:Prop} (h:p:=by
 rw [← hhs]
 exact⟨Int.mul_nonneg Zb3 Zb3,Int.le_trans (Int.mul_le_mul (show (i:Int)≤16 by omega) st2 Zb3 Zb3) Zb3⟩
):p:=h
theorem Z1u {p:Prop} (h:p:=by
 rw [← hvs]
 exact⟨Int.mul_nonneg Zb3 Zb3,Int.le_trans (Int.mul_le_mul (show (j:Int)≤16 by omega) st2 Zb3 Zb3) Zb3⟩
):p:=h
theorem Z1v {p:Prop} (h:p:=by
 exact HS.out _ (HB0.out.trans ((Below.refl _ _).alloc Zb3 _))
):p:=h
theorem Z1w {p:Prop} (h:p:=by
 rw [← hhs]
 exact⟨Int.mul_nonneg Zb3 Zb3,Int.le_trans (Int.mul_le_mul (show (h:Int)≤16 by omega) s4 Zb3 Zb3) Zb3⟩
):p:=h
theorem Z1x {p:Prop} (h:p:=by
 rw [← hvs]
 exact⟨Int.mul_nonneg Zb3 Zb3,Int.le_trans (Int.mul_le_mul (show (v:Int)≤16 by omega) s4 Zb3 Zb3) Zb3⟩
):p:=h
theorem Z1y {p:Prop} (h:p:=by
 have e:M * (2 * m)=2 * (M * m):=by rw [← Int.mul_assoc,Int.mul_comm M 2,Int.mul_assoc]
 rw [e];omega
):p:=h
theorem Z1z {p:Prop} (h:p:=by
 have h:=zae.new x0 x1 x2 x8 x11 x12 x13 x14 x15 x16 x17 x18 K S P O Z WA BA nW cW nB cB 28 (w.alloc (.cells #[Jj Jq H,Jj Jq W,Jj Jq C,.slice A n c] 32))
 exact Z5e
):p:=h
theorem Z20 {p:Prop} (h:p:=by
 have h1:=(Nat.log2_lt (k:=n.natAbs.log2+1) ha).1 (lt_succ_self _)
 have h2:n.natAbs * 2 ^ t < 2 ^ (n.natAbs.log2+1) * 2 ^ t:=Nat.mul_lt_mul_of_pos_right h1 (pow2 t)
 rw [← Nat.pow_add,show n.natAbs.log2+1+t=53 by omega] at h2
 exact h2
):p:=h
theorem Z21 {p:Prop} (h:p:=by
 have:0 < H * W * C:=Int.mul_pos (Int.mul_pos Zb3 Zb3) Zb3
 omega
):p:=h
theorem Z22 {p:Prop} (h:p:=by
 refine⟨fun i hi=>?_,fun i hi=>?_,by simp⟩
 ·rcases i with _ | _ | _ | _ | i
  all_goals first | (exact absurd hi Zb3) | go_cell
 ·rcases i with _ | _ | _ | _ | i
  all_goals first | (exact absurd hi Zb3) | go_cell
):p:=h
theorem Z23 {p:Prop} (h:p:=by
 have e1:(i+1) * b≤a * b:=Nat.mul_le_mul_right _ hi
 have e2:(i * b+j+1) * d≤a * b * d:=Nat.mul_le_mul_right _ (by rw [Nat.add_mul,Nat.one_mul] at e1;omega)
 rw [Nat.add_mul _ 1 d,Nat.one_mul] at e2
 omega
):p:=h
theorem Z24 {p:Prop} (h:p:=by
 exact⟨hHeld.1.below (B':=Wb1.heap.size) Zb3 ((Below.refl _ _).alloc (le_refl _) _),hHeld.2.below (B':=Wb1.heap.size) Zb3 ((Below.refl _ _).alloc (le_refl _) _)⟩
):p:=h
theorem Z25 {p:Prop} (h:p:=by
 go_enter Tryz.func95,Tryz.ntmps95
 go_wp2
 go_ret
 exact⟨rfl,rfl⟩
):p:=h
theorem Z26 {p:Prop} (h:p:=by
 have h4:=(((h.setCell (p:=⟨g,0,none⟩) hg a).setCell (p:=⟨g,1,none⟩) hg b).setCell (p:=⟨g,2,none⟩) hg c).setCell (p:=⟨g,3,none⟩) hg d
 exact h4.alloc h4.size o
):p:=h
theorem Z27 {p:Prop} (h:p:=by
 go_wp2_with fail
 go_roundw
 case rel=>exact⟨i+1,by omega,by go_num,congrArg (Value.int .i64) (by simp only [psum];rfl),TB2,TN2,HB2,zz2⟩
 case measure=>simp [intOf];omega
):p:=h
theorem Z28 {p:Prop} (h:p:=by
 go_enter Tryz.func134,Tryz.ntmps134
 go_wp2_with (go_at_call 96;refine (zca _ _ _ Zb3 Zb3 _).mono ?_;rintro e w' ⟨rfl,rfl⟩)
 go_ret2
 exact⟨rfl,rfl⟩
):p:=h
theorem Z29 {p:Prop} (h:p:=by
 obtain⟨b,off,e,hb,hc⟩:=h.plain Zba
 exact⟨b,off,e,hb,fun i hi=>hc i _ (by simp [List.getD_eq_getElem?_getD,List.getElem?_eq_getElem hi])⟩
):p:=h
theorem Z2a {p:Prop} (h:p:=by
 go_wp2_with fail
 go_quiet (fail)
 go_wp2
 go_roundw
 case rel=>exact⟨k+1,_,by omega,by go_num,congrArg _ HU2.out.symm,hid rfl⟩
 case measure=>simp [intOf];omega
):p:=h
theorem Z2b {p:Prop} (h:p:=by
 intro j v hj
 match j,hj with
 | 0,hj=>simpa [← hj] using h0
 | 1,hj=>simpa [← hj] using h1
 | 2,hj=>simpa [← hj] using h2
 | 3,hj=>simpa [← hj] using h3
):p:=h
theorem Z2c {p:Prop} (h:p:=by
 exact hHeld.stores Zb3 _ _ _ _
):p:=h
theorem Z2d {p:Prop} (h:p:=by
 have:k=1∨k=2∨k=3∨k=4∨k=5∨k=6∨k=7∨k=8∨k=9:=by omega
 rcases this with rfl | rfl | rfl | rfl | rfl | rfl | rfl | rfl | rfl <;> decide
):p:=h
theorem Z2e {p:Prop} (h:p:=by
 go_wp2
 go_ret
 exact⟨zb5 (by exact clampZ_hi Zb3 Zb3),rfl⟩
):p:=h
theorem Z2f {p:Prop} (h:p:=by
 go_wp2
 go_ret
 exact⟨zb5 (by exact clampZ_in Zb3 Zb3),rfl⟩
):p:=h
theorem Z2g {p:Prop} (h:p:=by
 unfold Addr.add;split
 ·rename_i h;subst h;rfl
 ·simp
):p:=h
theorem Z2h {p:Prop} (h:p:=by
 split <;> split <;> split <;> omega
):p:=h
theorem Z2i {p:Prop} (h:p:=by
 rintro e W' ⟨he,(⟨ls,rfl,hj⟩ | ⟨pre,hj⟩)⟩
 ·exact⟨he,.inl ⟨_,rfl,hj⟩⟩
 ·exact⟨he,.inr ⟨_,trivial,hj⟩⟩
):p:=h
theorem Z2j {p:Prop} (h:p:=by
 cases hi:Tryz.prog.info? T with
 | none=>rw [hi] at h;cases h
 | some i=>rw [hi] at h;simp at h;exact⟨i,rfl,h.1,h.2.1,h.2.2⟩
):p:=h
theorem Z2k {p:Prop} (h:p:=by
 rw [← HNW.out,Nat.mul_comm n nB]
 have:=Nat.mul_le_mul_right n (show o+1≤nB by omega)
 rwa [Nat.add_mul,Nat.one_mul] at this
):p:=h
theorem Z2l {p:Prop} (h:p:=by
 have e1:(w.alloc (.cells #[c 0,c 1,c 2,c 3] 178)).heap.size=w.heap.size+1:=by simp
 rw [e1] at h1
 exact h1.below hb2 Zb7
):p:=h
theorem Z2m {p:Prop} (h:p:=by
 go_enter Tryz.func96,Tryz.ntmps96
 go_wp2
 go_ret
 exact⟨rfl,rfl⟩
):p:=h
theorem Z2n {p:Prop} (h:p:=by
 go_wp2_with fail
 go_roundw
 case rel=>exact⟨i+1,_,by omega,by go_num,hA1,hT1,hW3,hz1⟩
 case measure=>simp [intOf];omega
):p:=h
theorem Z2o {p:Prop} (h:p:=by
 go_wp2
 go_ret
 exact⟨zb5 (by exact clampZ_lo Zb3),rfl⟩
):p:=h
theorem Z2p {p:Prop} (h:p:=by
 exact hHeld.below (B':=Wp0.heap.size) (by have:=HR.out.2.2.2.2.2;omega) ((Below.refl _ _).alloc (le_refl _) _)
):p:=h
theorem Z2q {p:Prop} (h:p:=by
 rcases hat2 with h | h
 ·rw [h];exact HNE.out
 ·rw [h];intro e;have:=HWA.out.1;have e2:=Option.some.inj e;omega
):p:=h
theorem Z2r {p:Prop} (h:p:=by
 go_ret
 exact⟨congrArg (fun z=>Ending.returned (.int .i8 z)) HR.out,HAL.out.trans (hb.mono HAL.out.size)⟩
):p:=h
theorem Z2s {p:Prop} (h:p:=by
 induction n with
 | zero=>rfl
 | succ n ih=>simp only [psum];rw [ih (fun k hk=>h k Zb3),h n Zb3]
):p:=h
theorem Z2t {p:Prop} (h:p:=by
 go_ret
 exact⟨rfl,Kit.below_drewN (((Below.refl _ _).alloc (le_refl _) _).trans (hb.mono Zb7)) _⟩
):p:=h
theorem Z2u {p:Prop} (h:p:=by
 exact⟨0,Nat.zero_le _,rfl,HOWN,hid (Below.refl _ _)⟩
):p:=h
theorem Z2v {p:Prop} (h:p:=by
 rcases Nat.lt_or_ge g w.heap.size with h | h
 ·exact h
 ·rw [Array.getElem?_eq_none h] at hh;cases hh
):p:=h
theorem Z2w {p:Prop} (h:p:=by
 simp only [tensB,Bool.and_eq_true] at ht
 obtain⟨a1,a2,a3,a4, -⟩:=zac ht.1
 exact⟨a1,a2,a3,a4⟩
):p:=h
theorem Z2x {p:Prop} (h:p:=by
 have:=congrArg Int.natAbs hv
 rw [signed_abs,Int.natAbs_mul,Int.natAbs_pow] at this
 simpa using this
):p:=h
theorem Z2y {p:Prop} (h:p:=by
 exact⟨0,Nat.zero_le _,rfl,hA0,by simpa using hW0⟩
):p:=h
theorem Z2z {p:Prop} (h:p:=by
 refine Z5y ?_
 refine Z6y ?_
 go_wp2
 go_ret
 exact⟨rfl,HB1.out⟩
):p:=h
theorem Z30 {p:Prop} (h:p:=by
 exact⟨0,Nat.zero_le _,rfl,hOA,by simpa using hW⟩
):p:=h
theorem Z31 {p:Prop} (h:p:=by
 go_roundw
 case rel=>exact⟨k+1,by omega,by go_num,HA6,HW6⟩
 case measure=>simp [intOf];omega
):p:=h
theorem Z32 {p:Prop} (h:p:=by
 refine bodyPost_ret (results_none rfl _ _ _) rfl ?_
 exact⟨⟨_,rfl⟩,.inr ⟨_,hJx3⟩⟩
):p:=h
theorem Z33 {p:Prop} (h:p:=by
 rcases hat with h2 | h2
 ·exact h1 (h2 ▸ e1)
 ·rw [h2] at e1;have:=Option.some.inj e1;omega
):p:=h
theorem Z34 {p:Prop} (h:p:=by
 rintro e Wb0 ⟨rfl,hb1⟩
 refine Z8z ?_;try clear HBW hA3 hT3 hW3 hsz;intro hS1 HBW hA3 hT3 hW3 hsz
 clear hHeld ov3 ovf
 obtain⟨-, -, -,ov3,ovf⟩:=hT3.out
 clear hb1
 dsimp only
 refine hK.out _ _ ?_ (fun hHeld=>?_)
 ·exact hS1
 clear hK Kq
 refine Z5y ?_
 refine Z9f ?_
 refine Z5y ?_
 refine wpAnyH_ready (rs:=[1,9]) Zb5 Zb7 ?_
 refine Tk.c rfl (fun Kq hK=>?_) ?_
 ·go_simp
  refine hK.out _ _ ?_ (fun hHeld=>?_)
  ·exact hHeld
  clear hK Kq
  refine Z5y ?_
  refine Tk.s 9 rfl (fun Kq hK=>?_)
  go_simp
  refine hK.out _ _ ?_ (fun hHeld=>?_)
  ·exact Z1g
  clear hK Kq
  refine Z5y ?_
  refine Z8n ?_;try clear HBW hA3 hT3 hW3 hsz;intro HBW hA3 hT3 hW3 HXR hsz
  clear ov3 ovf
  obtain⟨-, -, -,ov3,ovf⟩:=hT3.out
  generalize Wb0.alloc (.cells #[.int .i32 x] 21)=Wc2 at HBW hA3 hT3 hW3 HXR hsz ov3 ovf hHeld ⊢
  exact Z5l
 refine Tk.c rfl (fun Kq hK=>?_) ?_
 ·go_simp
  refine hK.out _ _ ?_ (fun hHeld=>?_)
  ·exact Z1g
  clear hK Kq
  refine Z5y ?_
  refine Z8n ?_;try clear HBW hA3 hT3 hW3 hsz;intro HBW hA3 hT3 hW3 HXR hsz
  clear ov3 ovf
  obtain⟨-, -, -,ov3,ovf⟩:=hT3.out
  generalize Wb0.alloc (.cells #[.int .i32 x] 21)=Wc1 at HBW hA3 hT3 hW3 HXR hsz ov3 ovf hHeld ⊢
  refine Tk.s 1 rfl (fun Kq hK=>?_)
  go_simp
  refine hK.out _ _ ?_ (fun hHeld=>?_)
  ·exact hHeld
  clear hK Kq
  refine Z5y ?_
  refine Tk.s 10 rfl (fun Kq hK=>?_)
  refine Kit.zar _ rfl (.tmp 48) (.tmp 56) _ rfl (g6+2) 21 i0 (.int .i32 0) 1 4 Tryz.underlying24 hi0 hi1 hi2 hi3 rfl Zbc _ (o+k) (I32v (rowL F (o+k))) rfl hW3.out _ _ 1 1 [.int .i32 x] rfl rfl HXR.out (Kit.za5 .i32 [x]) (by unfold maxLen;omega) Zb3 Zb3 ?_
  intro v5 w5 hown5 hg5 _
  obtain⟨A5,c5,rfl, -, -, -⟩:=Kit.zaj hown5
  have hb5:Below (g6+2) Wc1 w5:=(Below.refl _ _).grown hg5 hsz (Kit.zaq hW3.out)
  exact Z3
 exact AllReadyH.nil
):p:=h
theorem Z35 {p:Prop} (h:p:=by
 have HC:=hid hC
 clear hC
 refine Z7m ?_;clear hK ht hk;intro HCK HTR HK HE
 go_enter Tryz.func7,Tryz.ntmps7
 go_upto_region 1 with fail
 obtain⟨W0,hW0,TN,HB,hz,TA,TB,FR⟩:=HE.out
 rw [← hW0]
 clear hW0 HE
 refine Z7o ?_;intro k00 k01 k02 k03 k10 k11 k12 k13 z0 z1 z2 z3 f0 f1 f2 f3
 have q0:=nd_k0 TN.out HK.out
 go_wp2_with (first
  | (refine za4 rfl _ rfl w.heap.size x rfl TN.out ?_)
  | (go_at_call 21;(with_reducible refine (HCK.out _ HB.out).mono ?_);rintro e1 w1 ⟨rfl,hb⟩;(replace TN:=hid (TN.out.below Zb3 hb));(replace TA:=hid (TA.out.below Zb3 hb));(replace TB:=hid (TB.out.below Zb3 hb));(replace FR:=hid (FR.out.below hz hb));clear k00 k01 k02 k03 k10 k11 k12 k13 z0 z1 z2 z3 f0 f1 f2 f3;obtain⟨k00,k01,k02,k03⟩:=TA.out;obtain⟨k10,k11,k12,k13⟩:=TB.out;obtain⟨⟨z0,z1,z2,z3⟩,f0,f1,f2,f3⟩:=FR.out;clear q0;have q0:=nd_k0 TN.out HK.out;have hzo:=hz;(replace hz:w.heap.size+3 < w1.heap.size:=Nat.lt_of_lt_of_le hz hb.size);(replace HB:=hid (HB.out.trans (hb.mono HB.out.size)));clear hb hzo)
  | (go_at_call 22;(with_reducible refine (HTR.out _).mono ?_);rintro e1 w1 ⟨rfl,hb⟩;(replace TN:=hid (TN.out.below Zb3 hb));(replace TA:=hid (TA.out.below Zb3 hb));(replace TB:=hid (TB.out.below Zb3 hb));(replace FR:=hid (FR.out.below hz hb));clear k00 k01 k02 k03 k10 k11 k12 k13 z0 z1 z2 z3 f0 f1 f2 f3;obtain⟨k00,k01,k02,k03⟩:=TA.out;obtain⟨k10,k11,k12,k13⟩:=TB.out;obtain⟨⟨z0,z1,z2,z3⟩,f0,f1,f2,f3⟩:=FR.out;clear q0;have q0:=nd_k0 TN.out HK.out;have hzo:=hz;(replace hz:w.heap.size+3 < w1.heap.size:=Nat.lt_of_lt_of_le hz hb.size);(replace HB:=hid (HB.out.trans (hb.mono HB.out.size)));clear hb hzo)
  | (go_at_call 23;(with_reducible refine (HC.out _ HB.out).mono ?_);rintro e1 w1 ⟨v,rfl,ho,hb⟩;(replace TN:=hid (TN.out.below Zb3 hb));(replace TA:=hid (TA.out.below Zb3 hb));(replace TB:=hid (TB.out.below Zb3 hb));(replace FR:=hid (FR.out.below hz hb));clear k00 k01 k02 k03 k10 k11 k12 k13 z0 z1 z2 z3 f0 f1 f2 f3;obtain⟨k00,k01,k02,k03⟩:=TA.out;obtain⟨k10,k11,k12,k13⟩:=TB.out;obtain⟨⟨z0,z1,z2,z3⟩,f0,f1,f2,f3⟩:=FR.out;have hzo:=hz;(replace hz:w.heap.size+3 < w1.heap.size:=Nat.lt_of_lt_of_le hz hb.size);have HO:=hid (Kit.zah ho (show w.heap.size+3+1≤_ from hzo));have HZO:=hid (lt_succ_self (w.heap.size+3));obtain⟨A2,c2,rfl, -, -, -⟩:=Kit.zaj ho;(replace HB:=hid (HB.out.trans (hb.mono HB.out.size)));clear ho hb))
 exact Z5
):p:=h
theorem Z36 {p:Prop} (h:p:=by
 rintro e w1 ⟨rfl,hb⟩
 refine Z5u ?_;intro hh TS0 yTS0 TN yTN FS yFS TF yTF HBW
 exact Z5r
):p:=h
theorem Z37 {p:Prop} (h:p:=by
 rintro e we ⟨rfl,hb⟩
 refine Z6o ?_;try clear HBW hFS hTF hsz;clear hb hHeld;intro hS1 HBW hFS hTF hsz
 refine hK.out _ _ ?_ (fun hHeld=>?_)
 ·exact hS1
 clear hK K
 refine Z5y ?_
 refine Z9w ?_
 refine Z5y ?_
 refine Z9f ?_
 refine Z5y ?_
 refine Zan ?_
 refine Z5y ?_
 refine Z9o ?_
 refine Z5y ?_
 refine Tk.y 11 (v:=?_) rfl ?_ ?_
 rotate_left
 ·exact Z5n
 refine Z5y ?_
 refine Zag ?_
 refine Z5y ?_
 refine Za6 ?_
 refine Z5y ?_
 refine Tk.x 14 rfl ?_
 refine Z5y ?_
 refine Tk.x 15 rfl ?_
 refine Z5y ?_
 refine Zak ?_
 refine Z5y ?_
 refine Tk.y 17 (v:=?_) rfl ?_ ?_
 rotate_left
 ·exact Z5n
 refine Z5y ?_
 refine Tk.x 18 rfl ?_
 refine Z5y ?_
 refine Tk.x 19 rfl ?_
 refine Z5y ?_
 refine Tk.y 20 (v:=?_) rfl ?_ ?_
 rotate_left
 ·exact Z5n
 refine Z5y ?_
 refine Tk.x 21 rfl ?_
 refine Z5y ?_
 refine Tk.x 22 rfl ?_
 refine Z5y ?_
 refine Z6y ?_
 obtain⟨⟨z0,z1,z2⟩,z4,z5,z6⟩:=hFS.out
 obtain⟨f0,f1,f2⟩:=hTF.out
 go_wp2_with fail
 refine bodyPost_ret (Kit.zaa rfl _ _ (w.heap.size+2) 0 [Jj Jq 1,Jj Jq 1,Jj Jq O] _ rfl (Kit.za3 Zb6 Zb6 Zb6) Tryz.underlying30 rfl Zb5) rfl ?_
 exact Zr
):p:=h
theorem Z38 {p:Prop} (h:p:=by
 rintro e Wb1 ⟨rfl,hb1⟩
 refine Z8z ?_;try clear HBW hA3 hT3 hW3 hsz;intro hS1 HBW hA3 hT3 hW3 hsz
 clear hHeld ov3 ovf
 obtain⟨-, -, -,ov3,ovf⟩:=hT3.out
 clear hb1
 dsimp only
 refine hK.out _ _ ?_ (fun hHeld=>?_)
 ·exact hS1
 clear hK Kq
 refine Z5y ?_
 refine Z9f ?_
 refine Z5y ?_
 refine Tk.s 9 rfl (fun Kq hK=>?_)
 go_simp
 refine hK.out _ _ ?_ (fun hHeld=>?_)
 ·exact Z24
 clear hK Kq
 refine Z5y ?_
 replace HBW:=hid (HBW.out.alloc HBW.out.size (.cells #[.int .i32 x] 21))
 replace hA3:=hid (hA3.out.below h63 (B':=Wb1.heap.size) Zb3 ((Below.refl _ _).alloc (le_refl _) (.cells #[.int .i32 x] 21)))
 replace hT3:=hid (hT3.out.below (B':=Wb1.heap.size) Zb3 ((Below.refl _ _).alloc (le_refl _) (.cells #[.int .i32 x] 21)))
 replace hW3:=hid (hW3.out.alloc (.cells #[.int .i32 x] 21))
 have HXR:=hid (Kit.Rd.new Wb1 [.int .i32 x] 21 (lt_succ_self _))
 replace hsz:g6+2≤(Wb1.alloc (.cells #[.int .i32 x] 21)).heap.size:=by simp;omega
 clear ov3 ovf
 obtain⟨-, -, -,ov3,ovf⟩:=hT3.out
 generalize Wb1.alloc (.cells #[.int .i32 x] 21)=Wc2 at HBW hA3 hT3 hW3 HXR hsz ov3 ovf hHeld ⊢
 exact Z5l
):p:=h
theorem Z39 {p:Prop} (h:p:=by
 rintro e we ⟨rfl,hb⟩
 refine Z6o ?_;try clear HBW hFS hTF hsz;clear hb hHeld;intro hS1 HBW hFS hTF hsz
 refine hK.out _ _ ?_ (fun hHeld=>?_)
 ·exact hS1
 clear hK K
 refine Z5y ?_
 refine Z9w ?_
 refine Z5y ?_
 refine Z9f ?_
 refine Z5y ?_
 refine Zan ?_
 refine Z5y ?_
 refine Z9o ?_
 refine Z5y ?_
 refine Tk.y 11 (v:=?_) rfl ?_ ?_
 rotate_left
 ·exact Z5n
 refine Z5y ?_
 refine Zag ?_
 refine Z5y ?_
 refine Za6 ?_
 refine Z5y ?_
 refine Tk.x 14 rfl ?_
 refine Z5y ?_
 refine Tk.x 15 rfl ?_
 refine Z5y ?_
 refine Zak ?_
 refine Z5y ?_
 refine Tk.y 17 (v:=?_) rfl ?_ ?_
 rotate_left
 ·exact Z5n
 refine Z5y ?_
 refine Tk.x 18 rfl ?_
 refine Z5y ?_
 refine Tk.x 19 rfl ?_
 refine Z5y ?_
 refine Tk.y 20 (v:=?_) rfl ?_ ?_
 rotate_left
 ·exact Z5n
 refine Z5y ?_
 refine Tk.x 21 rfl ?_
 refine Z5y ?_
 refine Tk.x 22 rfl ?_
 refine Z5y ?_
 refine Z6y ?_
 obtain⟨⟨z0,z1,z2⟩,z4,z5,z6⟩:=hFS.out
 obtain⟨f0,f1,f2⟩:=hTF.out
 exact Z9
):p:=h
theorem Z3a {p:Prop} (h:p:=by
 refine (HL.out _ HR.out HRW.out HRB.out).mono ?_
 rintro e we ⟨v9,rfl,ho,hb⟩
 obtain⟨k1,k2,k3,k4,k5,k6,k7⟩:=hHeld
 have hS1:=And.intro ((hb.cell (p:=⟨g6,0,none⟩) Zba).trans k1) (And.intro ((hb.cell (p:=⟨g6,1,none⟩) Zba).trans k2) (And.intro ((hb.cell (p:=⟨g6,2,none⟩) Zba).trans k3) (And.intro ((hb.cell (p:=⟨w.heap.size,3,none⟩) Zba).trans k4) (And.intro ((hb.cell (p:=⟨w.heap.size+1,7,none⟩) Zba).trans k5) (And.intro ((hb.cell (p:=⟨w.heap.size+1,9,none⟩) Zba).trans k6) ((hb.cell (p:=⟨w.heap.size+1,10,none⟩) Zba).trans k7))))))
 replace HBW:=hid (HBW.out.trans (hb.mono HBW.out.size))
 replace FR:=hid (FR.out.below Zb3 hb)
 have HO:=hid (Kit.zah ho (show g6+1≤_ by omega))
 clear hb ho k1 k2 k3 k4 k5 k6 k7 HR HRW HRB HL hzn
 dsimp only
 refine hK.out _ _ ?_ (fun hHeld=>?_)
 ·exact hS1
 clear hK Kq
 refine Z5y ?_
 obtain⟨V9,c9,rfl, -, -, -⟩:=Kit.zaj HO.out
 refine Z9o ?_
 refine Z5y ?_
 obtain⟨⟨z0,z1',z2',z3⟩,z4,z5,z6,z7⟩:=FR.out
 obtain⟨k1,k2,k3,k4,k5,k6,k7⟩:=hHeld
 have u1:g6≠w.heap.size+2:=by omega
 have u2:w.heap.size+2≠g6:=by omega
 refine Tk.s 11 rfl (fun Kq hK=>?_)
 go_simp
 refine hK.out _ _ ?_ (fun hHeld=>?_)
 ·exact⟨by go_cell,by go_cell,by go_cell,by go_cell,by go_cell,by go_cell,by go_cell⟩
 clear hK Kq
 refine Z5y ?_
 refine Zag ?_
 refine Z5y ?_
 refine Z6y ?_
 clear hHeld k1 k2 k3 k4 k5 k6 k7
 go_wp2_with fail
 refine bodyPost_ret (Kit.zaa rfl _ _ (w.heap.size+2) 0 [Jj Jq 1,Jj Jq 1,Jj Jq O,.slice V9 nB c9] _ rfl (zao Zb6 Zb6 Zb6 Zb6) Tryz.underlying41 rfl Zb5) rfl ?_
 refine⟨_,rfl,Kit.zah (own_set9 HO.out Zb3) Zb3,?_⟩
 exact Zd
):p:=h
theorem Z3b {p:Prop} (h:p:=by
 exact Z5n
):p:=h
theorem Z3c {p:Prop} (h:p:=by
 rintro e we ⟨rfl,hb⟩
 refine Z6o ?_;try clear HBW hFS hTF hsz;clear hb hHeld;intro hS1 HBW hFS hTF hsz
 refine hK.out _ _ ?_ (fun hHeld=>?_)
 ·exact hS1
 clear hK K
 refine Z5y ?_
 refine Z9w ?_
 refine Z5y ?_
 refine Z9f ?_
 refine Z5y ?_
 refine Zan ?_
 refine Z5y ?_
 refine Tk.t 10 (v:=undef) rfl (Or.inr ⟨by rfl,rfl⟩) Zbd ?_
 refine Z5y ?_
 refine Tk.t 11 (v:=undef) rfl (Or.inr ⟨by rfl,rfl⟩) Zbd ?_
 refine Z5y ?_
 refine Tk.t 12 (v:=undef) rfl (Or.inr ⟨by rfl,rfl⟩) Zbd ?_
 refine Z5y ?_
 refine Tk.t 13 (v:=undef) rfl (Or.inr ⟨by rfl,rfl⟩) Zbd ?_
 exact Z7
):p:=h
theorem Z3d {p:Prop} (h:p:=by
 intro wS hSw
 obtain⟨s1,s2,s3,s4⟩:=hSw
 exact Z0
):p:=h
theorem Z3e {p:Prop} (h:p:=by
 refine bodyPost_ret (Kit.zaa rfl _ _ (w.heap.size+2) 0 [Jj Jq 0,Jj Jq 0,Jj Jq 0,.slice none 0 0] _ rfl (zao Zb6 Zb6 Zb6 Zb6) Tryz.underlying41 rfl Zb5) rfl ?_
 exact Z8
):p:=h
theorem Z3f {p:Prop} (h:p:=by
 clear ha hb2 hr1 hr2 hr hs
 have HE:=hid he
 have HS:=hid hS
 clear he hS
 go_enter Tryz.func74,Tryz.ntmps74
 go_wp2_with (go_at_call 98;(refine (zb1 H W C K S P O 0 _ HE.out HS.out _).mono ?_);(rintro e' w1 ⟨rfl,hb⟩;obtain⟨hcc,hff⟩:=Kit.bcell hb;have hz:w.heap.size+3≤w1.heap.size:=Zbb;have hz2:w.heap.size+2 < w1.heap.size:=Zb3;have hz1:w.heap.size+1 < w1.heap.size:=Zb3;have hz0:w.heap.size < w1.heap.size:=Zb3;have HB:=hid hb;clear hb))
 exact Z1
):p:=h
theorem Z3g {p:Prop} (h:p:=by
 clear ha hb2 hr1 hr2 hr hs
 have HE:=hid he
 have HS:=hid hS
 clear he hS
 go_enter Tryz.func86,Tryz.ntmps86
 go_wp2_with (go_at_call 66;(refine (zbl H W C K S P O 0 _ HE.out HS.out _).mono ?_);(rintro e' w1 ⟨rfl,hb⟩;obtain⟨hcc,hff⟩:=Kit.bcell hb;have hz:w.heap.size+3≤w1.heap.size:=Zbb;have hz2:w.heap.size+2 < w1.heap.size:=Zb3;have hz1:w.heap.size+1 < w1.heap.size:=Zb3;have hz0:w.heap.size < w1.heap.size:=Zb3;have HB:=hid hb;clear hb))
 exact Z1
):p:=h
theorem Z3h {p:Prop} (h:p:=by
 clear ha hb2 hr1 hr2 hr hs
 have HE:=hid he
 have HS:=hid hS
 clear he hS
 go_enter Tryz.func82,Tryz.ntmps82
 go_wp2_with (go_at_call 98;(refine (zb1 H W C K S P C 0 _ HE.out HS.out _).mono ?_);(rintro e' w1 ⟨rfl,hb⟩;obtain⟨hcc,hff⟩:=Kit.bcell hb;have hz:w.heap.size+3≤w1.heap.size:=Zbb;have hz2:w.heap.size+2 < w1.heap.size:=Zb3;have hz1:w.heap.size+1 < w1.heap.size:=Zb3;have hz0:w.heap.size < w1.heap.size:=Zb3;have HB:=hid hb;clear hb))
 exact Z1
):p:=h
theorem Z3i {p:Prop} (h:p:=by
 clear ha hb2 hr1 hr2 hr hs
 have HE:=hid he
 have HS:=hid hS
 clear he hS
 go_enter Tryz.func88,Tryz.ntmps88
 go_wp2_with (go_at_call 66;(refine (zbl H W C K S P C 0 _ HE.out HS.out _).mono ?_);(rintro e' w1 ⟨rfl,hb⟩;obtain⟨hcc,hff⟩:=Kit.bcell hb;have hz:w.heap.size+3≤w1.heap.size:=Zbb;have hz2:w.heap.size+2 < w1.heap.size:=Zb3;have hz1:w.heap.size+1 < w1.heap.size:=Zb3;have hz0:w.heap.size < w1.heap.size:=Zb3;have HB:=hid hb;clear hb))
 exact Z1
):p:=h
theorem Z3j {p:Prop} (h:p:=by
 refine bodyPost_ret (Kit.zaa rfl _ _ (w.heap.size+3) 0 [Jj Jq 0,Jj Jq 0,Jj Jq 0,.slice none 0 0] _ rfl (zba Zb6 Zb6 Zb6 Zb6) Tryz.underlying32 rfl Zb5) rfl ?_
 refine⟨_,rfl,zco _ _,?_⟩
 exact Z6
):p:=h
theorem Z3k {p:Prop} (h:p:=by
 refine Tk.x 29 rfl ?_
 refine Z5y ?_
 refine Tk.x 30 rfl ?_
 refine Z5y ?_
 refine Tk.t 31 (v:=undef) rfl (Or.inr ⟨by rfl,by rfl⟩) Zbd ?_
 refine Z5y ?_
 refine Tk.t 32 (v:=undef) rfl (Or.inr ⟨by rfl,by rfl⟩) Zbd ?_
 refine Z5y ?_
 refine Tk.t 33 (v:=undef) rfl (Or.inr ⟨by rfl,by rfl⟩) Zbd ?_
 refine Z5y ?_
 refine Tk.t 34 (v:=undef) rfl (Or.inr ⟨by rfl,by rfl⟩) Zbd ?_
 refine Z5y ?_
 refine Tk.t 35 (v:=undef) rfl (Or.inr ⟨by rfl,by rfl⟩) Zbd ?_
 refine Z5y ?_
 exact Z5q
):p:=h
theorem Z3l {p:Prop} (h:p:=by
 intro wS hSw
 obtain⟨hq1,hq2,hq3⟩:=hSw
 obtain⟨s1,s2,s3⟩:=hq3;clear hq1 hq2
 exact Z0
):p:=h
theorem Z3m {p:Prop} (h:p:=by
 go_upto_region 1 with fail
 obtain⟨W0,hW0,TN,HB,hz,TA,FR⟩:=HE.out
 rw [← hW0]
 clear hW0 HE
 obtain⟨k00,k01,k02,k03⟩:=TA.out
 obtain⟨⟨z0,z1,z2,z3⟩,f0,f1,f2,f3⟩:=FR.out
 have q0:=TN.out.at 0 (Jj Jq x.kd) rfl
 have hk:=HK.out
 have e1:(x.kd == 1)=false:=by simp;omega
 have g1:¬ x.kd=1:=by omega
 have e2:(x.kd == 2)=false:=by simp;omega
 have g2:¬ x.kd=2:=by omega
 have e3:(x.kd == 3)=false:=by simp;omega
 have g3:¬ x.kd=3:=by omega
 go_wp2_with fail
 refine bodyPost_ret (Kit.zaa rfl _ _ (w.heap.size+2) 0 [Jj Jq 0,Jj Jq 0,Jj Jq 0,.slice none 0 0] _ rfl (zba Zb6 Zb6 Zb6 Zb6) Tryz.underlying41 rfl Zb5) rfl ?_
 refine⟨_,rfl,zco _ _,?_⟩
 exact Zi
):p:=h
theorem Z3n {p:Prop} (h:p:=by
 rintro e w2 ⟨rfl,hb⟩
 refine Z6g ?_;try clear TS0 yTS0 TN yTN FS yFS TF yTF HBW;intro hh TS0 yTS0 TN yTN FS yFS TF yTF HBW
 clear ts0p0 ts0p1 ts0p2 tfp0 tfp1 tfp2
 exact Z5r
):p:=h
theorem Z3o {p:Prop} (h:p:=by
 refine Tk.x 15 rfl ?_
 refine Z5y ?_
 refine Zak ?_
 refine Z5y ?_
 refine Tk.t 17 (v:=undef) rfl (Or.inr ⟨by rfl,by rfl⟩) Zbd ?_
 refine Z5y ?_
 refine Tk.t 18 (v:=undef) rfl (Or.inr ⟨by rfl,by rfl⟩) Zbd ?_
 refine Z5y ?_
 refine Tk.t 19 (v:=undef) rfl (Or.inr ⟨by rfl,by rfl⟩) Zbd ?_
 refine Z5y ?_
 refine Tk.t 20 (v:=undef) rfl (Or.inr ⟨by rfl,by rfl⟩) Zbd ?_
 refine Z5y ?_
 refine Tk.t 21 (v:=undef) rfl (Or.inr ⟨by rfl,by rfl⟩) Zbd ?_
 exact Zg
):p:=h
theorem Z3p {p:Prop} (h:p:=by
 exact (((HB.out.setCell (p:=⟨w.heap.size+3,0,none⟩) (Nat.le_add_right _ _) _).setCell (p:=⟨w.heap.size+3,1,none⟩) (Nat.le_add_right _ _) _).setCell (p:=⟨w.heap.size+3,2,none⟩) (Nat.le_add_right _ _) _).setCell (p:=⟨w.heap.size+3,3,none⟩) (Nat.le_add_right _ _) _
):p:=h
theorem Z3q {p:Prop} (h:p:=by
 rintro e w2 ⟨rfl,hb⟩
 refine Z6r ?_;intro hh
 refine Z60 ?_;try clear TB yTB TN yTN FR yFR;intro TB yTB TN yTN FR yFR
 refine Z74 ?_;try clear HBW;intro HBW
 clear tbp0 tbp1 tbp2 tbp3
 obtain⟨⟨z0,z1,z2,z3⟩,z4,z5,z6,z7⟩:=FR.out
 obtain⟨tbp0,tbp1,tbp2,tbp3⟩:=TB.out
 clear hb hh hal
 go_wp2_with fail
 exact Zf
):p:=h
theorem Z3r {p:Prop} (h:p:=by
 intro wS hSw
 have q:=hSw.at 11 (.int .i32 x.m1) rfl
 have q2:=hSw.at 12 (Jj Jq x.s1) rfl
 have q3:=hSw.at 13 (.int .i8 x.z1) rfl
 exact Z0
):p:=h
theorem Z3s {p:Prop} (h:p:=by
 go_wp2
 go_roundw
 case rel=>exact⟨_,_,by omega,by go_num,HT,hid HG.out.drew,hid HR1.out.drew,hid HU1.out.drew,hid HV1.out.drew,hid HB1.out.drew⟩
 case measure=>simp [intOf]
):p:=h
theorem Z3t {p:Prop} (h:p:=by
 refine Tk.s 13 rfl (fun K hK=>?_)
 refine Kit.zar _ rfl (.tmp 36) (.tmp 47) _ rfl (w.heap.size+4) 22 i0 (.int .i8 0) 1 1 Tryz.underlying23 hi0 hi1 hi2 hi3 rfl Zbc _ (o+k) (I8s (rowL F (o+k))) rfl HO2.out _ _ 1 1 [.int .i8 x] rfl rfl HXR.out (Kit.za5 .i8 [x]) (by unfold maxLen;omega) Zb3 Zb3 ?_
 intro v5 w5 hown5 hg5 _
 obtain⟨A5,c5,rfl, -, -, -⟩:=Kit.zaj hown5
 have hb5:Below (w.heap.size+4) Wc2 w5:=(Below.refl _ _).grown hg5 hz (Kit.zaq HO2.out)
 exact Zs
):p:=h
theorem Z3u {p:Prop} (h:p:=by
 refine Tk.s 5 rfl (fun Kq hK=>?_)
 refine Kit.zar _ rfl (.tmp 80) (.tmp 83) _ rfl (g6+2) 22 i0 (.int .i8 0) 1 1 Tryz.underlying23 hi0 hi1 hi2 hi3 rfl Zbc _ k (I8s (rowL F k)) rfl hW3.out _ _ 1 1 [.int .i8 x] rfl rfl HXR.out (Kit.za5 .i8 [x]) (by unfold maxLen;omega) Zb3 Zb3 ?_
 intro v5 w5 hown5 hg5 _
 obtain⟨A5,c5,rfl, -, -, -⟩:=Kit.zaj hown5
 have hb5:Below (g6+2) Wq2 w5:=(Below.refl _ _).grown hg5 hsz (Kit.zaq hW3.out)
 exact Zl
):p:=h
theorem Z3v {p:Prop} (h:p:=by
 intro wS hSw
 obtain⟨k1,k2,k3,k4,k5,k6,k7⟩:=hSw
 exact Z0
):p:=h
theorem Z3w {p:Prop} (h:p:=by
 refine Tk.s 15 rfl (fun Kq hK=>?_)
 refine Kit.zar _ rfl (.tmp 48) (.tmp 61) _ rfl (g+1) 22 i0 (.int .i8 0) 1 1 Tryz.underlying23 hi0 hi1 hi2 hi3 rfl Zbc _ k (I8s (rowL F k)) rfl HW0.out _ _ 1 1 [.int .i8 Rk] rfl rfl HXR.out (Kit.za5 .i8 [Rk]) (by unfold maxLen;omega) Zb3 hz ?_
 intro v5 w5 hown5 hg5 _
 obtain⟨A5,c5,rfl, -, -, -⟩:=Kit.zaj hown5
 have hb5:Below (g+1) Wq2 w5:=(Below.refl _ _).grown hg5 hz (Kit.zaq HW0.out)
 exact Zm
):p:=h
theorem Z3x {p:Prop} (h:p:=by
 refine Tk.s 10 rfl (fun Kq hK=>?_)
 refine Kit.zar _ rfl (.tmp 28) (.tmp 36) _ rfl (g+1) 22 i0 (.int .i8 0) 1 1 Tryz.underlying23 hi0 hi1 hi2 hi3 rfl Zbc _ k (I8s (rowL F k)) rfl HW0.out _ _ 1 1 [.int .i8 Rk] rfl rfl HXR.out (Kit.za5 .i8 [Rk]) (by unfold maxLen;omega) Zb3 hz ?_
 intro v5 w5 hown5 hg5 _
 obtain⟨A5,c5,rfl, -, -, -⟩:=Kit.zaj hown5
 have hb5:Below (g+1) Wq2 w5:=(Below.refl _ _).grown hg5 hz (Kit.zaq HW0.out)
 exact Zn
):p:=h
theorem Z3y {p:Prop} (h:p:=by
 intro wS hSw
 have q11:=hSw.1.at 11 (.int .i32 x.m1) rfl
 have q12:=hSw.1.at 12 (Jj Jq x.s1) rfl
 have q13:=hSw.1.at 13 (.int .i8 x.z1) rfl
 exact Z0
):p:=h
theorem Z3z {p:Prop} (h:p:=by
 intro wS hSw
 have q11:=hSw.2.at 11 (.int .i32 y.m1) rfl
 have q12:=hSw.2.at 12 (Jj Jq y.s1) rfl
 have q13:=hSw.2.at 13 (.int .i8 y.z1) rfl
 exact Z0
):p:=h
theorem Z40 {p:Prop} (h:p:=by
 refine Zal ?_;intro hB1
 exact⟨rfl,by exact (((hB1.setCell (p:=⟨w.heap.size+2,0,none⟩) Zb7 _).setCell (p:=⟨w.heap.size+2,1,none⟩) Zb7 _).setCell (p:=⟨w.heap.size+2,2,none⟩) Zb7 _).alloc Zba _⟩
):p:=h
theorem Z41 {p:Prop} (h:p:=by
 rw [HNN.out] at hW0
 clear s1 s2 s3
 obtain⟨-, -,⟨⟨z0,z1,z2,z3⟩,z4,z5,z6,z7⟩,⟨s1,s2,s3⟩,hbw,hsz⟩:=hA0.out
 have HBW:=hid hbw
 clear hbw
 rw [HNN.out]
 go_wp2_with fail
 refine bodyPost_ret (Kit.zaa rfl _ _ (w.heap.size+2) 0 [Jj Jq (i:Int),Jj Jq (b:Int),Jj Jq C,.slice Av0 N cv0] _ rfl (zao Zb6 Zb6 Zb6 Zb6) Tryz.underlying32 rfl Zb5) rfl ?_
 exact Zz
):p:=h
theorem Z42 {p:Prop} (h:p:=by
 intro wS hSw
 obtain⟨hq1,hq2⟩:=hSw
 obtain⟨s1,s2,s3,s4⟩:=hq1;clear hq2
 exact Z0
):p:=h
theorem Z43 {p:Prop} (h:p:=by
 obtain⟨s1,s2,s3,s4⟩:=hq1;clear hq2
 exact Z0
):p:=h
theorem Z44 {p:Prop} (h:p:=by
 go_wp2_with fail
 refine bodyPost_ret (Kit.zaa rfl _ _ (w.heap.size+2) 0 [Jj Jq 0,Jj Jq 0,Jj Jq 0] _ rfl (Kit.za3 Zb6 Zb6 Zb6) Tryz.underlying30 rfl Zb5) rfl ?_
 exact Z5o
):p:=h
theorem Z45 {p:Prop} (h:p:=by
 refine⟨_,rfl,Kit.zah (zat (zat (zat (zat HO.out _ _ ?_) _ _ ?_) _ _ ?_) _ _ ?_) ?_,?_⟩
 any_goals (first | omega | (simp;done) | (simp;omega))
 exact ((((HB.out.setCell (p:=⟨w.heap.size+1,0,none⟩) Zb7 _).setCell (p:=⟨w.heap.size+1,1,none⟩) Zb7 _).setCell (p:=⟨w.heap.size+1,2,none⟩) Zb7 _).setCell (p:=⟨w.heap.size+1,3,none⟩) Zb7 _)
):p:=h
theorem Z46 {p:Prop} (h:p:=by
 refine⟨_,rfl,Kit.zah (za0 HO3.out ?_) ?_,?_⟩
 any_goals (first | exact HGE.out | exact HGT.out | omega | (simp;done) | (simp;omega))
 exact (((HBW.out.setCell (p:=⟨w.heap.size+2,0,none⟩) Zb7 _).setCell (p:=⟨w.heap.size+2,1,none⟩) Zb7 _).setCell (p:=⟨w.heap.size+2,2,none⟩) Zb7 _).setCell (p:=⟨w.heap.size+2,3,none⟩) Zb7 _
):p:=h
theorem Z47 {p:Prop} (h:p:=by
 refine Z9g ?_;intro hs2 hB hB2
 exact Zv
):p:=h
theorem Z48 {p:Prop} (h:p:=by
 exact⟨_,rfl,World.ownsRow_nil _ _ _ _,by exact ((((HBW.out.setCell (p:=⟨w.heap.size+2,0,none⟩) Zb7 _).setCell (p:=⟨w.heap.size+2,1,none⟩) Zb7 _).setCell (p:=⟨w.heap.size+2,2,none⟩) Zb7 _).setCell (p:=⟨w.heap.size+2,3,none⟩) Zb7 _).alloc Zba _⟩
):p:=h
theorem Z49 {p:Prop} (h:p:=by
 intro wS hSw
 have q:=hSw.1.at 9 (.slice x.WA x.nW x.cW) rfl
 exact Z0
):p:=h
theorem Z4a {p:Prop} (h:p:=by
 intro wS hSw
 have q:=hSw.2.at 9 (.slice y.WA y.nW y.cW) rfl
 exact Z0
):p:=h
theorem Z4b {p:Prop} (h:p:=by
 go_simp
 refine hK.out _ _ ?_ (fun hHeld=>?_)
 ·exact HS.out _ HB9.out
 clear hK Kq
 refine Z5y ?_
 refine Z6y ?_
 clear hHeld ov3 ovf HT0 HW0 HB0 hz hb9 HS
 go_wp2_with fail
 go_roundw
 case rel=>exact⟨k+1,_,by omega,by go_num,HT9,HW9,HB9,hz9⟩
 case measure=>simp [intOf];omega
):p:=h
theorem Z4c {p:Prop} (h:p:=by
 intro wS hSw
 obtain⟨k1,k2,k3,k4,k5,k6⟩:=hSw
 exact Z0
):p:=h
theorem Z4d {p:Prop} (h:p:=by
 obtain rfl:b=false:=by rw [← HB.out];simp [zcy];omega
 go_enter Tryz.func124,Tryz.ntmps124
 exact Z1f
):p:=h
theorem Z4e {p:Prop} (h:p:=by
 exact (((HB.out.setCell (p:=⟨w.heap.size+2,0,none⟩) (Nat.le_add_right _ _) _).setCell (p:=⟨w.heap.size+2,1,none⟩) (Nat.le_add_right _ _) _).setCell (p:=⟨w.heap.size+2,2,none⟩) (Nat.le_add_right _ _) _).setCell (p:=⟨w.heap.size+2,3,none⟩) (Nat.le_add_right _ _) _
):p:=h
theorem Z4f {p:Prop} (h:p:=by
 intro wS hSw
 have q14:=hSw.1.at 14 (.int .i32 x.m2) rfl
 have q15:=hSw.1.at 15 (Jj Jq x.s2) rfl
 have q16:=hSw.1.at 16 (.int .i8 x.z2) rfl
 exact Z0
):p:=h
theorem Z4g {p:Prop} (h:p:=by
 intro wS hSw
 have q14:=hSw.2.at 14 (.int .i32 y.m2) rfl
 have q15:=hSw.2.at 15 (Jj Jq y.s2) rfl
 have q16:=hSw.2.at 16 (.int .i8 y.z2) rfl
 exact Z0
):p:=h
theorem Z4h {p:Prop} (h:p:=by
 exact⟨_,rfl,World.ownsRow_nil _ _ _ _,by exact (((HBW.out.setCell (p:=⟨w.heap.size+3,0,none⟩) Zb7 _).setCell (p:=⟨w.heap.size+3,1,none⟩) Zb7 _).setCell (p:=⟨w.heap.size+3,2,none⟩) Zb7 _).setCell (p:=⟨w.heap.size+3,3,none⟩) Zb7 _⟩
):p:=h
theorem Z4i {p:Prop} (h:p:=by
 have hn9:=hq2.at 3 _ rfl;clear hq1 hq2
 exact Z0
):p:=h
theorem Z4j {p:Prop} (h:p:=by
 obtain⟨⟨z0,z1,z2,z3⟩,z4,z5,z6,z7⟩:=FR.out
 refine bodyPost_ret (Kit.zaa rfl _ _ (w.heap.size+2) 0 [Jj Jq 0,Jj Jq 0,Jj Jq 0,.slice none 0 0] _ rfl (zao Zb6 Zb6 Zb6 Zb6) Tryz.underlying32 rfl Zb5) rfl ?_
 exact Zk
):p:=h
theorem Z4k {p:Prop} (h:p:=by
 intro wS hSw
 have q:=hSw.1.at 10 (.slice x.BA x.nB x.cB) rfl
 exact Z0
):p:=h
theorem Z4l {p:Prop} (h:p:=by
 intro wS hSw
 have q:=hSw.2.at 10 (.slice y.BA y.nB y.cB) rfl
 exact Z0
):p:=h
theorem Z4m {p:Prop} (h:p:=by
 go_wp2_with fail
 refine bodyPost_ret (Kit.zaa rfl _ _ (w.heap.size+2) 0 [Jj Jq (i:Int),Jj Jq (b:Int),Jj Jq C,.slice Av0 N cv0] _ rfl (zao Zb6 Zb6 Zb6 Zb6) Tryz.underlying41 rfl Zb5) rfl ?_
 exact Zz
):p:=h
theorem Z4n {p:Prop} (h:p:=by
 have hb:=zcs h1 h2 h3 h4 h5 h6
 obtain⟨b1,b2⟩:=hb
 have a1:1≤h * w:=Int.mul_le_mul h1 h3 Zb3 Zb3
 have a2:h * w≤256:=Int.mul_le_mul h2 h4 Zb3 Zb3
 subst hn
 go_enter Tryz.func65,Tryz.ntmps65
 go_wp2
 exact Z1a
):p:=h
theorem Z4o {p:Prop} (h:p:=by
 intro wS hSw
 obtain⟨hq1,hq2⟩:=hSw
 obtain⟨z1,z2,z3⟩:=hq1;clear hq2
 exact Z0
):p:=h
theorem Z4p {p:Prop} (h:p:=by
 refine bodyPost_ret (Kit.zaa rfl _ _ (w.heap.size+2) 0 [Jj Jq 0,Jj Jq 0,Jj Jq 0,.slice none 0 0] _ rfl (zao Zb6 Zb6 Zb6 Zb6) Tryz.underlying32 rfl Zb5) rfl ?_
 exact Z8
):p:=h
theorem Z4q {p:Prop} (h:p:=by
 refine bodyPost_ret (Kit.zaa rfl _ _ (wd.heap.size+1) 0 [Jj Jq 0,Jj Jq 0,Jj Jq 0] _ rfl (Kit.za3 Zb6 Zb6 Zb6) Tryz.underlying30 rfl Zb5) rfl ?_
 exact⟨rfl,by go_grown⟩
):p:=h
theorem Z4r {p:Prop} (h:p:=by
 intro wS hSw
 have q:=hSw.at 17 (.int .i8 x.lo) rfl
 exact Z0
):p:=h
theorem Z4s {p:Prop} (h:p:=by
 intro wS hSw
 have q:=hSw.at 18 (.int .i8 x.hi) rfl
 exact Z0
):p:=h
theorem Z4t {p:Prop} (h:p:=by
 go_roundw
 case rel=>exact⟨k+1,_,by omega,by go_num,hA4,hT4,hW4,hz4⟩
 case measure=>simp [intOf];omega
):p:=h
theorem Z4u {p:Prop} (h:p:=by
 refine bodyPost_ret (Kit.zaa rfl _ _ (w.heap.size+2) 0 [Jj Jq m,Jj Jq m2,Jj Jq O] _ rfl (Kit.za3 Zb6 Zb6 Zb6) Tryz.underlying30 rfl Zb5) rfl ?_
 exact Z2
):p:=h
theorem Z4v {p:Prop} (h:p:=by
 refine bodyPost_ret (Kit.zaa rfl _ _ (w.heap.size+2) 0 [Jj Jq m,Jj Jq m2,Jj Jq C] _ rfl (Kit.za3 Zb6 Zb6 Zb6) Tryz.underlying30 rfl Zb5) rfl ?_
 exact Z2
):p:=h
theorem Z4w {p:Prop} (h:p:=by
 go_enter Tryz.func48,Tryz.ntmps48
 exact Z19
):p:=h
theorem Z4x {p:Prop} (h:p:=by
 intro wS hSw
 obtain⟨hq1,hq2,hq3⟩:=hSw
 obtain⟨s1,s2,s3,s4⟩:=hq1;clear hq2 hq3
 exact Z0
):p:=h
theorem Z4y {p:Prop} (h:p:=by
 intro wS hSw
 obtain⟨hq1,hq2,hq3⟩:=hSw
 clear hq1 hq2
 exact Z0
):p:=h
theorem Z4z {p:Prop} (h:p:=by
 by_cases hq:P≤9223372036854775807
 ·rw [fitZ_yes Zb3 Zb3,fits_yes Zb3 Zb3]
  exact Zy
 ·rw [fitZ_no Zb3,fits_no Zb3]
  exact Zy
):p:=h
theorem Z50 {p:Prop} (h:p:=by
 intro wS hSw
 obtain⟨s1,s2,s3⟩:=hSw
 exact Z0
):p:=h
theorem Z51 {p:Prop} (h:p:=by
 subst hz hRz
 go_enter Tryz.func112,Tryz.ntmps112
 exact Z19
):p:=h
theorem Z52 {p:Prop} (h:p:=by
 intro wS hSw
 have g:=G0.out
 exact Z11
):p:=h
theorem Z53 {p:Prop} (h:p:=by
 intro wS hSw
 have q:=hSw.at 3 (Jj Jq x.K) rfl
 exact Z0
):p:=h
theorem Z54 {p:Prop} (h:p:=by
 intro wS hSw
 have q:=hSw.at 4 (Jj Jq x.S) rfl
 exact Z0
):p:=h
theorem Z55 {p:Prop} (h:p:=by
 intro wS hSw
 obtain⟨hq1,hq2,hq3,hq4⟩:=hSw
 exact Z0
):p:=h
theorem Z56 {p:Prop} (h:p:=by
 intro wS hSw
 obtain⟨hq1,hq2⟩:=hSw
 have q11:=hq2.at 11 _ rfl;have q12:=hq2.at 12 _ rfl;have q13:=hq2.at 13 _ rfl;clear hq1 hq2
 exact Z0
):p:=h
theorem Z57 {p:Prop} (h:p:=by
 obtain⟨hs1,hn1⟩:zam H W C=true∧(n:Int)=H * W * C:=by simpa [tensB] using ht
 obtain⟨g1,g2,g3,g4,g5,g6,g7⟩:=zac hs1
 exact Z21
):p:=h
theorem Z58 {p:Prop} (h:p:=by
 obtain⟨hs,hn⟩:zam H W C=true∧(n:Int)=H * W * C:=by simpa [tensB] using h
 obtain⟨g1,g2,g3,g4,g5,g6,g7⟩:=zac hs
 exact Z21
):p:=h
theorem Z59 {p:Prop} (h:p:=by
 intro wS hSw
 have q:=hSw.at 10 (.slice x.BA x.nB x.cB) rfl
 exact Z0
):p:=h
theorem Z5a {p:Prop} (h:p:=by
 intro wS hSw
 have q:=hSw.at 9 (.slice x.WA x.nW x.cW) rfl
 exact Z0
):p:=h
theorem Z5b {p:Prop} (h:p:=by
 have hn9:=hq2.at 4 _ rfl;clear hq1 hq2
 exact Z0
):p:=h
theorem Z5c {p:Prop} (h:p:=by
 have hn9:=hq2.at 5 _ rfl;clear hq1 hq2
 exact Z0
):p:=h
theorem Z5d {p:Prop} (h:p:=by
 intro wS hSw
 have g:=G1.out
 exact Z11
):p:=h
theorem Z5e {p:Prop} (h:p:=by
 rw [World.size_alloc] at h
 exact hid (h.below (B':=w.heap.size+2) Zb3 ((Below.refl _ _).alloc Zb7 _))
):p:=h
theorem Z5f {p:Prop} (h:p:=by
 go_wp2_with fail
 go_roundw
 case rel=>exact⟨j+1,by omega,by go_num,hA2,hW3⟩
 case measure=>simp [intOf];omega
):p:=h
theorem Z5g {p:Prop} (h:p:=by
 go_wp2_with fail
 go_roundw
 case rel=>exact⟨i+1,by omega,by go_num,hA1,hW3⟩
 case measure=>simp [intOf];omega
):p:=h
theorem Z5h {p:Prop} (h:p:=by
 refine⟨⟨S,?_,HA.out⟩,?_⟩
 ·unfold agg4
  rw [HS0.out,HS1.out,HS2.out,HS3.out]
 ·have:=hBw.out
  go_grown
):p:=h
theorem Z5i {p:Prop} (h:p:=by
 by_cases hq:P≤9223372036854775808
 ·exact Z1p
 ·rw [fitZ_no Zb3,fits_no Zb3]
  exact Zy
):p:=h
theorem Z5j {p:Prop} (h:p:=by
 rintro e we ⟨rfl,hb⟩
 refine Z6o ?_;try clear HBW hFS hTF hsz;clear hb hHeld;intro hS1 HBW hFS hTF hsz
 refine hK.out _ _ ?_ (fun hHeld=>?_)
 ·exact hS1
 clear hK K
 refine Z5y ?_
 refine Z9w ?_
 refine Z5y ?_
 refine Z9f ?_
 refine Z5y ?_
 refine Zan ?_
 refine Z5y ?_
 refine Z9o ?_
 refine Z5y ?_
 refine Tk.y 11 (v:=?_) rfl ?_ ?_
 rotate_left
 ·exact Z3b
 refine Z5y ?_
 refine Zag ?_
 refine Z5y ?_
 refine Za6 ?_
 exact Z7
):p:=h
theorem Z5k {p:Prop} (h:p:=by
 go_wp2_with (go_at_call 22;(refine (zal H W C A n c false HT.out _).mono ?_);(rintro e w1 ⟨rfl,hb⟩;obtain⟨hcc,hff⟩:=Kit.bcell hb;have hz:w.heap.size+3≤w1.heap.size:=Zbb;have hz2:w.heap.size+2 < w1.heap.size:=Zb3;have HB:=hid hb;clear hb))
 exact Z3e
):p:=h
theorem Z5l {p:Prop} (h:p:=by
 refine Tk.s 10 rfl (fun Kq hK=>?_)
 refine Kit.zar _ rfl (.tmp 48) (.tmp 56) _ rfl (g6+2) 21 i0 (.int .i32 0) 1 4 Tryz.underlying24 hi0 hi1 hi2 hi3 rfl Zbc _ (o+k) (I32v (rowL F (o+k))) rfl hW3.out _ _ 1 1 [.int .i32 x] rfl rfl HXR.out (Kit.za5 .i32 [x]) (by unfold maxLen;omega) Zb3 Zb3 ?_
 intro v5 w5 hown5 hg5 _
 obtain⟨A5,c5,rfl, -, -, -⟩:=Kit.zaj hown5
 have hb5:Below (g6+2) Wc2 w5:=(Below.refl _ _).grown hg5 hsz (Kit.zaq hW3.out)
 exact Z3
):p:=h
theorem Z5m {p:Prop} (h:p:=by
 go_wp2_with (go_at_call 13;(refine (CTensor.zak H W C A n c false HT.out _).mono ?_);(rintro e w1 ⟨rfl,hb⟩;obtain⟨hcc,hff⟩:=Kit.bcell hb;have hz:w.heap.size+3≤w1.heap.size:=Zbb;have hz2:w.heap.size+2 < w1.heap.size:=Zb3;have HB:=hid hb;clear hb))
 exact Z3e
):p:=h
theorem Z5n {p:Prop} (h:p:=by
 intro wS hSw
 obtain⟨s1,s2,s3,s4,s5,s6⟩:=hSw
 exact Z0
):p:=h
theorem Z5o {p:Prop} (h:p:=by
 exact⟨rfl,((HBW.out.setCell (p:=⟨w.heap.size+2,0,none⟩) Zb7 _).setCell (p:=⟨w.heap.size+2,1,none⟩) Zb7 _).setCell (p:=⟨w.heap.size+2,2,none⟩) Zb7 _⟩
):p:=h
theorem Z5p {p:Prop} (h:p:=by
 intro wS hSw
 obtain⟨hq1,hq2,hq3⟩:=hSw
 exact Z43
):p:=h
theorem Z5q {p:Prop} (h:p:=by
 refine Tk.x 36 rfl ?_
 refine Z5y ?_
 refine Tk.x 37 rfl ?_
 refine Z5y ?_
 refine Z6y ?_
 go_wp2_with fail
 go_ret
 exact⟨rfl,HB.out⟩
):p:=h
theorem Z5r {p:Prop} (h:p:=by
 refine Z90 ?_;intro ts0p0 ts0p1 ts0p2 tfp0 tfp1 tfp2
 clear hb hh hal
 obtain⟨⟨z0,z1,z2⟩,z4,z5,z6⟩:=FS.out
 exact Z9
):p:=h
theorem Z5s {p:Prop} (h:p:=by
 intro wS hSw
 obtain⟨hq1,hq2,hq3⟩:=hSw
 exact Z4i
):p:=h
theorem Z5t {p:Prop} (h:p:=by
 intro wS hSw
 obtain⟨hq1,hq2⟩:=hSw
 exact Z4i
):p:=h
theorem Z5u {p q:Prop} (k:q) (h:q→p:=by
 refine Zaw ?_;intro hh
 have qTS0:=(za2 H W C 30) w
 try simp only [World.size_alloc] at qTS0
 have TS0:=hid ((qTS0.below (B':=w.heap.size+1) Zb3 (((((Below.refl _ _).alloc Zb4 _).alloc Zb4 _).alloc Zb4 _).mono Zb7)).below Zb9 hb)
 have yTS0:w.heap.size < w1.heap.size:=by have:=hb.size;simp at this;omega
 clear qTS0
 have qTN:=(zae.new x0 x1 x2 x8 x11 x12 x13 x14 x15 x16 x17 x18 K S P O Z WA BA nW cW nB cB 28) (w.alloc (.cells #[Jj Jq H,Jj Jq W,Jj Jq C] 30))
 try simp only [World.size_alloc] at qTN
 have TN:=hid ((qTN.below (B':=w.heap.size+2) Zb3 ((((Below.refl _ _).alloc Zb4 _).alloc Zb4 _).mono Zb7)).below Zb9 hb)
 have yTN:w.heap.size+1 < w1.heap.size:=by have:=hb.size;simp at this;omega
 clear qTN
 have qFS:=(zbz.new 30) ((w.alloc (.cells #[Jj Jq H,Jj Jq W,Jj Jq C] 30)).alloc (.cells #[x0,x1,x2,Jj Jq K,Jj Jq S,Jj Jq P,Jj Jq O,.int .i8 Z,x8,.slice WA nW cW,.slice BA nB cB,x11,x12,x13,x14,x15,x16,x17,x18] 28))
 try simp only [World.size_alloc] at qFS
 have FS:=hid ((qFS.below (B':=w.heap.size+3) Zb3 (((Below.refl _ _).alloc Zb4 _).mono Zb7)).below Zb9 hb)
 have yFS:w.heap.size+2 < w1.heap.size:=by have:=hb.size;simp at this;omega
 clear qFS
 have qTF:=(za2 1 1 O 30) (((w.alloc (.cells #[Jj Jq H,Jj Jq W,Jj Jq C] 30)).alloc (.cells #[x0,x1,x2,Jj Jq K,Jj Jq S,Jj Jq P,Jj Jq O,.int .i8 Z,x8,.slice WA nW cW,.slice BA nB cB,x11,x12,x13,x14,x15,x16,x17,x18] 28)).alloc (.cells #[Jj Jq 0,Jj Jq 0,Jj Jq 0] 30))
 try simp only [World.size_alloc] at qTF
 have TF:=hid (qTF.below Zb9 hb)
 have yTF:w.heap.size+3 < w1.heap.size:=by have:=hb.size;simp at this;omega
 clear qTF
 have HBW:Hid (Below w.heap.size w w1):=hid hh
 intro hQ
 revert HBW;revert yTF;revert TF;revert yFS;revert FS;revert yTN;revert TN;revert yTS0;revert TS0;revert hh;exact hQ
):p:=h k
theorem Z5v {p q:Prop} (k:q) (h:q→p:=by
 refine Zaw ?_;intro hh
 have qTA:=(zav H W C A n c 32) w
 try simp only [World.size_alloc] at qTA
 refine Zaq ?_;intro TA yTA
 clear qTA
 have qTB:=(zav H' W' C' B m d 32) (w.alloc (.cells #[Jj Jq H,Jj Jq W,Jj Jq C,.slice A n c] 32))
 try simp only [World.size_alloc] at qTB
 refine Zar ?_;intro TB yTB
 clear qTB
 have qTN:=(zae.new x0 x1 x2 (.int .i8 Y) (.int .i32 m1) (Jj Jq s1) (.int .i8 z1) (.int .i32 m2) (Jj Jq s2) (.int .i8 z2) (.int .i8 lo) (.int .i8 hi) K S P O Z WA BA nW cW nB cB 28) ((w.alloc (.cells #[Jj Jq H,Jj Jq W,Jj Jq C,.slice A n c] 32)).alloc (.cells #[Jj Jq H',Jj Jq W',Jj Jq C',.slice B m d] 32))
 try simp only [World.size_alloc] at qTN
 refine Zas ?_;intro TN yTN
 clear qTN
 have qFR:=(zaw 32) (((w.alloc (.cells #[Jj Jq H,Jj Jq W,Jj Jq C,.slice A n c] 32)).alloc (.cells #[Jj Jq H',Jj Jq W',Jj Jq C',.slice B m d] 32)).alloc (.cells #[x0,x1,x2,Jj Jq K,Jj Jq S,Jj Jq P,Jj Jq O,.int .i8 Z,.int .i8 Y,.slice WA nW cW,.slice BA nB cB,.int .i32 m1,Jj Jq s1,.int .i8 z1,.int .i32 m2,Jj Jq s2,.int .i8 z2,.int .i8 lo,.int .i8 hi] 28))
 try simp only [World.size_alloc] at qFR
 refine Zau ?_;intro FR yFR
 clear qFR
 have HBW:Hid (Below w.heap.size w w1):=hid hh
 intro hQ
 revert HBW;revert yFR;revert FR;revert yTN;revert TN;revert yTB;revert TB;revert yTA;revert TA;revert hh;exact hQ
):p:=h k
theorem Z5w {p q:Prop} (k:q) (h:q→p:=by
 refine Zaw ?_;intro hh
 have qTB:=(zav H W C A n c 32) w
 try simp only [World.size_alloc] at qTB
 refine Zap ?_;intro TB yTB
 clear qTB
 refine Zb1 ?_;intro qTN
 refine Zat ?_;intro TN yTN
 clear qTN
 have qFR:=(zaw 41) ((w.alloc (.cells #[Jj Jq H,Jj Jq W,Jj Jq C,.slice A n c] 32)).alloc (.cells #[x0,x1,x2,Jj Jq K,Jj Jq S,Jj Jq P,Jj Jq O,.int .i8 Z,x8,.slice WA nW cW,.slice BA nB cB,x11,x12,x13,x14,x15,x16,x17,x18] 28))
 try simp only [World.size_alloc] at qFR
 have FR:=hid (qFR.below Zb9 hb)
 have yFR:w.heap.size+2 < w1.heap.size:=by have:=hb.size;simp at this;omega
 clear qFR
 intro hQ
 revert yFR;revert FR;revert yTN;revert TN;revert yTB;revert TB;revert hh;exact hQ
):p:=h k
theorem Z5x {p q:Prop} (k:q) (h:q→p:=by
 refine Zaw ?_;intro hh
 have qTB:=(zav H W C A n c 32) w
 try simp only [World.size_alloc] at qTB
 refine Zap ?_;intro TB yTB
 clear qTB
 refine Zb1 ?_;intro qTN
 refine Zat ?_;intro TN yTN
 clear qTN
 intro hQ
 revert yTN;revert TN;revert yTB;revert TB;revert hh;exact hQ
):p:=h k
theorem Z5y {p q:Prop} (k:q) (h:True∧q→p:=by
 intro hQ
 try simp only [Tk.put]
 exact hQ.2
):p:=h ⟨trivial,k⟩
theorem Z5z {p q:Prop} (k:q) (h:q→p:=by
 refine Zaw ?_;intro hh
 have qTB:=(zav H W C A n c 32) w
 try simp only [World.size_alloc] at qTB
 refine Zap ?_;intro TB yTB
 clear qTB
 intro hQ
 revert yTB;revert TB;revert hh;exact hQ
):p:=h k
theorem Z60 {p q:Prop} (k:q) (h:q→p:=by
 have TB:=hid (TB.out.below yTB hh)
 have yTB:=Nat.lt_of_lt_of_le yTB hh.size
 have TN:=hid (TN.out.below yTN hh)
 have yTN:=Nat.lt_of_lt_of_le yTN hh.size
 have FR:=hid (FR.out.below yFR hh)
 have yFR:=Nat.lt_of_lt_of_le yFR hh.size
 intro hQ
 revert yFR;revert FR;revert yTN;revert TN;revert yTB;revert TB;exact hQ
):p:=h k
theorem Z61 {p q:Prop} (k:q) (h:q→p:=by
 refine Zat ?_;intro TN yTN
 intro hQ
 revert yTN;revert TN;exact hQ
):p:=h k
theorem Z62 {p q:Prop} (k:q) (h:q→p:=by
 refine Zap ?_;intro TB yTB
 intro hQ
 revert yTB;revert TB;exact hQ
):p:=h k
theorem Z63 {p q:Prop} (k:q) (h:q→p:=by
 have hal:Below w.heap.size w ((((w.alloc (.cells #[Jj Jq H,Jj Jq W,Jj Jq C] 30)).alloc (.cells #[x0,x1,x2,Jj Jq K,Jj Jq S,Jj Jq P,Jj Jq O,.int .i8 Z,x8,.slice WA nW cW,.slice BA nB cB,x11,x12,x13,x14,x15,x16,x17,x18] 28)).alloc (.cells #[Jj Jq 0,Jj Jq 0,Jj Jq 0] 30)).alloc (.cells #[Jj Jq 1,Jj Jq 1,Jj Jq O] 30)):=((((Below.refl _ _).alloc Zb4 _).alloc Zb4 _).alloc Zb4 _).alloc Zb4 _
 intro hQ
 revert hal;exact hQ
):p:=h k
theorem Z64 {p q:Prop} (k:q) (h:q→p:=by
 have TN:=hid (TN.out.below yTN hh)
 have yTN:=Nat.lt_of_lt_of_le yTN hh.size
 have FR:=hid (FR.out.below yFR hh)
 have yFR:=Nat.lt_of_lt_of_le yFR hh.size
 intro hQ
 revert yFR;revert FR;revert yTN;revert TN;exact hQ
):p:=h k
theorem Z65 {p q:Prop} (k:q) (h:q→p:=by
 have HR:=hid (HR.out.below HL.out hb)
 have HB:=hid (HB.out.trans (hb.mono (Nat.le_of_lt (lt_of_succ_lt HL.out))))
 intro hQ
 revert HB;revert HR;exact hQ
):p:=h k
theorem Z66 {p q:Prop} (k:q) (h:q→p:=by
 refine Zaw ?_;intro hh
 have qTA:=(zav H W C A n c 32) w
 try simp only [World.size_alloc] at qTA
 refine Zaq ?_;intro TA yTA
 clear qTA
 have qTB:=(zav H W C B n d 32) (w.alloc (.cells #[Jj Jq H,Jj Jq W,Jj Jq C,.slice A n c] 32))
 try simp only [World.size_alloc] at qTB
 refine Zar ?_;intro TB yTB
 clear qTB
 have qTN:=(zae.new x0 x1 x2 (.int .i8 Y) (.int .i32 m1) (Jj Jq s1) (.int .i8 z1) (.int .i32 m2) (Jj Jq s2) (.int .i8 z2) (.int .i8 lo) (.int .i8 hi) K S P O Z WA BA nW cW nB cB 28) ((w.alloc (.cells #[Jj Jq H,Jj Jq W,Jj Jq C,.slice A n c] 32)).alloc (.cells #[Jj Jq H,Jj Jq W,Jj Jq C,.slice B n d] 32))
 try simp only [World.size_alloc] at qTN
 refine Zas ?_;intro TN yTN
 clear qTN
 have qFR:=(zaw 32) (((w.alloc (.cells #[Jj Jq H,Jj Jq W,Jj Jq C,.slice A n c] 32)).alloc (.cells #[Jj Jq H,Jj Jq W,Jj Jq C,.slice B n d] 32)).alloc (.cells #[x0,x1,x2,Jj Jq K,Jj Jq S,Jj Jq P,Jj Jq O,.int .i8 Z,.int .i8 Y,.slice WA nW cW,.slice BA nB cB,.int .i32 m1,Jj Jq s1,.int .i8 z1,.int .i32 m2,Jj Jq s2,.int .i8 z2,.int .i8 lo,.int .i8 hi] 28))
 try simp only [World.size_alloc] at qFR
 refine Zau ?_;intro FR yFR
 clear qFR
 have HBW:Hid (Below w.heap.size w w1):=hid hh
 intro hQ
 revert HBW;revert yFR;revert FR;revert yTN;revert TN;revert yTB;revert TB;revert yTA;revert TA;revert hh;exact hQ
):p:=h k
theorem Z67 {p q:Prop} (k:q) (h:q→p:=by
 have HR:Hid (NdBox (w.heap.size+1) Nd.zero ((w.alloc (.cells x.val 28)).alloc (.cells Nd.zero.val 28))):=hid (by have:=NdBox.new Nd.zero 28 (w.alloc (.cells x.val 28));rwa [World.size_alloc] at this)
 have TN:=hid (TN.out.below (B:=w.heap.size+1) (lt_succ_self _) ((Below.refl _ _).alloc Zb7 (.cells Nd.zero.val 28)))
 have HB:=hid (((Below.refl w.heap.size w).alloc (le_refl _) (.cells x.val 28)).alloc Zb7 (.cells Nd.zero.val 28))
 have HS:Hid (((w.alloc (.cells x.val 28)).alloc (.cells Nd.zero.val 28)).heap.size=w.heap.size+2):=hid Zb7
 intro hQ
 revert HS;revert HB;revert TN;revert HR;exact hQ
):p:=h k
theorem Z68 {p q:Prop} (k:q) (h:q→p:=by
 have hal:Below w.heap.size w (((w.alloc (.cells #[Jj Jq H,Jj Jq W,Jj Jq C,.slice A n c] 32)).alloc (.cells #[x0,x1,x2,Jj Jq K,Jj Jq S,Jj Jq P,Jj Jq O,.int .i8 Z,x8,.slice WA nW cW,.slice BA nB cB,x11,x12,x13,x14,x15,x16,x17,x18] 28)).alloc (.cells #[Jj Jq 0,Jj Jq 0,Jj Jq 0,.slice none 0 0] 41)):=(((Below.refl _ _).alloc Zb4 _).alloc Zb4 _).alloc Zb4 _
 intro hQ
 revert hal;exact hQ
):p:=h k
theorem Z69 {p q:Prop} (k:q) (h:q→p:=by
 refine Zaq ?_;intro TA yTA
 intro hQ
 revert yTA;revert TA;exact hQ
):p:=h k
theorem Z6a {p q:Prop} (k:q) (h:q→p:=by
 have hal:Below w.heap.size w ((((w.alloc (.cells #[Jj Jq H,Jj Jq W,Jj Jq C,.slice A n c] 32)).alloc (.cells #[Jj Jq H',Jj Jq W',Jj Jq C',.slice B m d] 32)).alloc (.cells #[x0,x1,x2,Jj Jq K,Jj Jq S,Jj Jq P,Jj Jq O,.int .i8 Z,.int .i8 Y,.slice WA nW cW,.slice BA nB cB,.int .i32 m1,Jj Jq s1,.int .i8 z1,.int .i32 m2,Jj Jq s2,.int .i8 z2,.int .i8 lo,.int .i8 hi] 28)).alloc (.cells #[Jj Jq 0,Jj Jq 0,Jj Jq 0,.slice none 0 0] 32)):=((((Below.refl _ _).alloc Zb4 _).alloc Zb4 _).alloc Zb4 _).alloc Zb4 _
 intro hQ
 revert hal;exact hQ
):p:=h k
theorem Z6b {p q:Prop} (k:q) (h:q→p:=by
 refine Zar ?_;intro TB yTB
 intro hQ
 revert yTB;revert TB;exact hQ
):p:=h k
theorem Z6c {p q:Prop} (k:q) (h:q→p:=by
 have FR:=hid (qFR.below Zb9 hb)
 have yFR:w.heap.size+2 < w1.heap.size:=by have:=hb.size;simp at this;omega
 intro hQ
 revert yFR;revert FR;exact hQ
):p:=h k
theorem Z6d {p q:Prop} (k:q) (h:q→p:=by
 refine Zaw ?_;intro hh
 have qTA:=(zav H W C A n c 32) w
 try simp only [World.size_alloc] at qTA
 refine Zav ?_;intro TA yTA
 clear qTA
 have qTN:=(zae.new x0 x1 x2 (.int .i8 Y) (.int .i32 m1) (Jj Jq s1) (.int .i8 z1) (.int .i32 m2) (Jj Jq s2) (.int .i8 z2) (.int .i8 lo) (.int .i8 hi) K S P O Z WA BA nW cW nB cB 28) (w.alloc (.cells #[Jj Jq H,Jj Jq W,Jj Jq C,.slice A n c] 32))
 try simp only [World.size_alloc] at qTN
 intro hQ
 revert qTN;revert yTA;revert TA;revert hh;exact hQ
):p:=h k
theorem Z6e {p q:Prop} (k:q) (h:q→p:=by
 have n11:=TN.out.at 11 _ rfl
 have n12:=TN.out.at 12 _ rfl
 have n13:=TN.out.at 13 _ rfl
 have n14:=TN.out.at 14 _ rfl
 have n15:=TN.out.at 15 _ rfl
 have n16:=TN.out.at 16 _ rfl
 intro hQ
 revert n16;revert n15;revert n14;revert n13;revert n12;revert n11;exact hQ
):p:=h k
theorem Z6f {p q:Prop} (k:q) (h:q→p:=by
 have TN:=hid (TN.out.below (by rw [HS.out];omega) (((Below.refl _ _).alloc (le_refl _) _).trans hb1))
 have HR:=hid (HR.out.below (by rw [HS.out];omega) (((Below.refl _ _).alloc (le_refl _) _).trans hb1))
 have HB:=hid (HB.out.trans ((((Below.refl _ _).alloc (le_refl _) _).trans hb1).mono (by rw [HS.out];omega)))
 have HP:=hid hp
 have HL:Hid (w.heap.size+1 < W0.heap.size):=hid (by rw [HS.out];omega)
 intro hQ
 revert HL;revert HP;revert HB;revert HR;revert TN;exact hQ
):p:=h k
theorem Z6g {p q:Prop} (k:q) (h:q→p:=by
 have hh:Below w1.heap.size w1 w2:=hal.trans (hb.mono hal.size)
 have TS0:=hid (TS0.out.below yTS0 hh)
 have yTS0:=Nat.lt_of_lt_of_le yTS0 hh.size
 have TN:=hid (TN.out.below yTN hh)
 have yTN:=Nat.lt_of_lt_of_le yTN hh.size
 have FS:=hid (FS.out.below yFS hh)
 have yFS:=Nat.lt_of_lt_of_le yFS hh.size
 have TF:=hid (TF.out.below yTF hh)
 have yTF:=Nat.lt_of_lt_of_le yTF hh.size
 have HBW:=hid (HBW.out.trans (hh.mono HBW.out.size))
 intro hQ
 revert HBW;revert yTF;revert TF;revert yFS;revert FS;revert yTN;revert TN;revert yTS0;revert TS0;revert hh;exact hQ
):p:=h k
theorem Z6h {p q:Prop} (k:q) (h:q→p:=by
 have TN:=hid ((NdAt.new x 28 w).below (B:=w.heap.size+1) Zb3 ((Below.refl _ _).alloc Zb7 (.cells y.val 28)))
 have TM:Hid (NdAt (w.heap.size+1) y ((w.alloc (.cells x.val 28)).alloc (.cells y.val 28))):=hid (by have:=NdAt.new y 28 (w.alloc (.cells x.val 28));rwa [World.size_alloc] at this)
 have HB:=hid (((Below.refl w.heap.size w).alloc (le_refl _) (.cells x.val 28)).alloc Zb7 (.cells y.val 28))
 have HL:Hid (w.heap.size+1 < ((w.alloc (.cells x.val 28)).alloc (.cells y.val 28)).heap.size):=hid Zb7
 have hgq:=Tryz.eqGuardType26
 have HX:=hid hx
 have HY:=hid hy
 intro hQ
 revert HY;revert HX;revert hgq;revert HL;revert HB;revert TM;revert TN;exact hQ
):p:=h k
theorem Z6i {p q:Prop} (k:q) (h:q→p:=by
 refine Zaw ?_;intro hh
 have qTN:=(zae.new x0 x1 x2 (.int .i8 Y) (.int .i32 m1) (Jj Jq s1) (.int .i8 z1) (.int .i32 m2) (Jj Jq s2) (.int .i8 z2) (.int .i8 lo) (.int .i8 hi) K S P O Z WA BA nW cW nB cB 28) w
 try simp only [World.size_alloc] at qTN
 have TN:=hid (qTN.below Zb9 hb)
 have yTN:w.heap.size < w1.heap.size:=by have:=hb.size;simp at this;omega
 clear qTN
 have HBW:Hid (Below w.heap.size w w1):=hid hh
 intro hQ
 revert HBW;revert yTN;revert TN;revert hh;exact hQ
):p:=h k
theorem Z6j {p q:Prop} (k:q) (h:q→p:=by
 have TN:=hid (TN.out.below yTN hh)
 have yTN:=Nat.lt_of_lt_of_le yTN hh.size
 intro hQ
 revert yTN;revert TN;exact hQ
):p:=h k
theorem Z6k {p q:Prop} (k:q) (h:q→p:=by
 refine Zas ?_;intro TN yTN
 intro hQ
 revert yTN;revert TN;exact hQ
):p:=h k
theorem Z6l {p q:Prop} (k:q) (h:q→p:=by
 have TA:=hid (TA.out.below yTA hh)
 have yTA:=Nat.lt_of_lt_of_le yTA hh.size
 have TB:=hid (TB.out.below yTB hh)
 have yTB:=Nat.lt_of_lt_of_le yTB hh.size
 intro hQ
 revert yTB;revert TB;revert yTA;revert TA;exact hQ
):p:=h k
theorem Z6m {p q:Prop} (k:q) (h:q→p:=by
 refine Zaw ?_;intro hh
 intro hQ
 revert hh;exact hQ
):p:=h k
theorem Z6n {p q:Prop} (k:q) (h:q→p:=by
 have hal:Below w.heap.size w (((w.alloc (.cells #[Jj Jq H,Jj Jq W,Jj Jq C,.slice A n c] 32)).alloc (.cells #[x0,x1,x2,Jj Jq K,Jj Jq S,Jj Jq P,Jj Jq O,.int .i8 Z,.int .i8 Y,.slice WA nW cW,.slice BA nB cB,.int .i32 m1,Jj Jq s1,.int .i8 z1,.int .i32 m2,Jj Jq s2,.int .i8 z2,.int .i8 lo,.int .i8 hi] 28)).alloc (.cells #[Jj Jq 0,Jj Jq 0,Jj Jq 0,.slice none 0 0] 32)):=(((Below.refl _ _).alloc Zb4 _).alloc Zb4 _).alloc Zb4 _
 intro hQ
 revert hal;exact hQ
):p:=h k
theorem Z6o {p q:Prop} (k:q) (h:True∧q→p:=by
 intro hQ
 have hS1:=And.intro ((hb.cell (p:=⟨w.heap.size,0,none⟩) Zba).trans hHeld.1) (And.intro ((hb.cell (p:=⟨w.heap.size,1,none⟩) Zba).trans hHeld.2.1) (And.intro ((hb.cell (p:=⟨w.heap.size,2,none⟩) Zba).trans hHeld.2.2.1) (And.intro ((hb.cell (p:=⟨w.heap.size+1,6,none⟩) Zba).trans hHeld.2.2.2.1) (And.intro ((hb.cell (p:=⟨w.heap.size+1,9,none⟩) Zba).trans hHeld.2.2.2.2.1) ((hb.cell (p:=⟨w.heap.size+1,10,none⟩) Zba).trans hHeld.2.2.2.2.2)))))
 have HBW:=hid (HBW.out.trans (hb.mono HBW.out.size))
 have hFS:=hid (hFS.out.below Zb3 hb)
 have hTF:=hid (hTF.out.below Zb3 hb)
 have hsz:=Nat.lt_of_lt_of_le hsz hb.size
 dsimp only
 revert hsz;revert hTF;revert hFS;revert HBW;revert hS1;exact hQ.2
):p:=h ⟨trivial,k⟩
theorem Z6p {p q:Prop} (k:q) (h:q→p:=by
 refine Zav ?_;intro TA yTA
 intro hQ
 revert yTA;revert TA;exact hQ
):p:=h k
theorem Z6q {p q:Prop} (k:q) (h:q→p:=by
 have n11:=TN.out.at 11 _ rfl
 have n12:=TN.out.at 12 _ rfl
 have n13:=TN.out.at 13 _ rfl
 intro hQ
 revert n13;revert n12;revert n11;exact hQ
):p:=h k
theorem Z6r {p q:Prop} (k:q) (h:q→p:=by
 have hh:Below w1.heap.size w1 w2:=hal.trans (hb.mono hal.size)
 intro hQ
 revert hh;exact hQ
):p:=h k
theorem Z6s {p q:Prop} (k:q) (h:q→p:=by
 have hal:Below w.heap.size w (w.alloc (.cells #[x0,x1,x2,Jj Jq K,Jj Jq S,Jj Jq P,Jj Jq O,.int .i8 Z,.int .i8 Y,.slice WA nW cW,.slice BA nB cB,.int .i32 m1,Jj Jq s1,.int .i8 z1,.int .i32 m2,Jj Jq s2,.int .i8 z2,.int .i8 lo,.int .i8 hi] 28)):=(Below.refl _ _).alloc Zb4 _
 intro hQ
 revert hal;exact hQ
):p:=h k
theorem Z6t {p q:Prop} (k:q) (h:q→p:=by
 have hFS:Hid (zbz (w.heap.size+2) w2.drew):=hid (FS.out.below (lt_succ_self _) (Below.refl _ _).drew)
 have hTF:Hid (CConv.zbg (w.heap.size+3) 1 1 O w2.drew):=hid (TF.out.below (lt_succ_self _) (Below.refl _ _).drew)
 have HBW:=hid HBW.out.drew
 have hsz:w.heap.size+3 < w2.drew.heap.size:=yTF
 intro hQ
 revert hsz;revert HBW;revert hTF;revert hFS;exact hQ
):p:=h k
theorem Z6u {p q:Prop} (k:q) (h:q→p:=by
 obtain⟨hs,ha,hb2,hr1,hr2,hr⟩:=za9 he
 have hS:za6 H W C K S P C=#[Jj Jq (zad H K S P),Jj Jq (zad W K S P),Jj Jq C]:=by unfold za6;rw [he,if_pos rfl]
 obtain⟨-, -, -, -,c1,c2, -⟩:=zac hs
 obtain⟨-, -, -, -,o1,o2, -⟩:=zac hr
 obtain⟨-, -,k1,k2, -⟩:=za1 ha
 obtain⟨p1,p2,p5,p6, -, -⟩:=zbk c1 c2 k1 Zb3 o1 o2
 intro hQ
 revert p6;revert p5;revert p2;revert p1;revert k2;revert k1;revert o2;revert o1;revert c2;revert c1;revert hS;revert hr;revert hr2;revert hr1;revert hb2;revert ha;revert hs;exact hQ
):p:=h k
theorem Z6v {p q:Prop} (k:q) (h:q→p:=by
 have n14:=TN.out.at 14 _ rfl
 have n15:=TN.out.at 15 _ rfl
 have n16:=TN.out.at 16 _ rfl
 intro hQ
 revert n16;revert n15;revert n14;exact hQ
):p:=h k
theorem Z6w {p q:Prop} (k:q) (h:q→p:=by
 have hal:Below w.heap.size w (((w.alloc (.cells #[Jj Jq H,Jj Jq W,Jj Jq C,.slice A n c] 32)).alloc (.cells #[x0,x1,x2,Jj Jq K,Jj Jq S,Jj Jq P,Jj Jq O,.int .i8 Z,x8,.slice WA nW cW,.slice (some ⟨bb,ob,none⟩) nB cB,x11,x12,x13,x14,x15,x16,x17,x18] 28)).alloc (.cells #[Jj Jq 0,Jj Jq 0,Jj Jq 0,.slice none 0 0] 41)):=(((Below.refl _ _).alloc Zb4 _).alloc Zb4 _).alloc Zb4 _
 intro hQ
 revert hal;exact hQ
):p:=h k
theorem Z6x {p q:Prop} (k:q) (h:q→p:=by
 obtain⟨hs,ha,hb2,hr1,hr2,hr⟩:=za9 he
 have hS:za6 H W C K S P O=#[Jj Jq (zad H K S P),Jj Jq (zad W K S P),Jj Jq O]:=by unfold za6;rw [he,if_pos rfl]
 obtain⟨-, -, -, -,c1,c2, -⟩:=zac hs
 obtain⟨-, -, -, -,o1,o2, -⟩:=zac hr
 obtain⟨-, -,k1,k2, -⟩:=za1 ha
 obtain⟨p1,p2,p3,p4,p5,p6⟩:=zbk c1 c2 k1 Zb3 o1 o2
 intro hQ
 revert p6;revert p5;revert p4;revert p3;revert p2;revert p1;revert k2;revert k1;revert o2;revert o1;revert c2;revert c1;revert hS;revert hr;revert hr2;revert hr1;revert hb2;revert ha;revert hs;exact hQ
):p:=h k
theorem Z6y {p q:Prop} (k:q) (h:True∧q→p:=by
 intro hQ
 refine wpAnyH_done Zb5 ?_ _
 exact hQ.2
):p:=h ⟨trivial,k⟩
theorem Z6z {p q:Prop} (k:q) (h:q→p:=by
 have hal:Below w.heap.size w ((((w.alloc (.cells #[Jj Jq H,Jj Jq W,Jj Jq C,.slice A n c] 32)).alloc (.cells #[Jj Jq H,Jj Jq W,Jj Jq C,.slice B n d] 32)).alloc (.cells #[x0,x1,x2,Jj Jq K,Jj Jq S,Jj Jq P,Jj Jq O,.int .i8 Z,.int .i8 Y,.slice WA nW cW,.slice BA nB cB,.int .i32 m1,Jj Jq s1,.int .i8 z1,.int .i32 m2,Jj Jq s2,.int .i8 z2,.int .i8 lo,.int .i8 hi] 28)).alloc (.cells #[Jj Jq 0,Jj Jq 0,Jj Jq 0,.slice none 0 0] 32)):=((((Below.refl _ _).alloc Zb4 _).alloc Zb4 _).alloc Zb4 _).alloc Zb4 _
 intro hQ
 revert hal;exact hQ
):p:=h k
theorem Z70 {p q:Prop} (k:q) (h:q→p:=by
 have hal:Below w2.heap.size w2 ((w2.alloc (.cells #[Jj Jq (a:Int),Jj Jq (b:Int),Jj Jq C] 30)).alloc (.cells #[Jj Jq (a:Int),Jj Jq (b:Int),Jj Jq C,.slice none 0 0] 32)):=((Below.refl _ _).alloc (le_refl _) _).alloc Zb7 _
 have h63:w.heap.size+3≤w2.heap.size:=hg2
 have hts:=(za2 (a:Int) (b:Int) C 30 w2).below (B':=w2.heap.size+1) Zb3 ((Below.refl _ _).alloc Zb7 (.cells #[Jj Jq (a:Int),Jj Jq (b:Int),Jj Jq C,.slice none 0 0] 32))
 have hot:=PutAt.new (a:Int) (b:Int) C (.slice none 0 0) 32 (w2.alloc (.cells #[Jj Jq (a:Int),Jj Jq (b:Int),Jj Jq C] 30))
 rw [World.size_alloc] at hot
 have HOT:=hid hot
 have hOA:Hid (OfAt w H W C A n c x0 x1 x2 x8 x11 x12 x13 x14 x15 x16 x17 x18 (kk:Int) S P O Z WA BA nW cW nB cB (a:Int) (b:Int) C w2.heap.size ((w2.alloc (.cells #[Jj Jq (a:Int),Jj Jq (b:Int),Jj Jq C] 30)).alloc (.cells #[Jj Jq (a:Int),Jj Jq (b:Int),Jj Jq C,.slice none 0 0] 32))):=hid ⟨TB.out.below yTB hal,TN.out.below yTN hal,FR.out.below yFR hal,hts,HBW.out.trans (hal.mono HBW.out.size),by first | (simp;done) | (simp;omega)⟩
 have hW:Hid (((w2.alloc (.cells #[Jj Jq (a:Int),Jj Jq (b:Int),Jj Jq C] 30)).alloc (.cells #[Jj Jq (a:Int),Jj Jq (b:Int),Jj Jq C,.slice none 0 0] 32)).ownsRow (w2.heap.size+2) 22 1 (.slice none 0 0) 0 (I8s (rowL F 0))):=hid ⟨by simp [I8s,rowL],.inl ⟨rfl,rfl⟩⟩
 have hzz:w2.heap.size+2≤((w2.alloc (.cells #[Jj Jq (a:Int),Jj Jq (b:Int),Jj Jq C] 30)).alloc (.cells #[Jj Jq (a:Int),Jj Jq (b:Int),Jj Jq C,.slice none 0 0] 32)).heap.size:=by simp
 clear hal hts hot
 intro hQ
 revert hzz;revert hW;revert hOA;revert HOT;revert h63;exact hQ
):p:=h k
theorem Z71 {p q:Prop} (k:q) (h:q→p:=by
 have HBW:Hid (Below w.heap.size w w1):=hid hh
 intro hQ
 revert HBW;exact hQ
):p:=h k
theorem Z72 {p q:Prop} (k:q) (h:q→p:=by
 have hal:Below w1.heap.size w1 w1:=Below.refl _ _
 intro hQ
 revert hal;exact hQ
):p:=h k
theorem Z73 {p q:Prop} (k:q) (h:True∧q→p:=by
 intro hQ
 have HF:=hid (HF.out.below hb1 HF.out.2.2)
 have HZ:=hid (HZ.out.below hb1 HZ.out.2.2)
 have HN4:=hid (HN4.out.below hb1 HN4.out.2.2)
 have HWH:=hid (HWH.out.below hb1 HWH.out.2.2)
 have HB:=hid (HB.out.trans (hb1.mono HB.out.size))
 dsimp only
 revert HB;revert HWH;revert HN4;revert HZ;revert HF;exact hQ.2
):p:=h ⟨trivial,k⟩
theorem Z74 {p q:Prop} (k:q) (h:q→p:=by
 have HBW:=hid (HBW.out.trans (hh.mono HBW.out.size))
 intro hQ
 revert HBW;exact hQ
):p:=h k
theorem Z75 {p q:Prop} (k:q) (h:q→p:=by
 have qFR:=(zaw 32) ((w.alloc (.cells #[Jj Jq H,Jj Jq W,Jj Jq C,.slice A n c] 32)).alloc (.cells #[x0,x1,x2,Jj Jq K,Jj Jq S,Jj Jq P,Jj Jq O,.int .i8 Z,.int .i8 Y,.slice WA nW cW,.slice BA nB cB,.int .i32 m1,Jj Jq s1,.int .i8 z1,.int .i32 m2,Jj Jq s2,.int .i8 z2,.int .i8 lo,.int .i8 hi] 28))
 try simp only [World.size_alloc] at qFR
 intro hQ
 revert qFR;exact hQ
):p:=h k
theorem Z76 {p q:Prop} (k:q) (h:q→p:=by
 have TB:=hid ((zav H W C A n c 32 w).below (B':=w.heap.size+1) Zb3 ((Below.refl _ _).alloc Zb7 (.cells #[x0,x1,x2,Jj Jq (kk:Int),Jj Jq S,Jj Jq P,Jj Jq O,.int .i8 Z,x8,.slice (some ⟨bw,ow,none⟩) nW cW,.slice (some ⟨bb,ob,none⟩) nB cB,x11,x12,x13,x14,x15,x16,x17,x18] 28)))
 have hnd:=zae.new x0 x1 x2 x8 x11 x12 x13 x14 x15 x16 x17 x18 (kk:Int) S P O Z (some ⟨bw,ow,none⟩) (some ⟨bb,ob,none⟩) nW cW nB cB 28 (w.alloc (.cells #[Jj Jq H,Jj Jq W,Jj Jq C,.slice A n c] 32))
 rw [World.size_alloc] at hnd
 have TN:=hid hnd
 have HB0:Hid (Below w.heap.size w ((w.alloc (.cells #[Jj Jq H,Jj Jq W,Jj Jq C,.slice A n c] 32)).alloc (.cells #[x0,x1,x2,Jj Jq (kk:Int),Jj Jq S,Jj Jq P,Jj Jq O,.int .i8 Z,x8,.slice (some ⟨bw,ow,none⟩) nW cW,.slice (some ⟨bb,ob,none⟩) nB cB,x11,x12,x13,x14,x15,x16,x17,x18] 28))):=hid (((Below.refl _ _).alloc (le_refl _) _).alloc Zb7 _)
 have zz:w.heap.size+2≤((w.alloc (.cells #[Jj Jq H,Jj Jq W,Jj Jq C,.slice A n c] 32)).alloc (.cells #[x0,x1,x2,Jj Jq (kk:Int),Jj Jq S,Jj Jq P,Jj Jq O,.int .i8 Z,x8,.slice (some ⟨bw,ow,none⟩) nW cW,.slice (some ⟨bb,ob,none⟩) nB cB,x11,x12,x13,x14,x15,x16,x17,x18] 28)).heap.size:=by simp
 clear hnd
 intro hQ
 revert zz;revert HB0;revert TN;revert TB;exact hQ
):p:=h k
theorem Z77 {p q:Prop} (k:q) (h:q→p:=by
 have hd1:0 < d:=by have:=HD.out;omega
 have hb1:0 < b:=by omega
 have hrk:r≤k:=by rw [← hr];exact Nat.div_le_self _ _
 have hrab:r < a * b:=by
  rw [← hr]
  exact (Nat.div_lt_iff_lt_mul hd1).mpr (by rw [HNN.out];exact hlt)
 have hha:h < a:=by rw [← hh];exact (Nat.div_lt_iff_lt_mul hb1).mpr hrab
 have hvb:v < b:=by rw [← hv];exact Nat.mod_lt _ hb1
 have hod:o < d:=by rw [← ho];exact Nat.mod_lt _ hd1
 have hh16:h≤16:=by omega
 have hv16:v≤16:=by omega
 have c0:¬ C=0:=by omega
 have b0:¬ (b:Int)=0:=by omega
 have b0n:¬ b=0:=by omega
 have d1:(k:Int).tdiv C=(r:Int):=by rw [HD.out,Int.tdiv_eq_ediv_of_nonneg Zb3, ← hr];simp
 have d2:(k:Int).tmod C=(o:Int):=by rw [HD.out,Int.tmod_eq_emod_of_nonneg Zb3, ← ho];simp
 have d3:(r:Int).tdiv (b:Int)=(h:Int):=by rw [Int.tdiv_eq_ediv_of_nonneg Zb3, ← hh];simp
 have d4:(r:Int).tmod (b:Int)=(v:Int):=by rw [Int.tmod_eq_emod_of_nonneg Zb3, ← hv];simp
 have hrl:r≤1024:=by omega
 have w1:IntKind.i64.wrap (r:Int)=(r:Int):=IntWalk.i64_in _ Zb3
 have w2:IntKind.i64.wrap (o:Int)=(o:Int):=IntWalk.i64_in _ (by have:=HD.out;omega)
 have w3:IntKind.i64.wrap (h:Int)=(h:Int):=IntWalk.i64_in _ Zb3
 have w4:IntKind.i64.wrap (v:Int)=(v:Int):=IntWalk.i64_in _ Zb3
 obtain⟨L,hL⟩:∃ L,zcg zs H W C ((h:Int) * S - P) ((v:Int) * S - P) kk o=L:=⟨_,rfl⟩
 have hL8:I8b L:=by rw [← hL];exact windowL_I8 zs HZ.out _ _ _ _ _ _ _
 have hLn:L.length≤49:=by rw [← hL];exact Nat.le_trans (windowL_len _ _ _ _ _ _ _ _) hkk2
 intro hQ
 revert hLn;revert hL8;revert hL;revert L;revert w4;revert w3;revert w2;revert w1;revert hrl;revert d4;revert d3;revert d2;revert d1;revert b0n;revert b0;revert c0;revert hv16;revert hh16;revert hod;revert hvb;revert hha;revert hrab;revert hrk;revert hb1;revert hd1;exact hQ
):p:=h k
theorem Z78 {p q:Prop} (k:q) (h:q→p:=by
 have TA:=hid (TA.out.below yTA hh)
 have yTA:=Nat.lt_of_lt_of_le yTA hh.size
 intro hQ
 revert yTA;revert TA;exact hQ
):p:=h k
theorem Z79 {p q:Prop} (k:q) (h:q→p:=by
 have qTN:=(NB.new x 28) w
 try simp only [World.size_alloc] at qTN
 have TN:=hid ((qTN.below (B':=w.heap.size+1) Zb3 ((((Below.refl _ _).alloc Zb4 _).alloc Zb4 _).mono Zb7)).below Zb9 hb)
 have yTN:w.heap.size < w1.heap.size:=by have:=hb.size;simp at this;omega
 clear qTN
 have qTA:=(zav H W C A n c 32) (w.alloc (.cells x.val 28))
 try simp only [World.size_alloc] at qTA
 have TA:=hid ((qTA.below (B':=w.heap.size+2) Zb3 (((Below.refl _ _).alloc Zb4 _).mono Zb7)).below Zb9 hb)
 have yTA:w.heap.size+1 < w1.heap.size:=by have:=hb.size;simp at this;omega
 clear qTA
 have qTB:=(zav H2 W2 C2 B m d 32) ((w.alloc (.cells x.val 28)).alloc (.cells #[Jj Jq H,Jj Jq W,Jj Jq C,.slice A n c] 32))
 try simp only [World.size_alloc] at qTB
 have TB:=hid (qTB.below Zb9 hb)
 have yTB:w.heap.size+2 < w1.heap.size:=by have:=hb.size;simp at this;omega
 clear qTB
 intro hQ
 revert yTB;revert TB;revert yTA;revert TA;revert yTN;revert TN;exact hQ
):p:=h k
theorem Z7a {p q:Prop} (k:q) (h:q→p:=by
 have hal:Below w.heap.size w (((w.alloc (.cells #[Jj Jq H,Jj Jq W,Jj Jq C,.slice A n c] 32)).alloc (.cells #[x0,x1,x2,Jj Jq K,Jj Jq S,Jj Jq P,Jj Jq O,.int .i8 Z,x8,.slice WA nW cW,.slice BA nB cB,x11,x12,x13,x14,x15,x16,x17,x18] 28)).alloc (.cells #[Jj Jq 0,Jj Jq 0,Jj Jq 0,.slice none 0 0] 32)):=(((Below.refl _ _).alloc Zb4 _).alloc Zb4 _).alloc Zb4 _
 intro hQ
 revert hal;exact hQ
):p:=h k
theorem Z7b {p q:Prop} (k:q) (h:q→p:=by
 obtain⟨q,hq⟩:∃ q,O * N=q:=⟨_,rfl⟩
 have hqb:0≤q∧q≤1048576:=by
  exact Z15
 have hmul:IntKind.i64.wrap (O * N)=q:=by rw [hq];exact IntWalk.i64_in _ Zb3
 intro hQ
 revert hmul;revert hqb;revert hq;revert q;exact hQ
):p:=h k
theorem Z7c {p q:Prop} (k:q) (h:q→p:=by
 have hal:Below Wp0.heap.size Wp0 (Wp0.alloc (.cells #[.int .i8 Rk] 22)):=(Below.refl _ _).alloc (le_refl _) _
 have HT0:=hid (HT0.out.below (B':=Wp0.heap.size) Zb3 hal)
 have HW0:=hid (HW0.out.alloc (.cells #[.int .i8 Rk] 22))
 have HB0:=hid (HB0.out.trans (hal.mono Zb3))
 have HXR:=hid (Kit.Rd.new Wp0 [.int .i8 Rk] 22 (lt_succ_self _))
 have hz:=Nat.le_trans hz hal.size
 clear hal
 intro hQ
 revert hz;revert HXR;revert HB0;revert HW0;revert HT0;exact hQ
):p:=h k
theorem Z7d {p q:Prop} (k:q) (h:q→p:=by
 have TN:=hid (NdAt.new x 28 w)
 have HB:=hid ((Below.refl w.heap.size w).alloc (le_refl _) (.cells x.val 28))
 intro hQ
 revert HB;revert TN;exact hQ
):p:=h k
theorem Z7e {p q:Prop} (k:q) (h:q→p:=by
 obtain⟨hN0,hN1,hN2⟩:=el_pos H W C h1
 obtain⟨-, -, -, -,o1,o2, -⟩:=zac h2
 have HE2:Hid (zaz 1 1 O=O):=hid (by rw [zay h2];omega)
 obtain⟨N,hN⟩:∃ N,zaz H W C=N:=⟨_,rfl⟩
 intro hQ
 revert hN;revert N;revert HE2;revert o2;revert o1;revert hN2;revert hN1;revert hN0;exact hQ
):p:=h k
theorem Z7f {p q:Prop} (k:q) (h:q→p:=by
 have qFR:=(zaw 41) ((w.alloc (.cells #[Jj Jq H,Jj Jq W,Jj Jq C,.slice A n c] 32)).alloc (.cells #[x0,x1,x2,Jj Jq K,Jj Jq S,Jj Jq P,Jj Jq O,.int .i8 Z,x8,.slice WA nW cW,.slice (some ⟨bb,ob,none⟩) nB cB,x11,x12,x13,x14,x15,x16,x17,x18] 28))
 try simp only [World.size_alloc] at qFR
 intro hQ
 revert qFR;exact hQ
):p:=h k
theorem Z7g {p q:Prop} (k:q) (h:q→p:=by
 obtain⟨yv,hyv⟩:∃ yv,top+(i:Int)=yv:=⟨_,rfl⟩
 obtain⟨xv,hxv⟩:∃ xv,left+(j:Int)=xv:=⟨_,rfl⟩
 have e1:IntKind.i64.wrap (hs0+(i:Int))=hs0+(i:Int):=IntWalk.i64_in _ Zb3
 have e2:IntKind.i64.wrap (vs0+(j:Int))=vs0+(j:Int):=IntWalk.i64_in _ Zb3
 have e3:IntKind.i64.wrap (hs0+(i:Int) - P)=yv:=by rw [IntWalk.i64_in _ Zb3];have:=HTP.out;omega
 have e4:IntKind.i64.wrap (vs0+(j:Int) - P)=xv:=by rw [IntWalk.i64_in _ Zb3];have:=HLF.out;omega
 intro hQ
 revert e4;revert e3;revert e2;revert e1;revert hxv;revert xv;revert hyv;revert yv;exact hQ
):p:=h k
theorem Z7h {p q:Prop} (k:q) (h:q→p:=by
 obtain⟨hs0,har1,har2, -, -,hsr⟩:=za9 he
 obtain⟨-, -,k1,k2,st1,st2,pd1,pd2, -⟩:=za1 har1
 have hS:za6 H W C K S P C=#[Jj Jq (a:Int),Jj Jq (b:Int),Jj Jq C]:=by unfold za6;rw [he,if_pos rfl,ha,hb]
 rw [ha,hb] at hsr
 obtain⟨q1,q2,q3,q4,q5,q6,q7⟩:=zac hsr
 have hNI:(a:Int) * (b:Int) * C=(N:Int):=by rw [hd, ← hN];simp
 have hN2:N≤1024:=by rw [hNI] at q7;omega
 have hel:zaz (a:Int) (b:Int) C=(N:Int):=by rw [zay hsr];exact hNI
 intro hQ
 revert hel;revert hN2;revert hNI;revert q7;revert q6;revert q5;revert q4;revert q3;revert q2;revert q1;revert hS;revert pd2;revert pd1;revert st2;revert st1;revert k2;revert k1;revert hsr;revert har2;revert har1;revert hs0;exact hQ
):p:=h k
theorem Z7i {p q:Prop} (k:q) (h:q→p:=by
 have HR:=hid ((HR.out.below hh).more hh.size)
 have HRW:=hid ((HRW.out.below hh).more hh.size)
 intro hQ
 revert HRW;revert HR;exact hQ
):p:=h k
theorem Z7j {p q:Prop} (k:q) (h:q→p:=by
 have HT:=hid ht
 have HE:=hid he
 have HS:=hid hS
 have h0b:(er != 0)=true:=by simpa using h0
 have h0c:(er == 0)=false:=by simpa using h0
 intro hQ
 revert h0c;revert h0b;revert HS;revert HE;revert HT;exact hQ
):p:=h k
theorem Z7k {p q:Prop} (k:q) (h:q→p:=by
 have hal:Below w3.heap.size w3 (w3.alloc (.cells (madeCells #[.int .i8 0] N) 22)):=(Below.refl _ _).alloc (le_refl _) _
 have h63:w.heap.size+3≤w2.heap.size:=hg2
 have hOA:Hid (OfAt w H W C (some ⟨bb,ob,none⟩) n c x0 x1 x2 x8 x11 x12 x13 x14 x15 x16 x17 x18 (kk:Int) S P O Z WA BA nW cW nB cB (a:Int) (b:Int) C w2.heap.size (w3.alloc (.cells (madeCells #[.int .i8 0] N) 22))):=hid ⟨TB.out.below yTB hal,TN.out.below yTN hal,FR.out.below yFR hal,TS.out.below yTS hal,HBW.out.trans (hal.mono HBW.out.size),by simp;omega⟩
 have hW:Hid ((w3.alloc (.cells (madeCells #[.int .i8 0] N) 22)).ownsRow (w2.heap.size+1) 22 1 (.slice (some ⟨w3.heap.size,0,none⟩) 0 N) 0 (I8s (rowL F 0))):=hid (World.ownsRow_made (e:=22) w3 _ N Zb3 (by unfold maxLen;omega) Zbn)
 intro hQ
 revert hW;revert hOA;revert h63;revert hal;exact hQ
):p:=h k
theorem Z7l {p q:Prop} (k:q) (h:q→p:=by
 have HCK:=hid hK
 have HTR:=hid (fun w=>CTensor.zak H W C A n c true ht w)
 have HC:=hid hC
 have HK:=hid hk
 have HE:=hid (ent2 x H W C H2 W2 C2 A B n c m d 32 w)
 intro hQ
 revert HE;revert HK;revert HC;revert HTR;revert HCK;exact hQ
):p:=h k
theorem Z7m {p q:Prop} (k:q) (h:q→p:=by
 have HCK:=hid hK
 have HTR:=hid (fun w=>zal H W C A n c true ht w)
 have HK:=hid hk
 have HE:=hid (ent2 x H W C H2 W2 C2 A B n c m d 32 w)
 intro hQ
 revert HE;revert HK;revert HTR;revert HCK;exact hQ
):p:=h k
theorem Z7n {p q:Prop} (k:q) (h:q→p:=by
 have q0:=TN.out.at 0 (Jj Jq x.kd) rfl
 have hk:=HK.out
 have e4:(x.kd == 4)=false:=by simp;omega
 have g4:¬ x.kd=4:=by omega
 have e5:(x.kd == 5)=false:=by simp;omega
 have g5:¬ x.kd=5:=by omega
 have e6:(x.kd == 6)=false:=by simp;omega
 have g6:¬ x.kd=6:=by omega
 have e7:(x.kd == 7)=false:=by simp;omega
 have g7:¬ x.kd=7:=by omega
 have e8:(x.kd == 8)=false:=by simp;omega
 have g8:¬ x.kd=8:=by omega
 have e9:(x.kd == 9)=false:=by simp;omega
 have g9:¬ x.kd=9:=by omega
 clear hk
 intro hQ
 revert g9;revert e9;revert g8;revert e8;revert g7;revert e7;revert g6;revert e6;revert g5;revert e5;revert g4;revert e4;revert q0;exact hQ
):p:=h k
theorem Z7o {p q:Prop} (k:q) (h:q→p:=by
 obtain⟨k00,k01,k02,k03⟩:=TA.out
 obtain⟨k10,k11,k12,k13⟩:=TB.out
 obtain⟨⟨z0,z1,z2,z3⟩,f0,f1,f2,f3⟩:=FR.out
 intro hQ
 revert f3;revert f2;revert f1;revert f0;revert z3;revert z2;revert z1;revert z0;revert k13;revert k12;revert k11;revert k10;revert k03;revert k02;revert k01;revert k00;exact hQ
):p:=h k
theorem Z7p {p q:Prop} (k:q) (h:q→p:=by
 have n3:=TN.out.at 3 _ rfl
 have n4:=TN.out.at 4 _ rfl
 have n5:=TN.out.at 5 _ rfl
 intro hQ
 revert n5;revert n4;revert n3;exact hQ
):p:=h k
theorem Z7q {p q:Prop} (k:q) (h:q→p:=by
 obtain⟨tap0,tap1,tap2,tap3⟩:=TA.out
 obtain⟨tbp0,tbp1,tbp2,tbp3⟩:=TB.out
 intro hQ
 revert tbp3;revert tbp2;revert tbp1;revert tbp0;revert tap3;revert tap2;revert tap1;revert tap0;exact hQ
):p:=h k
theorem Z7r {p q:Prop} (k:q) (h:q→p:=by
 have hbx:BoxAt w.heap.size H W C A n c w1.drew:=((BoxAt.newq H W C A n c 32 w).below (lt_succ_self _) ((Below.refl _ _).alloc Zb7 (.cells #[Jj Jq 0,Jj Jq 0,Jj Jq 0,.slice none 0 0] 32))).below Zbf HB0.out.drew
 have HFR:Hid (zbs (w.heap.size+1) w1.drew):=hid ((zbs.new 32 (w.alloc (.cells #[Jj Jq H,Jj Jq W,Jj Jq C,.slice A n c] 32)) (w.heap.size+1) Zb7).below Zbf HB0.out.drew)
 have HBW:Hid (Below w.heap.size w w1.drew):=hid ((Below.trans (((Below.refl _ _).alloc (le_refl _) _).alloc Zb7 _) (HB0.out.mono Zbf)).drew)
 have hz:w.heap.size+2≤w1.drew.heap.size:=hz
 intro hQ
 revert hz;revert HBW;revert HFR;revert hbx;exact hQ
):p:=h k
theorem Z7s {p q:Prop} (k:q) (h:True∧q→p:=by
 intro hQ
 refine Tk.s 7 rfl (fun Kq hK=>?_)
 have c11:=HP.out.1.at 11 _ rfl
 have f11:=HP.out.fr 11 Zbc
 have c12:=HP.out.1.at 12 _ rfl
 have f12:=HP.out.fr 12 Zbc
 have c13:=HP.out.1.at 13 _ rfl
 have f13:=HP.out.fr 13 Zbc
 revert f13;revert c13;revert f12;revert c12;revert f11;revert c11;revert hK;revert Kq;exact hQ.2
):p:=h ⟨trivial,k⟩
theorem Z7t {p q:Prop} (k:q) (h:q→p:=by
 have HB:=hid (HB.out.trans (hb.mono HB.out.size))
 have hS2:NdAt w.heap.size x w1∧NdAt (w.heap.size+1) y w1:=⟨hHeld.1.below (lt_of_succ_lt HL.out) hb,hHeld.2.below HL.out hb⟩
 have HL:Hid (w.heap.size+1 < w1.heap.size):=hid (Nat.lt_of_lt_of_le HL.out hb.size)
 intro hQ
 revert HL;revert hS2;revert HB;exact hQ
):p:=h k
theorem Z7u {p q:Prop} (k:q) (h:q→p:=by
 refine Zb2 ?_;intro hs
 refine Zay ?_;intro hm
 intro hQ
 revert hm;revert hs;exact hQ
):p:=h k
theorem Z7v {p q:Prop} (k:q) (h:True∧q→p:=by
 intro hQ
 have hbb:Below wr.heap.size wr w1:=(Below.refl _ _).drew.trans hb1
 have HI:=hid (HSTAY.out _ _ _ HI.out hbb)
 have T1:=hid (T1.out.below (B':=wr.heap.size) Zb3 hbb)
 have T2:=hid (T2.out.below (B':=wr.heap.size) Zb3 hbb)
 have T3:=hid (T3.out.below (B':=wr.heap.size) Zb3 hbb)
 have HG:=hid (HG.out.trans (Kit.zbh hbb (some gd)))
 have hz:=Nat.le_trans hz hbb.size
 clear hbb
 dsimp only
 revert hz;revert HG;revert T3;revert T2;revert T1;revert HI;exact hQ.2
):p:=h ⟨trivial,k⟩
theorem Z7w {p q:Prop} (k:q) (h:q→p:=by
 have qTN:=(zae.new x0 x1 x2 x8 x11 x12 x13 x14 x15 x16 x17 x18 K S P O Z WA (some ⟨bb,ob,none⟩) nW cW nB cB 28) (w.alloc (.cells #[Jj Jq H,Jj Jq W,Jj Jq C,.slice A n c] 32))
 try simp only [World.size_alloc] at qTN
 intro hQ
 revert qTN;exact hQ
):p:=h k
theorem Z7x {p q:Prop} (k:q) (h:q→p:=by
 have e1:IntKind.i32.wrap x=x:=IntWalk.i32_in _ Zb3
 have e2:IntKind.i32.wrap Z=Z:=IntWalk.i32_in _ Zb3
 have e3:IntKind.i32.wrap (x - Z)=x - Z:=IntWalk.i32_in _ Zb3
 have hal:Below w.heap.size w (w.alloc (.cells #[x0,x1,x2,Jj Jq K,Jj Jq S,Jj Jq P,Jj Jq O,.int .i8 Z,.int .i8 Y,.slice WA nW cW,.slice BA nB cB,.int .i32 m1,Jj Jq s1,.int .i8 z1,.int .i32 m2,Jj Jq s2,.int .i8 z2,.int .i8 lo,.int .i8 hi] 28)):=(Below.refl _ _).alloc (le_refl _) _
 have HAL:=hid hal
 have HR:=hid hR
 have TN:=zae.new x0 x1 x2 (.int .i8 Y) (.int .i32 m1) (Jj Jq s1) (.int .i8 z1) (.int .i32 m2) (Jj Jq s2) (.int .i8 z2) (.int .i8 lo) (.int .i8 hi) K S P O Z WA BA nW cW nB cB 28 w
 clear hal
 intro hQ
 revert TN;revert HR;revert HAL;revert e3;revert e2;revert e1;exact hQ
):p:=h k
theorem Z7y {p q:Prop} (k:q) (h:q→p:=by
 have hal:Below w.heap.size w (((w.alloc (.cells #[Jj Jq H,Jj Jq W,Jj Jq C,.slice (some ⟨bb,ob,none⟩) n c] 32)).alloc (.cells #[x0,x1,x2,Jj Jq (kk:Int),Jj Jq S,Jj Jq P,Jj Jq O,.int .i8 Z,x8,.slice WA nW cW,.slice BA nB cB,x11,x12,x13,x14,x15,x16,x17,x18] 28)).alloc (.cells #[Jj Jq 0,Jj Jq 0,Jj Jq 0,.slice none 0 0] 32)):=(((Below.refl _ _).alloc Zb4 _).alloc Zb4 _).alloc Zb4 _
 intro hQ
 revert hal;exact hQ
):p:=h k
theorem Z7z {p q:Prop} (k:q) (h:q→p:=by
 refine Zax ?_;intro c0 c1 c2 c3
 have d0:=hR.out.1 0 Zb3
 have d1:=hR.out.1 1 Zb3
 have d2:=hR.out.1 2 Zb3
 have d3:=hR.out.1 3 Zb3
 have f0:=hR.out.2.1 0 Zb3
 have f1:=hR.out.2.1 1 Zb3
 have f2:=hR.out.2.1 2 Zb3
 have f3:=hR.out.2.1 3 Zb3
 intro hQ
 revert f3;revert f2;revert f1;revert f0;revert d3;revert d2;revert d1;revert d0;revert c3;revert c2;revert c1;revert c0;exact hQ
):p:=h k
theorem Z80 {p q:Prop} (k:q) (h:q→p:=by
 have hh:Below w2.heap.size w2 w3:=hal.trans (hb.mono hal.size)
 have qTS:=(za2 (a:Int) (b:Int) C 30) w2
 try simp only [World.size_alloc] at qTS
 refine Zaz ?_;intro TS yTS
 clear qTS
 intro hQ
 revert yTS;revert TS;revert hh;exact hQ
):p:=h k
theorem Z81 {p q:Prop} (k:q) (h:q→p:=by
 have hal:Below w.heap.size w (((w.alloc (.cells #[Jj Jq H,Jj Jq W,Jj Jq C,.slice A n c] 32)).alloc (.cells #[x0,x1,x2,Jj Jq (kk:Int),Jj Jq S,Jj Jq P,Jj Jq O,.int .i8 Z,x8,.slice WA nW cW,.slice BA nB cB,x11,x12,x13,x14,x15,x16,x17,x18] 28)).alloc (.cells #[Jj Jq 0,Jj Jq 0,Jj Jq 0,.slice none 0 0] 32)):=(((Below.refl _ _).alloc Zb4 _).alloc Zb4 _).alloc Zb4 _
 intro hQ
 revert hal;exact hQ
):p:=h k
theorem Z82 {p q:Prop} (k:q) (h:q→p:=by
 have n9:=TN.out.at 9 _ rfl
 have n10:=TN.out.at 10 _ rfl
 intro hQ
 revert n10;revert n9;exact hQ
):p:=h k
theorem Z83 {p q:Prop} (k:q) (h:q→p:=by
 have r1:IntKind.i64.wrap (P1:Int)=(P1:Int):=IntWalk.i64_in _ Zb3
 have r2:IntKind.i64.wrap (P2:Int)=(P2:Int):=IntWalk.i64_in _ Zb3
 have r3:IntKind.i64.wrap (P3:Int)=(P3:Int):=IntWalk.i64_in _ Zb3
 have r4:IntKind.i64.wrap (P4:Int)=(P4:Int):=IntWalk.i64_in _ Zb3
 intro hQ
 revert r4;revert r3;revert r2;revert r1;exact hQ
):p:=h k
theorem Z84 {p q:Prop} (k:q) (h:q→p:=by
 have qFR:=(zaw 32) ((w.alloc (.cells #[Jj Jq H,Jj Jq W,Jj Jq C,.slice A n c] 32)).alloc (.cells #[x0,x1,x2,Jj Jq K,Jj Jq S,Jj Jq P,Jj Jq O,.int .i8 Z,x8,.slice WA nW cW,.slice BA nB cB,x11,x12,x13,x14,x15,x16,x17,x18] 28))
 try simp only [World.size_alloc] at qFR
 intro hQ
 revert qFR;exact hQ
):p:=h k
theorem Z85 {p q:Prop} (k:q) (h:q→p:=by
 have hS1:=hHeld.below (B':=_) Zb3 hb
 have HFR:=hid (HFR.out.below (B':=_) Zb3 hb)
 have HB:=hid (HB.out.trans (hb.mono Zb3))
 have hz:=Nat.le_trans hz hb.size
 intro hQ
 revert hz;revert HB;revert HFR;revert hS1;exact hQ
):p:=h k
theorem Z86 {p q:Prop} (k:q) (h:q→p:=by
 have hkI:(k:Int) < C:=by have:=HD.out;omega
 have hk0:(0:Int)≤(k:Int):=by omega
 have hom:o+k < N:=by rw [← HOO.out, ← HNN.out];exact at_lt hlt hltj hltk
 refine Zb0 ?_;intro hs hhs vs hvs b1 b2 e1 e2
 obtain⟨top,htop⟩:∃ top,hs - P=top:=⟨_,rfl⟩
 obtain⟨left,hleft⟩:∃ left,vs - P=left:=⟨_,rfl⟩
 have e3:IntKind.i64.wrap (hs - P)=top:=by rw [IntWalk.i64_in _ Zb3,htop]
 have e4:IntKind.i64.wrap (vs - P)=left:=by rw [IntWalk.i64_in _ Zb3,hleft]
 have hF1:=HFF.out i j k hltj hltk
 intro hQ
 revert hF1;revert e4;revert e3;revert hleft;revert left;revert htop;revert top;revert e2;revert e1;revert b2;revert b1;revert hvs;revert vs;revert hhs;revert hs;revert hom;revert hk0;revert hkI;exact hQ
):p:=h k
theorem Z87 {p q:Prop} (k:q) (h:q→p:=by
 have hNI:(a:Int) * (b:Int) * C=(N:Int):=by rw [hd, ← hN];simp
 have hN2:N≤1024:=by rw [hNI] at q7;omega
 have hel:zaz (a:Int) (b:Int) C=(N:Int):=by rw [zay hsr];exact hNI
 have hS:depthS H W C K S P nW nB=#[Jj Jq (a:Int),Jj Jq (b:Int),Jj Jq C]:=by unfold depthS;rw [he,if_pos rfl,ha,hb]
 have hnWN:d * kk * kk=nW:=by
  have:((d * kk * kk:Nat):Int)=(nW:Int):=by rw [hnW,hk,hd];simp
  omega
 obtain⟨F,hF⟩:∃ F,F=gridF b d (sumD zs ws bs H W C S P kk Z):=⟨_,rfl⟩
 have hFF:∀ i j k:Nat,j < b→k < d→F ((i * b+j) * d+k)=sumD zs ws bs H W C S P kk Z i j k:=fun i j k hj hk=>by rw [hF,zdf b d _ hj hk]
 intro hQ
 revert hFF;revert hF;revert F;revert hnWN;revert hS;revert hel;revert hN2;revert hNI;exact hQ
):p:=h k
theorem Z88 {p q:Prop} (k:q) (h:q→p:=by
 have HBq:Hid (Below w.heap.size w (wr.drewN nq)):=hid (Kit.below_drewN HB2.out _)
 have TBq:Hid (BoxAt w.heap.size H W C A n c (wr.drewN nq)):=hid (TB2.out.below (B':=wr.heap.size) Zb3 (Kit.below_drewN (Below.refl _ _) _))
 have TNq:Hid (zae (w.heap.size+1) x0 x1 x2 x8 x11 x12 x13 x14 x15 x16 x17 x18 (kk:Int) S P O Z (some ⟨bw,ow,none⟩) (some ⟨bb,ob,none⟩) nW cW nB cB (wr.drewN nq)):=hid (TN2.out.below (B':=wr.heap.size) Zb3 (Kit.below_drewN (Below.refl _ _) _))
 have zzq:w.heap.size+2≤(wr.drewN nq).heap.size:=zz2
 intro hQ
 revert zzq;revert TNq;revert TBq;revert HBq;exact hQ
):p:=h k
theorem Z89 {p q:Prop} (k:q) (h:q→p:=by
 have m1:(o:Int) * (kk:Int)=((o * kk:Nat):Int):=by simp
 have m2:((o * kk:Nat):Int)+(i:Int)=((o * kk+i:Nat):Int):=by simp
 have m3:((o * kk+i:Nat):Int) * (kk:Int)=(((o * kk+i) * kk:Nat):Int):=by simp
 have m4:(((o * kk+i) * kk:Nat):Int)+(j:Int)=(((o * kk+i) * kk+j:Nat):Int):=by simp
 intro hQ
 revert m4;revert m3;revert m2;revert m1;exact hQ
):p:=h k
theorem Z8a {p q:Prop} (k:q) (h:True∧q→p:=by
 intro hQ
 refine hK.out _ _ hS2 (fun hHeld=>?_)
 revert hHeld;exact hQ.2
):p:=h ⟨trivial,k⟩
theorem Z8b {p q:Prop} (k:q) (h:q→p:=by
 have hS1:BoxAt w.heap.size H W C A n c Wc∧zae (w.heap.size+1) x0 x1 x2 x8 x11 x12 x13 x14 x15 x16 x17 x18 (kk:Int) S P O Z WA BA nW cW nB cB Wc∧zbg g6 (a:Int) (b:Int) C Wc:=⟨hHeld.1.below (B':=Wb.heap.size) Zb3 hb1,hHeld.2.1.below (B':=Wb.heap.size) Zb3 hb1,hHeld.2.2.below (B':=Wb.heap.size) Zb3 hb1⟩
 have HBW:=hid (HBW.out.trans (hb1.mono HBW.out.size))
 have hA2:=hid (hA2.out.below h63 (B':=Wb.heap.size) Zb3 hb1)
 have hT2:=hid (hT2.out.below (B':=Wb.heap.size) Zb3 hb1)
 have hW2:=hid (Kit.own_below hW2.out hb1)
 have hz2:=Nat.le_trans hz2 hb1.size
 intro hQ
 revert hz2;revert hW2;revert hT2;revert hA2;revert HBW;revert hS1;exact hQ
):p:=h k
theorem Z8c {p q:Prop} (k:q) (h:q→p:=by
 have hh:Below w2.heap.size w2 w3:=hal.trans (hb.mono hal.size)
 intro hQ
 revert hh;exact hQ
):p:=h k
theorem Z8d {p q:Prop} (k:q) (h:q→p:=by
 have hw3:(nW:Int)≤16384:=by omega
 have hw4:¬ (16384:Int) < (nW:Int):=by omega
 have hd1:decide ((16384:Int) < (nW:Int))=false:=by simp;omega
 have hd2:decide (16384 < nW)=false:=by simp;omega
 intro hQ
 revert hd2;revert hd1;revert hw4;revert hw3;exact hQ
):p:=h k
theorem Z8e {p q:Prop} (k:q) (h:q→p:=by
 have HF:Hid (∀ w,Calls Tryz.prog 4 #[.agg #[Jj Jq H,Jj Jq W,Jj Jq C,.slice A n c],.agg x.val] w fun e w'=>e=.returned (.bool true)∧Below w.heap.size w w'):=hid (fun w=>few_yes H W C A n c (Jj Jq x.kd) (Jj Jq x.na) (Jj Jq x.nb) (.int .i8 x.Y) (.int .i32 x.m1) (Jj Jq x.s1) (.int .i8 x.z1) (.int .i32 x.m2) (Jj Jq x.s2) (.int .i8 x.z2) (.int .i8 x.lo) (.int .i8 x.hi) x.K x.S x.P x.O x.Z x.WA x.BA x.nW x.cW x.nB x.cB hf.1 hf.2.1 hf.2.2 w)
 intro hQ
 revert HF;exact hQ
):p:=h k
theorem Z8f {p q:Prop} (k:q) (h:q→p:=by
 have hbox:BoxAt w.heap.size H W C A n c ((w.alloc (.cells #[Jj Jq H,Jj Jq W,Jj Jq C,.slice A n c] 32)).alloc (.cells #[Jj Jq 0,Jj Jq 0,Jj Jq 0,.slice none 0 0] 32)).drew :=
  (BoxAt.new H W C A n c 32 w).below (lt_succ_self _) (((Below.refl _ _).alloc Zb7 _))
 have HFR:Hid (zbs (w.heap.size+1) ((w.alloc (.cells #[Jj Jq H,Jj Jq W,Jj Jq C,.slice A n c] 32)).alloc (.cells #[Jj Jq 0,Jj Jq 0,Jj Jq 0,.slice none 0 0] 32)).drew):=hid (zbs.new _ _ _ Zb7)
 intro hQ
 revert HFR;revert hbox;exact hQ
):p:=h k
theorem Z8g {p q:Prop} (k:q) (h:q→p:=by
 have FR:=hid (FR.out.below yFR hb1)
 have TA:=hid (TA.out.below (Nat.lt_of_le_of_lt (Nat.le_add_right _ 2) yFR) hb1)
 have TN:=hid (TN.out.below (Nat.lt_of_le_of_lt (Nat.le_succ _) yFR) hb1)
 have HBW:=hid (HBW.out.trans (hb1.mono HBW.out.size))
 have yFR:=Nat.lt_of_lt_of_le yFR hb1.size
 intro hQ
 revert yFR;revert HBW;revert TN;revert TA;revert FR;exact hQ
):p:=h k
theorem Z8h {p q:Prop} (k:q) (h:q→p:=by
 have hO0:(O == 0)=false:=by simp;omega
 have hO9:¬ O=0:=by omega
 have hN9:¬ N=0:=by omega
 intro hQ
 revert hN9;revert hO9;revert hO0;exact hQ
):p:=h k
theorem Z8i {p q:Prop} (k:q) (h:q→p:=by
 have qTA:=(zav H W C A n c 41) w
 try simp only [World.size_alloc] at qTA
 have TA:=hid (qTA.below Zb9 hb)
 have yTA:w.heap.size < w1.heap.size:=by have:=hb.size;simp at this;omega
 clear qTA
 intro hQ
 revert yTA;revert TA;exact hQ
):p:=h k
theorem Z8j {p q:Prop} (k:q) (h:q→p:=by
 have hcb1:((w.alloc (.cells #[Jj Jq H,Jj Jq W,Jj Jq C,.slice A n c] 32)).alloc (.cells #[x0,x1,x2,Jj Jq (kk:Int),Jj Jq S,Jj Jq P,Jj Jq O,.int .i8 Z,x8,.slice (some ⟨bw,ow,none⟩) nW cW,.slice (some ⟨bb,ob,none⟩) nB cB,x11,x12,x13,x14,x15,x16,x17,x18] 28)).cell? ⟨bb,ob+o,none⟩=some (.int .i32 bo):=by
  rw [World.cell?_alloc_lt _ _ _ Zba,World.cell?_alloc_lt _ _ _ hbb];exact hcbo
 intro hQ
 revert hcb1;exact hQ
):p:=h k
theorem Z8k {p q:Prop} (k:q) (h:q→p:=by
 have hal:Below w.heap.size w (((w.alloc (.cells x.val 28)).alloc (.cells #[Jj Jq H,Jj Jq W,Jj Jq C,.slice A n c] 32)).alloc (.cells #[Jj Jq H2,Jj Jq W2,Jj Jq C2,.slice B m d] 32)):=(((Below.refl _ _).alloc Zb4 _).alloc Zb4 _).alloc Zb4 _
 intro hQ
 revert hal;exact hQ
):p:=h k
theorem Z8l {p q:Prop} (k:q) (h:True∧q→p:=by
 intro hQ
 refine Tk.x 0 rfl ?_
 exact hQ.2
):p:=h ⟨trivial,k⟩
theorem Z8m {p q:Prop} (k:q) (h:q→p:=by
 have HBW:Hid (Below w.heap.size w w2.drew):=hid HBW.out.drew
 have HRA:Hid (Kit.Rd w2.drew w2.drew.heap.size A (I32v zs)):=hid (HRA.out.below ((Below.refl _ _).drew))
 have FR:Hid (zbs (w.heap.size+2) w2.drew):=FR
 have yFR:w.heap.size+2 < w2.drew.heap.size:=yFR
 have TA:Hid (BoxAt w.heap.size H W C A n c w2.drew):=TA
 have TN:Hid (zae (w.heap.size+1) x0 x1 x2 (.int .i8 Y) (.int .i32 m1) (Jj Jq s1) (.int .i8 z1) (.int .i32 m2) (Jj Jq s2) (.int .i8 z2) (.int .i8 lo) (.int .i8 hi) K S P O Z WA BA nW cW nB cB w2.drew):=TN
 intro hQ
 revert TN;revert TA;revert yFR;revert FR;revert HRA;revert HBW;exact hQ
):p:=h k
theorem Z8n {p q:Prop} (k:q) (h:q→p:=by
 have HBW:=hid (HBW.out.alloc HBW.out.size (.cells #[.int .i32 x] 21))
 have hA3:=hid (hA3.out.below h63 (B':=Wb0.heap.size) Zb3 ((Below.refl _ _).alloc (le_refl _) (.cells #[.int .i32 x] 21)))
 have hT3:=hid (hT3.out.below (B':=Wb0.heap.size) Zb3 ((Below.refl _ _).alloc (le_refl _) (.cells #[.int .i32 x] 21)))
 have hW3:=hid (hW3.out.alloc (.cells #[.int .i32 x] 21))
 have HXR:=hid (Kit.Rd.new Wb0 [.int .i32 x] 21 (lt_succ_self _))
 have hsz:g6+2≤(Wb0.alloc (.cells #[.int .i32 x] 21)).heap.size:=by simp;omega
 intro hQ
 revert hsz;revert HXR;revert hW3;revert hT3;revert hA3;revert HBW;exact hQ
):p:=h k
theorem Z8o {p q:Prop} (k:q) (h:q→p:=by
 have hS1:=hHeld.below Zbo hb1
 have hz1:w.heap.size < w1.heap.size:=by have:=hb1.size;first | omega | (simp at this;omega)
 intro hQ
 revert hz1;revert hS1;exact hQ
):p:=h k
theorem Z8p {p q:Prop} (k:q) (h:q→p:=by
 have TN0:Hid (zae (w.heap.size+1) x0 x1 x2 x8 x11 x12 x13 x14 x15 x16 x17 x18 K S P O Z WA BA nW cW nB cB (((w.alloc (.cells #[Jj Jq H,Jj Jq W,Jj Jq C,.slice A n c] 32)).alloc (.cells #[x0,x1,x2,Jj Jq K,Jj Jq S,Jj Jq P,Jj Jq O,.int .i8 Z,x8,.slice WA nW cW,.slice BA nB cB,x11,x12,x13,x14,x15,x16,x17,x18] 28)).alloc (.cells #[Jj Jq 0,Jj Jq 0,Jj Jq 0,.slice none 0 0] 32))):=by
  exact Z1z
 intro hQ
 revert TN0;exact hQ
):p:=h k
theorem Z8q {p q:Prop} (k:q) (h:q→p:=by
 have hmk:∀ w:World,(Instr.makeSlice 23 (Jj Jq 0) (Jj Jq (N:Int))).run Tryz.prog w=.ok (.slice (some ⟨w.heap.size,0,none⟩) 0 N) (w.alloc (.cells (madeCells #[.int .i8 0] N) 22)):=fun w=>by
  exact Z1i
 intro hQ
 revert hmk;exact hQ
):p:=h k
theorem Z8r {p q:Prop} (k:q) (h:q→p:=by
 have hA2:Hid (OfAt w H W C A n c x0 x1 x2 x8 x11 x12 x13 x14 x15 x16 x17 x18 (kk:Int) S P O Z WA BA nW cW nB cB (a:Int) (b:Int) C g6 Wa.drew):=hid (hA1.out.below h63 (lt_succ_self _) (Below.refl _ _).drew)
 have hT2:Hid (PutAt (g6+1) (a:Int) (b:Int) C v0 Wa.drew):=hT1
 have hW2:Hid (Wa.drew.ownsRow (g6+2) 22 1 v0 k (I8s (rowL F k))):=hid (Kit.own_below hW1.out (Below.refl _ _).drew)
 have hz2:g6+2≤Wa.drew.heap.size:=hz1
 intro hQ
 revert hz2;revert hW2;revert hT2;revert hA2;exact hQ
):p:=h k
theorem Z8s {p q:Prop} (k:q) (h:q→p:=by
 have HB:=hid (HB.out.trans (Below.refl _ W0).drew)
 have HL:Hid (w.heap.size+1 < W0.drew.heap.size):=hid HL.out
 intro hQ
 revert HL;revert HB;exact hQ
):p:=h k
theorem Z8t {p q:Prop} (k:q) (h:q→p:=by
 have q7:=TN.out.at 7 (.int .i8 x.Z) rfl
 have c7:=HP.out.1.at 7 _ rfl
 have f7:=HP.out.fr 7 Zbc
 intro hQ
 revert f7;revert c7;revert q7;exact hQ
):p:=h k
theorem Z8u {p q:Prop} (k:q) (h:q→p:=by
 have HT0:=hid (HT0.out.below (B':=_) Zb3 hb1)
 have HW0:=hid (Kit.own_below HW0.out hb1)
 have HB0:=hid (HB0.out.trans (hb1.mono Zb3))
 have hz:=Nat.le_trans hz hb1.size
 intro hQ
 revert hz;revert HB0;revert HW0;revert HT0;exact hQ
):p:=h k
theorem Z8v {p q:Prop} (k:q) (h:q→p:=by
 have hb9:Below (g6+1) w5 (w5.setCell ⟨g6+1,3,none⟩ (.slice A5 (k+1) c5)):=(Below.refl _ _).setCell (p:=⟨g6+1,3,none⟩) (le_refl _) _
 have hA4:=hid (hA3.out.below h63 (lt_succ_self _) hb9)
 have hT4:=hid (hT3.out.store (.slice A5 (k+1) c5))
 have hW4:=hid (zat hW3.out ⟨g6+1,3,none⟩ (.slice A5 (k+1) c5) Zb7)
 have hz4:g6+2≤(w5.setCell ⟨g6+1,3,none⟩ (.slice A5 (k+1) c5)).heap.size:=by simpa using hsz
 intro hQ
 revert hz4;revert hW4;revert hT4;revert hA4;revert hb9;exact hQ
):p:=h k
theorem Z8w {p q:Prop} (k:q) (h:True∧q→p:=by
 intro hQ
 refine Tk.x 2 rfl ?_
 exact hQ.2
):p:=h ⟨trivial,k⟩
theorem Z8x {p q:Prop} (k:q) (h:q→p:=by
 have hA3:=hid (hA3.out.below h63 (B':=Wp0.heap.size) Zb3 ((Below.refl _ _).alloc (le_refl _) (.cells #[.int .i8 x] 22)))
 have hT3:=hid (hT3.out.below (B':=Wp0.heap.size) Zb3 ((Below.refl _ _).alloc (le_refl _) (.cells #[.int .i8 x] 22)))
 have hW3:=hid (hW3.out.alloc (.cells #[.int .i8 x] 22))
 have HXR:=hid (Kit.Rd.new Wp0 [.int .i8 x] 22 (lt_succ_self _))
 have hsz:g6+2≤(Wp0.alloc (.cells #[.int .i8 x] 22)).heap.size:=by simp;omega
 intro hQ
 revert hsz;revert HXR;revert hW3;revert hT3;revert hA3;exact hQ
):p:=h k
theorem Z8y {p q:Prop} (k:q) (h:q→p:=by
 have n17:=TN.out.at 17 _ rfl
 have n18:=TN.out.at 18 _ rfl
 intro hQ
 revert n18;revert n17;exact hQ
):p:=h k
theorem Z8z {p q:Prop} (k:q) (h:q→p:=by
 have hS1:BoxAt w.heap.size H W C A n c _∧zae (w.heap.size+1) x0 x1 x2 x8 x11 x12 x13 x14 x15 x16 x17 x18 K S P O Z WA (some ⟨bb,ob,none⟩) nW cW nB cB _:=⟨hHeld.1.below (B':=_) Zb3 hb1,hHeld.2.below (B':=_) Zb3 hb1⟩
 have HBW:=hid (HBW.out.trans (hb1.mono Zb3))
 have hA3:=hid (hA3.out.below h63 Zb3 hb1)
 have hT3:=hid (hT3.out.below Zb3 hb1)
 have hW3:=hid (Kit.own_below hW3.out hb1)
 have hsz:=Nat.le_trans hsz hb1.size
 intro hQ
 revert hsz;revert hW3;revert hT3;revert hA3;revert HBW;revert hS1;exact hQ
):p:=h k
theorem Z90 {p q:Prop} (k:q) (h:q→p:=by
 obtain⟨ts0p0,ts0p1,ts0p2⟩:=TS0.out
 obtain⟨tfp0,tfp1,tfp2⟩:=TF.out
 intro hQ
 revert tfp2;revert tfp1;revert tfp0;revert ts0p2;revert ts0p1;revert ts0p0;exact hQ
):p:=h k
theorem Z91 {p q:Prop} (k:q) (h:q→p:=by
 have hal:Below w2.heap.size w2 (w2.alloc (.cells #[Jj Jq (a:Int),Jj Jq (b:Int),Jj Jq C] 30)):=(Below.refl _ _).alloc Zb4 _
 intro hQ
 revert hal;exact hQ
):p:=h k
theorem Z92 {p q:Prop} (k:q) (h:q→p:=by
 have hal:Below w.heap.size w (w.alloc (.cells #[Jj Jq H,Jj Jq W,Jj Jq C,.slice A n c] 41)):=(Below.refl _ _).alloc Zb4 _
 intro hQ
 revert hal;exact hQ
):p:=h k
theorem Z93 {p q:Prop} (k:q) (h:q→p:=by
 have hk0:(0:Int)≤(k:Int):=by omega
 intro hQ
 revert hk0;exact hQ
):p:=h k
theorem Z94 {p q:Prop} (k:q) (h:True∧q→p:=by
 intro hQ
 refine Tk.x 3 rfl ?_
 exact hQ.2
):p:=h ⟨trivial,k⟩
theorem Z95 {p q:Prop} (k:q) (h:q→p:=by
 have hd9:Below Wn.heap.size Wn Wn.drew:=(Below.refl _ _).drew
 have HR:=hid (HR.out.below hd9)
 have HRW:=hid (HRW.out.below hd9)
 have HRB:=hid (HRB.out.below hd9)
 have HBW:=hid HBW.out.drew
 have FR:=hid (FR.out.below Zb3 hd9)
 have hzn:g6+1=Wn.drew.heap.size:=hzn
 clear hd9
 replace HR:Hid (Kit.Rd Wn.drew Wn.drew.heap.size A (I8s zs)):=HR
 replace HRW:Hid (Kit.Rd Wn.drew Wn.drew.heap.size WA (I8s ws)):=HRW
 replace HRB:Hid (Kit.Rd Wn.drew Wn.drew.heap.size BA (I32v bs)):=HRB
 intro hQ
 revert HRB;revert HRW;revert HR;revert hzn;revert FR;revert HBW;exact hQ
):p:=h k
theorem Z96 {p q:Prop} (k:q) (h:q→p:=by
 have hb9:Below g w5 (w5.setCell ⟨g,3,none⟩ (.slice A5 (k+1) c5)):=(Below.refl _ _).setCell (p:=⟨g,3,none⟩) (le_refl _) _
 have HT9:=hid (HT0.out.store (.slice A5 (k+1) c5))
 have HW9:=hid (zat HW0.out ⟨g,3,none⟩ (.slice A5 (k+1) c5) Zb7)
 have HB9:=hid (HB0.out.trans hb9)
 have hz9:g+1≤(w5.setCell ⟨g,3,none⟩ (.slice A5 (k+1) c5)).heap.size:=by simpa using hz
 intro hQ
 revert hz9;revert HB9;revert HW9;revert HT9;revert hb9;exact hQ
):p:=h k
theorem Z97 {p q:Prop} (k:q) (h:q→p:=by
 have HBW:=hid (HBW.out.alloc Zb3 (.cells #[.int .i8 x] 22))
 have HW2:=hid (HW2.out.below ((Below.refl _ _).alloc hz (.cells #[.int .i8 x] 22)))
 have HO2:=hid (HO2.out.alloc (.cells #[.int .i8 x] 22))
 intro hQ
 revert HO2;revert HW2;revert HBW;exact hQ
):p:=h k
theorem Z98 {p q:Prop} (k:q) (h:q→p:=by
 have HF:=hid (HF.out.set4 SD)
 have HZ:=hid (HZ.out.oth4 (g':=g1) SD HNN.out.1)
 have HWH:=hid (HWH.out.oth4 (g':=g1) SD HNN.out.2.1)
 have HN4:=hid (HN4.out.oth4 (g':=g1) SD HNN.out.2.2)
 have HB:=hid (zcl HB.out HLE.out SD)
 intro hQ
 revert HB;revert HN4;revert HWH;revert HZ;revert HF;exact hQ
):p:=h k
theorem Z99 {p q:Prop} (k:q) (h:q→p:=by
 have n7:=TN.out.at 7 _ rfl
 have n8:=TN.out.at 8 _ rfl
 intro hQ
 revert n8;revert n7;exact hQ
):p:=h k
theorem Z9a {p q:Prop} (k:q) (h:q→p:=by
 have qFR:=(zaw 32) ((w.alloc (.cells #[Jj Jq H,Jj Jq W,Jj Jq C,.slice (some ⟨bb,ob,none⟩) n c] 32)).alloc (.cells #[x0,x1,x2,Jj Jq (kk:Int),Jj Jq S,Jj Jq P,Jj Jq O,.int .i8 Z,x8,.slice WA nW cW,.slice BA nB cB,x11,x12,x13,x14,x15,x16,x17,x18] 28))
 try simp only [World.size_alloc] at qFR
 intro hQ
 revert qFR;exact hQ
):p:=h k
theorem Z9b {p q:Prop} (k:q) (h:True∧q→p:=by
 intro hQ
 refine Tk.x 4 rfl ?_
 exact hQ.2
):p:=h ⟨trivial,k⟩
theorem Z9c {p q:Prop} (k:q) (h:q→p:=by
 have q5:=TN.out.at 5 (Jj Jq x.P) rfl
 have c5:=HP.out.1.at 5 _ rfl
 have f5:=HP.out.fr 5 Zbc
 intro hQ
 revert f5;revert c5;revert q5;exact hQ
):p:=h k
theorem Z9d {p q:Prop} (k:q) (h:q→p:=by
 have T1:=hid (T1.out.below yT1 hh)
 have yT1:=Nat.lt_of_lt_of_le yT1 hh.size
 have T2:=hid (T2.out.below yT2 hh)
 have yT2:=Nat.lt_of_lt_of_le yT2 hh.size
 intro hQ
 revert yT2;revert T2;revert yT1;revert T1;exact hQ
):p:=h k
theorem Z9e {p q:Prop} (k:q) (h:True∧q→p:=by
 intro hQ
 refine Tk.x 6 rfl ?_
 exact hQ.2
):p:=h ⟨trivial,k⟩
theorem Z9f {p q:Prop} (k:q) (h:True∧q→p:=by
 intro hQ
 refine Tk.x 8 rfl ?_
 exact hQ.2
):p:=h ⟨trivial,k⟩
theorem Z9g {p q:Prop} (k:q) (h:q→p:=by
 have hs2:w1.heap.size < w2.heap.size:=by have:=hb2.size;simp at this;omega
 have hB:Below wd.heap.size wd w1:=(((Below.refl _ _).alloc (le_refl _) _).alloc Zb7 _).trans (hb.mono Zba)
 have hB2:Below wd.heap.size wd w2:=(by go_grown:Below wd.heap.size wd _).trans (hb2.mono Zba)
 intro hQ
 revert hB2;revert hB;revert hs2;exact hQ
):p:=h k
theorem Z9h {p q:Prop} (k:q) (h:q→p:=by
 have RA2:=hid ((RA2.out.below hh).more hh.size)
 have RA3:=hid ((RA3.out.below hh).more hh.size)
 have RA4:=hid ((RA4.out.below hh).more hh.size)
 intro hQ
 revert RA4;revert RA3;revert RA2;exact hQ
):p:=h k
theorem Z9i {p q:Prop} (k:q) (h:q→p:=by
 have hb:=(Below.refl b W1).drew
 have HP:=hid (HP.out.below (lt_succ_self b) (Below.refl (b+1) W1).drew)
 intro hQ
 revert HP;revert hb;exact hQ
):p:=h k
theorem Z9j {p q:Prop} (k:q) (h:q→p:=by
 have qFR:=(zaw 32) ((w.alloc (.cells #[Jj Jq H,Jj Jq W,Jj Jq C,.slice A n c] 32)).alloc (.cells #[x0,x1,x2,Jj Jq (kk:Int),Jj Jq S,Jj Jq P,Jj Jq O,.int .i8 Z,x8,.slice WA nW cW,.slice BA nB cB,x11,x12,x13,x14,x15,x16,x17,x18] 28))
 try simp only [World.size_alloc] at qFR
 intro hQ
 revert qFR;exact hQ
):p:=h k
theorem Z9k {p q:Prop} (k:q) (h:q→p:=by
 have hal:Below Wp1.heap.size Wp1 (Wp1.alloc (.cells #[.int .i8 Rk] 22)):=(Below.refl _ _).alloc (le_refl _) _
 have HT0:=hid (HT0.out.below (B':=Wp1.heap.size) Zb3 hal)
 have HW0:=hid (HW0.out.alloc (.cells #[.int .i8 Rk] 22))
 have HB0:=hid (HB0.out.trans (hal.mono Zb3))
 have HXR:=hid (Kit.Rd.new Wp1 [.int .i8 Rk] 22 (lt_succ_self _))
 have hz:=Nat.le_trans hz hal.size
 clear hal
 intro hQ
 revert hz;revert HXR;revert HB0;revert HW0;revert HT0;exact hQ
):p:=h k
theorem Z9l {p q:Prop} (k:q) (h:q→p:=by
 obtain⟨hs0,hhs⟩:∃ hs,(h:Int) * S=hs:=⟨_,rfl⟩
 obtain⟨vs0,hvs⟩:∃ vs,(v:Int) * S=vs:=⟨_,rfl⟩
 have b1:0≤hs0∧hs0≤64:=by
  exact Z1w
 have b2:0≤vs0∧vs0≤64:=by
  exact Z1x
 intro hQ
 revert b2;revert b1;revert hvs;revert vs0;revert hhs;revert hs0;exact hQ
):p:=h k
theorem Z9m {p q:Prop} (k:q) (h:q→p:=by
 have k1:IntKind.i64.wrap x=x:=IntWalk.i64_in _ Zb3
 have k2:IntKind.i64.wrap y=y:=IntWalk.i64_in _ Zb3
 have k3:IntKind.i64.wrap Z=Z:=IntWalk.i64_in _ Zb3
 have k4:IntKind.i64.wrap (x - Z)=x - Z:=IntWalk.i64_in _ Zb3
 have k5:IntKind.i64.wrap (y * (x - Z))=y * (x - Z):=IntWalk.i64_in _ Zb3
 intro hQ
 revert k5;revert k4;revert k3;revert k2;revert k1;exact hQ
):p:=h k
theorem Z9n {p q:Prop} (k:q) (h:q→p:=by
 have HN:=hid hn
 have HZ:=hid hz
 have HWS:=hid hws
 have HWB:=hid hwb
 intro hQ
 revert HWB;revert HWS;revert HZ;revert HN;exact hQ
):p:=h k
theorem Z9o {p q:Prop} (k:q) (h:True∧q→p:=by
 intro hQ
 refine Tk.x 10 rfl ?_
 exact hQ.2
):p:=h ⟨trivial,k⟩
theorem Z9p {p q:Prop} (k:q) (h:q→p:=by
 obtain⟨Wn,hWn⟩:∃ Wn,w2.alloc (.cells #[Jj Jq 1,Jj Jq 1,Jj Jq O] 30)=Wn:=⟨_,rfl⟩
 have hbn:Below w2.heap.size w2 Wn:=by rw [← hWn];exact (Below.refl _ _).alloc (le_refl _) _
 have hts:CConv.zbg w2.heap.size 1 1 O Wn:=by rw [← hWn];exact za2 1 1 O 30 w2
 have hzn:w2.heap.size+1=Wn.heap.size:=by rw [← hWn];simp
 intro hQ
 revert hzn;revert hts;revert hbn;revert hWn;revert Wn;exact hQ
):p:=h k
theorem Z9q {p q:Prop} (k:q) (h:True∧q→p:=by
 intro hQ
 refine Tk.s 11 rfl (fun Kq hK=>?_)
 have c18:=HP.out.1.at 18 _ rfl
 have f18:=HP.out.fr 18 Zbc
 revert f18;revert c18;revert hK;revert Kq;exact hQ.2
):p:=h ⟨trivial,k⟩
theorem Z9r {p q:Prop} (k:q) (h:q→p:=by
 have hg6:w.heap.size+3≤w2.heap.size:=yFR
 have n7:=(TN.out.below yTN hbn).at 7 _ rfl
 have n9:=(TN.out.below yTN hbn).at 9 _ rfl
 have n10:=(TN.out.below yTN hbn).at 10 _ rfl
 obtain⟨-, -, -,t3⟩:=TB.out.below yTB hbn
 obtain⟨s0,s1,s2⟩:=id hts
 have HR:=hid ((HR.out.below hbn).more hbn.size)
 have HRW:=hid ((HRW.out.below hbn).more hbn.size)
 have HRB:=hid ((HRB.out.below hbn).more hbn.size)
 have HBW:=hid (HBW.out.trans (hbn.mono HBW.out.size))
 have FR:=hid (FR.out.below yFR hbn)
 intro hQ
 revert FR;revert HBW;revert HRB;revert HRW;revert HR;revert s2;revert s1;revert s0;revert t3;revert n10;revert n9;revert n7;revert hg6;exact hQ
):p:=h k
theorem Z9s {p q:Prop} (k:q) (h:True∧q→p:=by
 intro hQ
 refine Tk.s 9 rfl (fun Kq hK=>?_)
 have c17:=HP.out.1.at 17 _ rfl
 have f17:=HP.out.fr 17 Zbc
 revert f17;revert c17;revert hK;revert Kq;exact hQ.2
):p:=h ⟨trivial,k⟩
theorem Z9t {p q:Prop} (k:q) (h:q→p:=by
 have e:(i * b+(j+1)) * k=o+k:=by rw [← HOO.out, ← Nat.add_assoc,Nat.add_mul _ 1,Nat.one_mul]
 intro hQ
 revert e;exact hQ
):p:=h k
theorem Z9u {p q:Prop} (k:q) (h:q→p:=by
 obtain⟨u0,hu0⟩:∃ u0,IntKind.i32.wrap (psum (rowD zs ws H W C top left kk o Z) i+psum (zbn zs ws H W C top left kk o Z i) j)=u0:=⟨_,rfl⟩
 intro hQ
 revert hu0;revert u0;exact hQ
):p:=h k
theorem Z9v {p q:Prop} (k:q) (h:q→p:=by
 have w1:IntKind.i64.wrap hs0=hs0:=IntWalk.i64_in _ Zb3
 have w2:IntKind.i64.wrap vs0=vs0:=IntWalk.i64_in _ Zb3
 have w3:IntKind.i64.wrap bo=bo:=IntWalk.i64_in _ Zb3
 have hK0:(kk:Int)≤7:=by omega
 have ho0:(0:Int)≤(o:Int):=by omega
 have hoB2:(o:Int) < (nB:Int):=by omega
 obtain⟨top,htop⟩:∃ top,hs0 - P=top:=⟨_,rfl⟩
 obtain⟨left,hleft⟩:∃ left,vs0 - P=left:=⟨_,rfl⟩
 intro hQ
 revert hleft;revert left;revert htop;revert top;revert hoB2;revert ho0;revert hK0;revert w3;revert w2;revert w1;exact hQ
):p:=h k
theorem Z9w {p q:Prop} (k:q) (h:True∧q→p:=by
 intro hQ
 refine Tk.x 7 rfl ?_
 exact hQ.2
):p:=h ⟨trivial,k⟩
theorem Z9x {p q:Prop} (k:q) (h:q→p:=by
 have hg2:w.heap.size+3≤w2.heap.size:=yFR
 obtain⟨tbp0,tbp1,tbp2,tbp3⟩:=TB.out
 intro hQ
 revert tbp3;revert tbp2;revert tbp1;revert tbp0;revert hg2;exact hQ
):p:=h k
theorem Z9y {p q:Prop} (k:q) (h:q→p:=by
 have n0:=TN.out.at 0 (Jj Jq x.kd) rfl
 have n11:=TN.out.at 11 (.int .i32 x.m1) rfl
 have n12:=TN.out.at 12 (Jj Jq x.s1) rfl
 have n13:=TN.out.at 13 (.int .i8 x.z1) rfl
 have n14:=TN.out.at 14 (.int .i32 x.m2) rfl
 have n15:=TN.out.at 15 (Jj Jq x.s2) rfl
 have n16:=TN.out.at 16 (.int .i8 x.z2) rfl
 have n17:=TN.out.at 17 (.int .i8 x.lo) rfl
 have n18:=TN.out.at 18 (.int .i8 x.hi) rfl
 intro hQ
 revert n18;revert n17;revert n16;revert n15;revert n14;revert n13;revert n12;revert n11;revert n0;exact hQ
):p:=h k
theorem Z9z {p q:Prop} (k:q) (h:q→p:=by
 have TN:=hid (TN.out.below (lt_of_succ_lt HL.out) hb)
 intro hQ
 revert TN;exact hQ
):p:=h k
theorem Za0 {p q:Prop} (k:q) (h:q→p:=by
 have hNI:(a:Int) * (b:Int) * O=(N:Int):=by rw [hO, ← hN];simp
 have hN2:N≤1024:=by rw [hNI] at q7;omega
 have hel:zaz (a:Int) (b:Int) O=(N:Int):=by rw [zay hsr];exact hNI
 have hS:convS H W C K S P O nW nB=#[Jj Jq (a:Int),Jj Jq (b:Int),Jj Jq O]:=by unfold convS;rw [he,if_pos rfl,ha,hb]
 intro hQ
 revert hS;revert hel;revert hN2;revert hNI;exact hQ
):p:=h k
theorem Za1 {p q:Prop} (k:q) (h:True∧q→p:=by
 intro hQ
 refine Tk.x 5 rfl ?_
 exact hQ.2
):p:=h ⟨trivial,k⟩
theorem Za2 {p q:Prop} (k:q) (h:q→p:=by
 have n0:=TN.out.at 0 _ rfl
 have n2:=TN.out.at 2 _ rfl
 intro hQ
 revert n2;revert n0;exact hQ
):p:=h k
theorem Za3 {p q:Prop} (k:q) (h:q→p:=by
 have hnb:(e != 0)=true:=by simpa using hn
 have hnc:(e == 0)=false:=by simpa using hn
 have HE:=hid he
 have HS:=hid hS
 intro hQ
 revert HS;revert HE;revert hnc;revert hnb;exact hQ
):p:=h k
theorem Za4 {p q:Prop} (k:q) (h:q→p:=by
 have HK:=hid hk
 have HE:=hid (ent1 x H W C A n c 41 w)
 intro hQ
 revert HE;revert HK;exact hQ
):p:=h k
theorem Za5 {p q:Prop} (k:q) (h:True∧q→p:=by
 intro hQ
 refine Tk.x 11 rfl ?_
 exact hQ.2
):p:=h ⟨trivial,k⟩
theorem Za6 {p q:Prop} (k:q) (h:True∧q→p:=by
 intro hQ
 refine Tk.x 13 rfl ?_
 exact hQ.2
):p:=h ⟨trivial,k⟩
theorem Za7 {p q:Prop} (k:q) (h:q→p:=by
 have qTN:=(zae.new x0 x1 x2 x8 x11 x12 x13 x14 x15 x16 x17 x18 (kk:Int) S P O Z WA BA nW cW nB cB 28) (w.alloc (.cells #[Jj Jq H,Jj Jq W,Jj Jq C,.slice (some ⟨bb,ob,none⟩) n c] 32))
 try simp only [World.size_alloc] at qTN
 intro hQ
 revert qTN;exact hQ
):p:=h k
theorem Za8 {p q:Prop} (k:q) (h:q→p:=by
 have hwb:((nW:Int) != q)=true:=by simpa using hw
 have hwc:((nW:Int) == q)=false:=by simpa using hw
 intro hQ
 revert hwc;revert hwb;exact hQ
):p:=h k
theorem Za9 {p q:Prop} (k:q) (h:q→p:=by
 have hA3:Hid (OfAt w H W C A n c x0 x1 x2 x8 x11 x12 x13 x14 x15 x16 x17 x18 K S P O Z WA (some ⟨bb,ob,none⟩) nW cW nB cB (a:Int) (b:Int) C g6 wr.drew):=hid (hA2.out.below h63 (lt_succ_self _) (Below.refl _ _).drew)
 intro hQ
 revert hA3;exact hQ
):p:=h k
theorem Zaa {p q:Prop} (k:q) (h:q→p:=by
 have G2:=hid (zdh x.m1 x.s1 x.z1 y.m1 y.s1 y.z1)
 rw [h2] at G2
 have G3:=hid (zdh x.m2 x.s2 x.z2 y.m2 y.s2 y.z2)
 rw [h3] at G3
 intro hQ
 revert G3;revert G2;exact hQ
):p:=h k
theorem Zab {p q:Prop} (k:q) (h:q→p:=by
 have k:∀ i j (v:Value) (wd:World),(wd.setCell ⟨B2,j,none⟩ v).cell? ⟨B,i,none⟩=wd.cell? ⟨B,i,none⟩:=fun i j v wd=>World.cell?_setCell_other _ _ _ _ (fun e=>hne (congrArg Addr.block e).symm)
 intro hQ
 revert k;exact hQ
):p:=h k
theorem Zac {p q:Prop} (k:q) (h:q→p:=by
 have w1:IntKind.i64.wrap q=q:=IntWalk.i64_in _ Zb3
 have w2:IntKind.i64.wrap r=r:=IntWalk.i64_in _ Zb3
 have w3:IntKind.i64.wrap (m - r)=m - r:=IntWalk.i64_in _ Zb3
 have w4:IntKind.i64.wrap (q+1)=q+1:=IntWalk.i64_in _ Zb3
 intro hQ
 revert w4;revert w3;revert w2;revert w1;exact hQ
):p:=h k
theorem Zad {p q:Prop} (k:q) (h:q→p:=by
 obtain⟨q,hq⟩:∃ q,O * K * K * C=q:=⟨_,rfl⟩
 intro hQ
 revert hq;revert q;exact hQ
):p:=h k
theorem Zae {p q:Prop} (k:q) (h:q→p:=by
 obtain⟨-, -, -, -,o1,o2, -⟩:=zac h2
 have hnn:n * nB=nW:=by
  have e:((n * nB:Nat):Int)=(nW:Int):=by rw [hnW, ← hnB,Int.natCast_mul,Int.mul_comm]
  omega
 have hS:denseS H W C O nW nB=#[Jj Jq 1,Jj Jq 1,Jj Jq O]:=by unfold denseS;rw [he,if_pos rfl]
 intro hQ
 revert hS;revert hnn;revert o2;revert o1;exact hQ
):p:=h k
theorem Zaf {p q:Prop} (k:q) (h:q→p:=by
 have qTN:=(zae.new x0 x1 x2 x8 x11 x12 x13 x14 x15 x16 x17 x18 (kk:Int) S P O Z WA BA nW cW nB cB 28) (w.alloc (.cells #[Jj Jq H,Jj Jq W,Jj Jq C,.slice A n c] 32))
 try simp only [World.size_alloc] at qTN
 intro hQ
 revert qTN;exact hQ
):p:=h k
theorem Zag {p q:Prop} (k:q) (h:True∧q→p:=by
 intro hQ
 refine Tk.x 12 rfl ?_
 exact hQ.2
):p:=h ⟨trivial,k⟩
theorem Zah {p q:Prop} (k:q) (h:q→p:=by
 obtain⟨k00,k01,k02,k03⟩:=TA.out
 obtain⟨⟨z0,z1,z2,z3⟩,f0,f1,f2,f3⟩:=FR.out
 have q0:=nd_k0 TN.out HK.out
 intro hQ
 revert q0;revert f3;revert f2;revert f1;revert f0;revert z3;revert z2;revert z1;revert z0;revert k03;revert k02;revert k01;revert k00;exact hQ
):p:=h k
theorem Zai {p q:Prop} (k:q) (h:q→p:=by
 have HT0:Hid (PutJ g H W C v wr.drew):=hT0
 have HW0:Hid (wr.drew.ownsRow (g+1) 22 1 v k (I8s (rowL F k))):=hid (Kit.own_below hW0.out (Below.refl _ _).drew)
 have HB0:Hid (Below g W5 wr.drew):=hid hB0.out.drew
 have hz:g+1≤wr.drew.heap.size:=hz0
 have HS:=hid hS
 intro hQ
 revert HS;revert hz;revert HB0;revert HW0;revert HT0;exact hQ
):p:=h k
theorem Zaj {p q:Prop} (k:q) (h:q→p:=by
 obtain⟨a,ha⟩:∃ a:Nat,zad H K S P=(a:Int):=⟨(zad H K S P).toNat,by omega⟩
 obtain⟨b,hb⟩:∃ b:Nat,zad W K S P=(b:Int):=⟨(zad W K S P).toNat,by omega⟩
 obtain⟨d,hd⟩:∃ d:Nat,C=(d:Int):=⟨C.toNat,by omega⟩
 obtain⟨kk,hk⟩:∃ kk:Nat,K=(kk:Int):=⟨K.toNat,by omega⟩
 intro hQ
 revert hk;revert kk;revert hd;revert d;revert hb;revert b;revert ha;revert a;exact hQ
):p:=h k
theorem Zak {p q:Prop} (k:q) (h:True∧q→p:=by
 intro hQ
 refine Tk.x 16 rfl ?_
 exact hQ.2
):p:=h ⟨trivial,k⟩
theorem Zal {p q:Prop} (k:q) (h:q→p:=by
 have hB1:Below w.heap.size w w1:=Below.trans ((((Below.refl _ _).alloc (le_refl _) _).alloc Zb7 _).alloc Zba _) (HB.out.mono Zbf)
 intro hQ
 revert hB1;exact hQ
):p:=h k
theorem Zam {p q:Prop} (k:q) (h:q→p:=by
 have f0:=hF.out.2.1 0 Zb3
 have f1:=hF.out.2.1 1 Zb3
 have f2:=hF.out.2.1 2 Zb3
 have f3:=hF.out.2.1 3 Zb3
 intro hQ
 revert f3;revert f2;revert f1;revert f0;exact hQ
):p:=h k
theorem Zan {p q:Prop} (k:q) (h:True∧q→p:=by
 intro hQ
 refine Tk.x 9 rfl ?_
 exact hQ.2
):p:=h ⟨trivial,k⟩
theorem Zao {p q:Prop} (k:q) (h:q→p:=by
 have HT:=hid ht
 have HE:=hid he
 have HS:=hid hS
 have HEL:=hid hel
 intro hQ
 revert HEL;revert HS;revert HE;revert HT;exact hQ
):p:=h k
theorem Zap {p q:Prop} (k:q) (h:q→p:=by
 have TB:=hid ((qTB.below (B':=w.heap.size+1) Zb3 ((((Below.refl _ _).alloc Zb4 _).alloc Zb4 _).mono Zb7)).below Zb9 hb)
 have yTB:w.heap.size < w1.heap.size:=by have:=hb.size;simp at this;omega
 intro hQ
 revert yTB;revert TB;exact hQ
):p:=h k
theorem Zaq {p q:Prop} (k:q) (h:q→p:=by
 have TA:=hid ((qTA.below (B':=w.heap.size+1) Zb3 (((((Below.refl _ _).alloc Zb4 _).alloc Zb4 _).alloc Zb4 _).mono Zb7)).below Zb9 hb)
 have yTA:w.heap.size < w1.heap.size:=by have:=hb.size;simp at this;omega
 intro hQ
 revert yTA;revert TA;exact hQ
):p:=h k
theorem Zar {p q:Prop} (k:q) (h:q→p:=by
 have TB:=hid ((qTB.below (B':=w.heap.size+2) Zb3 ((((Below.refl _ _).alloc Zb4 _).alloc Zb4 _).mono Zb7)).below Zb9 hb)
 have yTB:w.heap.size+1 < w1.heap.size:=by have:=hb.size;simp at this;omega
 intro hQ
 revert yTB;revert TB;exact hQ
):p:=h k
theorem Zas {p q:Prop} (k:q) (h:q→p:=by
 have TN:=hid ((qTN.below (B':=w.heap.size+3) Zb3 (((Below.refl _ _).alloc Zb4 _).mono Zb7)).below Zb9 hb)
 have yTN:w.heap.size+2 < w1.heap.size:=by have:=hb.size;simp at this;omega
 intro hQ
 revert yTN;revert TN;exact hQ
):p:=h k
theorem Zat {p q:Prop} (k:q) (h:q→p:=by
 have TN:=hid ((qTN.below (B':=w.heap.size+2) Zb3 (((Below.refl _ _).alloc Zb4 _).mono Zb7)).below Zb9 hb)
 have yTN:w.heap.size+1 < w1.heap.size:=by have:=hb.size;simp at this;omega
 intro hQ
 revert yTN;revert TN;exact hQ
):p:=h k
theorem Zau {p q:Prop} (k:q) (h:q→p:=by
 have FR:=hid (qFR.below Zb9 hb)
 have yFR:w.heap.size+3 < w1.heap.size:=by have:=hb.size;simp at this;omega
 intro hQ
 revert yFR;revert FR;exact hQ
):p:=h k
theorem Zav {p q:Prop} (k:q) (h:q→p:=by
 have TA:=hid ((qTA.below (B':=w.heap.size+1) Zb3 ((((Below.refl _ _).alloc Zb4 _).alloc Zb4 _).mono Zb7)).below Zb9 hb)
 have yTA:w.heap.size < w1.heap.size:=by have:=hb.size;simp at this;omega
 intro hQ
 revert yTA;revert TA;exact hQ
):p:=h k
theorem Zaw {p q:Prop} (k:q) (h:q→p:=by
 have hh:Below w.heap.size w w1:=hal.trans (hb.mono hal.size)
 intro hQ
 revert hh;exact hQ
):p:=h k
theorem Zax {p q:Prop} (k:q) (h:q→p:=by
 have c0:=hF.out.1 0 Zb3
 have c1:=hF.out.1 1 Zb3
 have c2:=hF.out.1 2 Zb3
 have c3:=hF.out.1 3 Zb3
 intro hQ
 revert c3;revert c2;revert c1;revert c0;exact hQ
):p:=h k
theorem Zay {p q:Prop} (k:q) (h:q→p:=by
 have hm:(n:Int)=H * W * C:=by simp only [tensB,Bool.and_eq_true,decide_eq_true_eq] at ht;exact ht.2
 intro hQ
 revert hm;exact hQ
):p:=h k
theorem Zaz {p q:Prop} (k:q) (h:q→p:=by
 have TS:=hid (qTS.below Zb9 hb)
 have yTS:w2.heap.size < w3.heap.size:=by have:=hb.size;simp at this;omega
 intro hQ
 revert yTS;revert TS;exact hQ
):p:=h k
theorem Zb0 {p q:Prop} (k:q) (h:q→p:=by
 obtain⟨hs,hhs⟩:∃ hs,(i:Int) * S=hs:=⟨_,rfl⟩
 obtain⟨vs,hvs⟩:∃ vs,(j:Int) * S=vs:=⟨_,rfl⟩
 have b1:0≤hs∧hs≤64:=by
  exact Z1t
 have b2:0≤vs∧vs≤64:=by
  exact Z1u
 have e1:IntKind.i64.wrap hs=hs:=IntWalk.i64_in _ Zb3
 have e2:IntKind.i64.wrap vs=vs:=IntWalk.i64_in _ Zb3
 intro hQ
 revert e2;revert e1;revert b2;revert b1;revert hvs;revert vs;revert hhs;revert hs;exact hQ
):p:=h k
theorem Zb1 {p q:Prop} (k:q) (h:q→p:=by
 have qTN:=(zae.new x0 x1 x2 x8 x11 x12 x13 x14 x15 x16 x17 x18 K S P O Z WA BA nW cW nB cB 28) (w.alloc (.cells #[Jj Jq H,Jj Jq W,Jj Jq C,.slice A n c] 32))
 try simp only [World.size_alloc] at qTN
 intro hQ
 revert qTN;exact hQ
):p:=h k
theorem Zb2 {p q:Prop} (k:q) (h:q→p:=by
 have hs:zam H W C=true:=by simp only [tensB,Bool.and_eq_true] at ht;exact ht.1
 intro hQ
 revert hs;exact hQ
):p:=h k
theorem Zb3 {p:Prop} (h:p:=by omega):p:=h
theorem Zb4 {p:Prop} (h:p:=by first | exact le_refl _ | (simp;done) | (simp;omega)):p:=h
theorem Zb5 {p:Prop} (h:p:=by kernel_rfl):p:=h
theorem Zb6 {p:Prop} (h:p:=by go_cell):p:=h
theorem Zb7 {p:Prop} (h:p:=by simp):p:=h
theorem Zb8 {p:Prop} (h:p:=by show some (Value.int .i64 x.kd)=_;rw [HK.out]):p:=h
theorem Zb9 {p:Prop} (h:p:=by first | (simp;done) | (simp;omega)):p:=h
theorem Zba {p:Prop} (h:p:=by simp;omega):p:=h
theorem Zbb {p:Prop} (h:p:=by have:=hb.size;simp at this;omega):p:=h
theorem Zbc {p:Prop} (h:p:=by decide):p:=h
theorem Zbd {p:Prop} (h:p:=by assumption):p:=h
theorem Zbe {p:Prop} (h:p:=by have:=HN.out;omega):p:=h
theorem Zbf {p:Prop} (h:p:=by first | omega | (simp;done) | (simp;omega)):p:=h
theorem Zbg {p:Prop} (h:p:=by rw [← he];exact h1):p:=h
theorem Zbh {p:Prop} (h:p:=by show w.heap.size≤w.heap.size+2;omega):p:=h
theorem Zbi {p:Prop} (h:p:=by have:=HI2.out.1.2.2.2.2.2;omega):p:=h
theorem Zbj {p:Prop} (h:p:=by first | exact le_refl _ | (simp;done) | (simp;omega) | omega):p:=h
theorem Zbk {p:Prop} (h:p:=by show w.heap.size≤w.heap.size+1+1;omega):p:=h
theorem Zbl {p:Prop} (h:p:=by simp at h0 ⊢;omega):p:=h
theorem Zbm {p:Prop} (h:p:=by have:=HWS.out;omega):p:=h
theorem Zbn {p:Prop} (h:p:=by rw [size_madeCells];simp):p:=h
theorem Zbo {p:Prop} (h:p:=by first | (simp;done) | assumption):p:=h
theorem Zbp {p:Prop} (h:p:=by simp at h1 ⊢;omega):p:=h
theorem Zbq {p:Prop} (h:p:=by rw [hi3];omega):p:=h
theorem Zbr {p:Prop} (h:p:=by show bw < _;omega):p:=h
theorem Zbs {p:Prop} (h:p:=by simp [psum,IntKind.wrap_i32]):p:=h
theorem Zbt {p:Prop} (h:p:=by simp [Value.ownBlock];omega):p:=h
theorem Zbu {p:Prop} (h:p:=by rfl):p:=h
theorem Zbv {p:Prop} (h:p:=by rw [zcn];omega):p:=h
end Go.Proofs
