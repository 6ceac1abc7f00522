/- -/
import Derived.Test.YtchpdhhpkljdhaaGreatDoorGD24
open Go.Value renaming int→Jj
open Go.IntKind renaming i64→Jq
open Go.Lib (hid)
open Nat (le_refl lt_of_succ_lt lt_succ_self)
set_option linter.unusedVariables false
set_option linter.unusedSimpArgs false
set_option maxRecDepth 100000
set_option maxHeartbeats 16000000
namespace Go.Proofs.YtchpdhhpkljdhaaGreatDoor
namespace CConv
end CConv
namespace CSat
end CSat
open Go Go.ChangeShapes Go.WideShapes Go.ChangeAt Go.RowKit
section
namespace CDense
open Plain CSat CShape CTensor CConv
theorem denseE_ok {H W C O:Int} {nW nB:Nat} (h:zc7 H W C O nW nB=0):zam H W C=true∧zam 1 1 O=true∧(nW:Int)=O * zaz H W C∧nW≤16384∧(nB:Int)=O:=by
 unfold zc7 at h
 by_cases h1:zam H W C=true∧zam 1 1 O=true
 ·rw [if_pos h1] at h
  by_cases h2:(nW:Int)=O * zaz H W C∧nW≤16384∧(nB:Int)=O
  ·exact⟨h1.1,h1.2,h2⟩
  ·rw [if_neg h2] at h;omega
 ·rw [if_neg h1] at h;omega
theorem own_set9 {w:World} {base g:Nat} {e:TypeId} {size n:Nat} {v:Value} {xs:List Value} {x y z u:Value} (h:w.ownsRow base e size v n xs) (hg:g < base):((((w.setCell ⟨g,0,none⟩ x).setCell ⟨g,1,none⟩ y).setCell ⟨g,2,none⟩ z).setCell ⟨g,3,none⟩ u).ownsRow base e size v n xs :=
 zat (zat (zat (zat h _ _ hg) _ _ hg) _ _ hg) _ _ hg
theorem dof_bad (H W C:Int) (A:Option Addr) (n c:Nat) (x0 x1 x2 x8 x11 x12 x13 x14 x15 x16 x17 x18:Value) (K S P O Z:Int) (WA BA:Option Addr) (nW cW nB cB:Nat) (ht:tensB H W C n=false) (w:World) :
  Calls Tryz.prog 33 #[.agg #[Jj Jq H,Jj Jq W,Jj Jq C,.slice A n c],.agg #[x0,x1,x2,Jj Jq K,Jj Jq S,Jj Jq P,Jj Jq O,.int .i8 Z,x8,.slice WA nW cW,.slice BA nB cB,x11,x12,x13,x14,x15,x16,x17,x18]] w (MadeA w 0 0 0 0 [] (Jj Jq 5)):=by
 have HT:=hid ht
 clear ht
 go_enter Tryz.func33,Tryz.ntmps33
 exact Z5m
theorem dof_err (H W C:Int) (A:Option Addr) (n c:Nat) (x0 x1 x2 x8 x11 x12 x13 x14 x15 x16 x17 x18:Value) (K S P O Z:Int) (WA BA:Option Addr) (nW cW nB cB:Nat) (ht:tensB H W C n=true) (er:Int) (he:zc7 H W C O nW nB=er) (h0:er≠0) (w:World) :
  Calls Tryz.prog 33 #[.agg #[Jj Jq H,Jj Jq W,Jj Jq C,.slice A n c],.agg #[x0,x1,x2,Jj Jq K,Jj Jq S,Jj Jq P,Jj Jq O,.int .i8 Z,x8,.slice WA nW cW,.slice BA nB cB,x11,x12,x13,x14,x15,x16,x17,x18]] w (MadeA w 0 0 0 0 [] (Jj Jq er)):=by
 have hS:denseS H W C O nW nB=#[Jj Jq 0,Jj Jq 0,Jj Jq 0]:=by unfold denseS;rw [he,if_neg h0]
 refine Z7j ?_;intro HT HE HS h0b h0c
 clear ht he hS
 go_enter Tryz.func33,Tryz.ntmps33
 go_wp2_with fail
 go_at_call 13
 refine Z68 ?_;intro hal
 refine (CTensor.zak H W C A n c true HT.out _).mono ?_
 rintro e w1 ⟨rfl,hb⟩
 refine Z5w ?_;intro hh TB yTB TN yTN FR yFR
 refine Z71 ?_;intro HBW
 obtain⟨tbp0,tbp1,tbp2,tbp3⟩:=TB.out
 clear hb hh hal
 go_wp2_with (refine wpList_load_mid rfl 28 (.tmp 3) rfl (w.heap.size+1) 0 rfl [x0,x1,x2,Jj Jq K,Jj Jq S,Jj Jq P,Jj Jq O,.int .i8 Z,x8,.slice WA nW cW,.slice BA nB cB,x11,x12,x13,x14,x15,x16,x17,x18] _ TN.out Tryz.underlying28 rfl Zb5 ?_)
 go_at_call 84
 refine Z72 ?_;intro hal
 refine (dshape_to H W C x0 x1 x2 x8 x11 x12 x13 x14 x15 x16 x17 x18 K S P O Z WA BA nW cW nB cB er _ HE.out HS.out _).mono ?_
 exact Z3q
theorem dof_yes (H W C:Int) (A:Option Addr) (zs:List Int) (n c:Nat) (hn:zs.length=n) (ht:tensB H W C n=true) (hz:I8b zs) (x0 x1 x2 x8 x11 x12 x13 x14 x15 x16 x17 x18:Value) (K S P O Z:Int) (WA BA:Option Addr) (nW cW nB cB:Nat) (ws:List Int) (hws:ws.length=nW) (hwc:nW≤cW) (hwb:I8b ws) (bs:List Int) (hbs:bs.length=nB)
  (he:zc7 H W C O nW nB=0) (z1 : -128≤Z) (z2:Z≤127) (w:World) (hr:Kit.Rd w w.heap.size A (I8s zs)) (hrw:Kit.Rd w w.heap.size WA (I8s ws)) (hrb:Kit.Rd w w.heap.size BA (I32v bs)) :
  Calls Tryz.prog 33 #[.agg #[Jj Jq H,Jj Jq W,Jj Jq C,.slice A n c],.agg #[x0,x1,x2,Jj Jq K,Jj Jq S,Jj Jq P,Jj Jq O,.int .i8 Z,x8,.slice WA nW cW,.slice BA nB cB,x11,x12,x13,x14,x15,x16,x17,x18]] w (MadeA w 1 1 O nB (rowL (lineF zs ws bs n Z) nB) (Jj Jq 0)):=by
 obtain⟨h1,h2,hnW,hn16,hnB⟩:=denseE_ok he
 refine Zay ?_;intro hm
 obtain⟨-,q1,q2⟩:=el_pos H W C h1
 have hel:zaz H W C=(n:Int):=by rw [zay h1,hm]
 rw [hel] at hnW q1 q2
 refine Zae ?_;intro o1 o2 hnn hS
 have hline:=fun (w':World) (r1:Kit.Rd w' w'.heap.size A (I8s zs)) (r2:Kit.Rd w' w'.heap.size WA (I8s ws)) (r3:Kit.Rd w' w'.heap.size BA (I32v bs)) =>
  line_yes A zs n c hn Zb3 Zb3 hz WA ws nW cW hws hwc hwb BA bs nB cB hbs Zb3 Zb3 hnn Zb3 Z z1 z2 _ (fun _=>rfl) w' r1 r2 r3
 have HL:=hid hline
 have HT:=hid ht
 have HE:=hid he
 have HS:=hid hS
 have HR:=hid hr
 have HRW:=hid hrw
 have HRB:=hid hrb
 generalize rowL (lineF zs ws bs n Z) nB=ys at HL ⊢
 clear hline ht he hS hr hrw hrb h1 h2 hm hel hnn hnW hn hws hwb hbs hz q1 q2
 go_enter Tryz.func33,Tryz.ntmps33
 go_wp2_with fail
 go_at_call 13
 refine Z68 ?_;intro hal
 refine (CTensor.zak H W C A n c true HT.out _).mono ?_
 rintro e w1 ⟨rfl,hb⟩
 refine Z5w ?_;intro hh TB yTB TN yTN FR yFR
 refine Z7i ?_;try clear HR HRW;intro HR HRW
 replace HRB:=hid ((HRB.out.below hh).more hh.size)
 refine Z71 ?_;intro HBW
 obtain⟨tbp0,tbp1,tbp2,tbp3⟩:=TB.out
 clear hb hh hal
 go_wp2_with (refine wpList_load_mid rfl 28 (.tmp 3) rfl (w.heap.size+1) 0 rfl [x0,x1,x2,Jj Jq K,Jj Jq S,Jj Jq P,Jj Jq O,.int .i8 Z,x8,.slice WA nW cW,.slice BA nB cB,x11,x12,x13,x14,x15,x16,x17,x18] _ TN.out Tryz.underlying28 rfl Zb5 ?_)
 go_at_call 84
 refine Z72 ?_;intro hal
 refine (dshape_to H W C x0 x1 x2 x8 x11 x12 x13 x14 x15 x16 x17 x18 K S P O Z WA BA nW cW nB cB 0 _ HE.out HS.out _).mono ?_
 rintro e w2 ⟨rfl,hb⟩
 refine Z6r ?_;intro hh
 refine Z60 ?_;try clear TB yTB TN yTN FR yFR;intro TB yTB TN yTN FR yFR
 refine Z7i ?_;try clear HR HRW;intro HR HRW
 replace HRB:=hid ((HRB.out.below hh).more hh.size)
 refine Z74 ?_;try clear HBW;intro HBW
 clear tbp0 tbp1 tbp2 tbp3
 obtain⟨tbp0,tbp1,tbp2,tbp3⟩:=TB.out
 clear hb hh hal
 go_wp2_with fail
 refine Z9p ?_;intro Wn hWn hbn hts hzn
 rw [hWn]
 refine Z9r ?_;try clear HR HRW HRB HBW FR;intro hg6 n7 n9 n10 t3 s0 s1 s2 HR HRW HRB HBW FR
 generalize w2.heap.size=g6 at s0 s1 s2 hzn hg6 ⊢
 clear TB TN yTB yTN yFR hbn hWn tbp0 tbp1 tbp2 tbp3
 refine wp_region_held_drew (S:=fun w'=>w'.cell? ⟨g6,0,none⟩=some (Jj Jq 1)∧w'.cell? ⟨g6,1,none⟩=some (Jj Jq 1)∧w'.cell? ⟨g6,2,none⟩=some (Jj Jq O)∧w'.cell? ⟨w.heap.size,3,none⟩=some (.slice A n c)∧w'.cell? ⟨w.heap.size+1,7,none⟩=some (.int .i8 Z)∧w'.cell? ⟨w.heap.size+1,9,none⟩=some (.slice WA nW cW)∧w'.cell? ⟨w.heap.size+1,10,none⟩=some (.slice BA nB cB)) Zb5 ⟨s0,s1,s2,t3,n7,n9,n10⟩ (fun hHeld=>?_)
 refine Z95 ?_;try clear HR HRW HRB HBW FR hzn;clear s0 s1 s2 t3 n7 n9 n10;intro HBW FR hzn HR HRW HRB
 generalize Wn.drew=Wd at HR HRW HRB HBW FR hzn hHeld ⊢
 refine Tk.y 0 (v:=?_) rfl ?_ ?_
 rotate_left
 ·exact Z3v
 refine Z5y ?_
 refine Tk.x 1 rfl ?_
 refine Z5y ?_
 refine Tk.y 2 (v:=?_) rfl ?_ ?_
 rotate_left
 ·exact Z3v
 refine Z5y ?_
 refine Z94 ?_
 refine Z5y ?_
 refine Tk.y 4 (v:=?_) rfl ?_ ?_
 rotate_left
 ·exact Z3v
 refine Z5y ?_
 refine Za1 ?_
 refine Z5y ?_
 refine Tk.y 6 (v:=?_) rfl ?_ ?_
 rotate_left
 ·exact Z3v
 refine Z5y ?_
 refine Z9w ?_
 refine Z5y ?_
 refine Tk.y 8 (v:=?_) rfl ?_ ?_
 rotate_left
 ·exact Z3v
 refine Z5y ?_
 refine Tk.s 9 rfl (fun Kq hK=>?_)
 go_simp
 go_at_call 85
 exact Z3a
theorem rof_bad (H W C:Int) (A:Option Addr) (n c:Nat) (x0 x1 x2 x8 x11 x12 x13 x14 x15 x16 x17 x18:Value) (K S P O Z:Int) (WA BA:Option Addr) (nW cW nB cB:Nat) (ht:tensB H W C n=false) (w:World) :
  Calls Tryz.prog 36 #[.agg #[Jj Jq H,Jj Jq W,Jj Jq C,.slice A n c],.agg #[x0,x1,x2,Jj Jq K,Jj Jq S,Jj Jq P,Jj Jq O,.int .i8 Z,x8,.slice WA nW cW,.slice BA nB cB,x11,x12,x13,x14,x15,x16,x17,x18]] w (MadeA w 0 0 0 0 [] (Jj Jq 5)):=by
 have HT:=hid ht
 clear ht
 go_enter Tryz.func36,Tryz.ntmps36
 exact Z5k
theorem rof_err (H W C:Int) (A:Option Addr) (n c:Nat) (x0 x1 x2 x8 x11 x12 x13 x14 x15 x16 x17 x18:Value) (K S P O Z:Int) (WA BA:Option Addr) (nW cW nB cB:Nat) (ht:tensB H W C n=true) (er:Int) (he:zc7 H W C O nW nB=er) (h0:er≠0) (w:World) :
  Calls Tryz.prog 36 #[.agg #[Jj Jq H,Jj Jq W,Jj Jq C,.slice A n c],.agg #[x0,x1,x2,Jj Jq K,Jj Jq S,Jj Jq P,Jj Jq O,.int .i8 Z,x8,.slice WA nW cW,.slice BA nB cB,x11,x12,x13,x14,x15,x16,x17,x18]] w (MadeA w 0 0 0 0 [] (Jj Jq er)):=by
 have hS:denseS H W C O nW nB=#[Jj Jq 0,Jj Jq 0,Jj Jq 0]:=by unfold denseS;rw [he,if_neg h0]
 refine Z7j ?_;intro HT HE HS h0b h0c
 clear ht he hS
 go_enter Tryz.func36,Tryz.ntmps36
 go_wp2_with fail
 go_at_call 22
 refine Z68 ?_;intro hal
 refine (zal H W C A n c true HT.out _).mono ?_
 rintro e w1 ⟨rfl,hb⟩
 refine Z5w ?_;intro hh TB yTB TN yTN FR yFR
 refine Z71 ?_;intro HBW
 obtain⟨tbp0,tbp1,tbp2,tbp3⟩:=TB.out
 clear hb hh hal
 go_wp2_with (refine wpList_load_mid rfl 28 (.tmp 3) rfl (w.heap.size+1) 0 rfl [x0,x1,x2,Jj Jq K,Jj Jq S,Jj Jq P,Jj Jq O,.int .i8 Z,x8,.slice WA nW cW,.slice BA nB cB,x11,x12,x13,x14,x15,x16,x17,x18] _ TN.out Tryz.underlying28 rfl Zb5 ?_)
 go_at_call 90
 refine Z72 ?_;intro hal
 refine (rshape_to H W C x0 x1 x2 x8 x11 x12 x13 x14 x15 x16 x17 x18 K S P O Z WA BA nW cW nB cB er _ HE.out HS.out _).mono ?_
 exact Z3q
theorem rof_yes (H W C:Int) (A:Option Addr) (zs:List Int) (n c:Nat) (hn:zs.length=n) (ht:tensB H W C n=true) (hz:I8b zs) (x0 x1 x2 x8 x11 x12 x13 x14 x15 x16 x17 x18:Value) (K S P O Z:Int) (WA BA:Option Addr) (nW cW nB cB:Nat) (ws:List Int) (hws:ws.length=nW) (hwc:nW≤cW) (hwb:I8b ws) (bs:List Int) (hbs:bs.length=nB) (hb32:∀ q, -2147483648≤bs.getD q 0∧bs.getD q 0≤2147483647)
  (he:zc7 H W C O nW nB=0) (z1 : -128≤Z) (z2:Z≤127) (w:World) (hr:Kit.Rd w w.heap.size A (I8s zs)) (hrw:Kit.Rd w w.heap.size WA (I8s ws)) (hrb:Kit.Rd w w.heap.size BA (I32v bs)) :
  Calls Tryz.prog 36 #[.agg #[Jj Jq H,Jj Jq W,Jj Jq C,.slice A n c],.agg #[x0,x1,x2,Jj Jq K,Jj Jq S,Jj Jq P,Jj Jq O,.int .i8 Z,x8,.slice WA nW cW,.slice BA nB cB,x11,x12,x13,x14,x15,x16,x17,x18]] w (MadeA w 1 1 O nB (rowL (lineF zs ws bs n Z) nB) (Jj Jq 0)):=by
 obtain⟨h1,h2,hnW,hn16,hnB⟩:=denseE_ok he
 refine Zay ?_;intro hm
 obtain⟨-,q1,q2⟩:=el_pos H W C h1
 have hel:zaz H W C=(n:Int):=by rw [zay h1,hm]
 rw [hel] at hnW q1 q2
 refine Zae ?_;intro o1 o2 hnn hS
 have hline:=fun (w':World) (r1:Kit.Rd w' w'.heap.size A (I8s zs)) (r2:Kit.Rd w' w'.heap.size WA (I8s ws)) (r3:Kit.Rd w' w'.heap.size BA (I32v bs)) =>
  refLine_yes A zs n c hn Zb3 Zb3 hz WA ws nW cW hws hwb BA bs nB cB hbs hb32 Zb3 Zb3 hnn Zb3 Z z1 z2 _ (fun _=>rfl) w' r1 r2 r3
 have HL:=hid hline
 have HT:=hid ht
 have HE:=hid he
 have HS:=hid hS
 have HR:=hid hr
 have HRW:=hid hrw
 have HRB:=hid hrb
 generalize rowL (lineF zs ws bs n Z) nB=ys at HL ⊢
 clear hline ht he hS hr hrw hrb h1 h2 hm hel hnn hnW hn hws hwb hbs hz q1 q2 hb32
 go_enter Tryz.func36,Tryz.ntmps36
 go_wp2_with fail
 go_at_call 22
 refine Z68 ?_;intro hal
 refine (zal H W C A n c true HT.out _).mono ?_
 rintro e w1 ⟨rfl,hb⟩
 refine Z5w ?_;intro hh TB yTB TN yTN FR yFR
 refine Z7i ?_;try clear HR HRW;intro HR HRW
 replace HRB:=hid ((HRB.out.below hh).more hh.size)
 refine Z71 ?_;intro HBW
 obtain⟨tbp0,tbp1,tbp2,tbp3⟩:=TB.out
 clear hb hh hal
 go_wp2_with (refine wpList_load_mid rfl 28 (.tmp 3) rfl (w.heap.size+1) 0 rfl [x0,x1,x2,Jj Jq K,Jj Jq S,Jj Jq P,Jj Jq O,.int .i8 Z,x8,.slice WA nW cW,.slice BA nB cB,x11,x12,x13,x14,x15,x16,x17,x18] _ TN.out Tryz.underlying28 rfl Zb5 ?_)
 go_at_call 90
 refine Z72 ?_;intro hal
 refine (rshape_to H W C x0 x1 x2 x8 x11 x12 x13 x14 x15 x16 x17 x18 K S P O Z WA BA nW cW nB cB 0 _ HE.out HS.out _).mono ?_
 rintro e w2 ⟨rfl,hb⟩
 refine Z6r ?_;intro hh
 refine Z60 ?_;try clear TB yTB TN yTN FR yFR;intro TB yTB TN yTN FR yFR
 refine Z7i ?_;try clear HR HRW;intro HR HRW
 replace HRB:=hid ((HRB.out.below hh).more hh.size)
 refine Z74 ?_;try clear HBW;intro HBW
 clear tbp0 tbp1 tbp2 tbp3
 obtain⟨tbp0,tbp1,tbp2,tbp3⟩:=TB.out
 clear hb hh hal
 go_wp2_with fail
 refine Z9p ?_;intro Wn hWn hbn hts hzn
 rw [hWn]
 refine Z9r ?_;try clear HR HRW HRB HBW FR;intro hg6 n7 n9 n10 t3 s0 s1 s2 HR HRW HRB HBW FR
 generalize w2.heap.size=g6 at s0 s1 s2 hzn hg6 ⊢
 clear TB TN yTB yTN yFR hbn hWn tbp0 tbp1 tbp2 tbp3
 refine wp_region_held_drew (S:=fun w'=>w'.cell? ⟨g6,0,none⟩=some (Jj Jq 1)∧w'.cell? ⟨g6,1,none⟩=some (Jj Jq 1)∧w'.cell? ⟨g6,2,none⟩=some (Jj Jq O)∧w'.cell? ⟨w.heap.size,3,none⟩=some (.slice A n c)∧w'.cell? ⟨w.heap.size+1,7,none⟩=some (.int .i8 Z)∧w'.cell? ⟨w.heap.size+1,9,none⟩=some (.slice WA nW cW)∧w'.cell? ⟨w.heap.size+1,10,none⟩=some (.slice BA nB cB)) Zb5 ⟨s0,s1,s2,t3,n7,n9,n10⟩ (fun hHeld=>?_)
 refine Z95 ?_;try clear HR HRW HRB HBW FR hzn;clear s0 s1 s2 t3 n7 n9 n10;intro HBW FR hzn HR HRW HRB
 generalize Wn.drew=Wd at HR HRW HRB HBW FR hzn hHeld ⊢
 refine Tk.y 0 (v:=?_) rfl ?_ ?_
 rotate_left
 ·exact Z3v
 refine Z5y ?_
 refine Tk.x 1 rfl ?_
 refine Z5y ?_
 refine Tk.y 2 (v:=?_) rfl ?_ ?_
 rotate_left
 ·exact Z3v
 refine Z5y ?_
 refine Z94 ?_
 refine Z5y ?_
 refine Tk.y 4 (v:=?_) rfl ?_ ?_
 rotate_left
 ·exact Z3v
 refine Z5y ?_
 refine Za1 ?_
 refine Z5y ?_
 refine Tk.y 6 (v:=?_) rfl ?_ ?_
 rotate_left
 ·exact Z3v
 refine Z5y ?_
 refine Z9w ?_
 refine Z5y ?_
 refine Tk.y 8 (v:=?_) rfl ?_ ?_
 rotate_left
 ·exact Z3v
 refine Z5y ?_
 refine Tk.s 9 rfl (fun Kq hK=>?_)
 go_simp
 go_at_call 91
 exact Z3a
end CDense
end
end Go.Proofs.YtchpdhhpkljdhaaGreatDoor
