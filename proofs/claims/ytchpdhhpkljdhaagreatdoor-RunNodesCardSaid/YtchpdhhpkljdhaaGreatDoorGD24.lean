/- -/
import Derived.Test.YtchpdhhpkljdhaaGreatDoorGD23
open Go.Value renaming int→Jj
open Go.IntKind renaming i64→Jq
open Go.Lib (hid)
open Nat (le_refl lt_of_succ_lt lt_succ_self)
set_option linter.unusedVariables false
set_option linter.unusedSimpArgs false
set_option maxRecDepth 100000
set_option maxHeartbeats 16000000
namespace Go.Proofs.YtchpdhhpkljdhaaGreatDoor
namespace CConv
end CConv
namespace CSat
end CSat
open Go Go.ChangeShapes Go.WideShapes Go.ChangeAt Go.RowKit
section
namespace CDense
open Plain CSat CShape CTensor CConv
theorem rshape5a (H W C:Int) (x0 x1 x2 x8 x11 x12 x13 x14 x15 x16 x17 x18:Value) (K S P O Z:Int) (WA BA:Option Addr) (nW cW nB cB:Nat) (h1:zam H W C=false) (w:World) :
  Calls Tryz.prog 90 #[.agg #[Jj Jq H,Jj Jq W,Jj Jq C],.agg #[x0,x1,x2,Jj Jq K,Jj Jq S,Jj Jq P,Jj Jq O,.int .i8 Z,x8,.slice WA nW cW,.slice BA nB cB,x11,x12,x13,x14,x15,x16,x17,x18]] w fun e' w'=>e'=.returned (.tuple #[.agg #[Jj Jq 0,Jj Jq 0,Jj Jq 0],Jj Jq 5])∧Below w.heap.size w w':=by
 have HB1:Hid (zaz H W C=0):=hid (zb6 h1)
 clear h1
 go_enter Tryz.func90,Tryz.ntmps90
 go_wp2_with fail
 go_at_call 65
 refine Z63 ?_;intro hal
 refine (zas H W C _ HB1.out _).mono ?_
 exact Z36
theorem rshape5b (H W C:Int) (x0 x1 x2 x8 x11 x12 x13 x14 x15 x16 x17 x18:Value) (K S P O Z:Int) (WA BA:Option Addr) (nW cW nB cB:Nat) (h1:zam H W C=true) (h2:zam 1 1 O=false) (w:World) :
  Calls Tryz.prog 90 #[.agg #[Jj Jq H,Jj Jq W,Jj Jq C],.agg #[x0,x1,x2,Jj Jq K,Jj Jq S,Jj Jq P,Jj Jq O,.int .i8 Z,x8,.slice WA nW cW,.slice BA nB cB,x11,x12,x13,x14,x15,x16,x17,x18]] w fun e' w'=>e'=.returned (.tuple #[.agg #[Jj Jq 0,Jj Jq 0,Jj Jq 0],Jj Jq 5])∧Below w.heap.size w w':=by
 obtain⟨N,hN⟩:∃ N,zaz H W C=N:=⟨_,rfl⟩
 have hN0:(N == 0)=false:=by rw [← hN];exact (el_pos H W C h1).1
 have HB1:=hid hN
 have HB2:Hid (zaz 1 1 O=0):=hid (zb6 h2)
 clear hN
 clear h1 h2
 go_enter Tryz.func90,Tryz.ntmps90
 go_wp2_with fail
 go_at_call 65
 refine Z63 ?_;intro hal
 refine (zas H W C _ HB1.out _).mono ?_
 rintro e w1 ⟨rfl,hb⟩
 refine Z5u ?_;intro hh TS0 yTS0 TN yTN FS yFS TF yTF HBW
 refine Z90 ?_;intro ts0p0 ts0p1 ts0p2 tfp0 tfp1 tfp2
 clear hb hh hal
 go_wp2_with fail
 go_at_call 65
 refine Z72 ?_;intro hal
 refine (zas 1 1 O _ HB2.out _).mono ?_
 exact Z3n
theorem rshape_w1 (H W C:Int) (x0 x1 x2 x8 x11 x12 x13 x14 x15 x16 x17 x18:Value) (K S P O Z:Int) (WA BA:Option Addr) (nW cW nB cB:Nat) (h1:zam H W C=true) (h2:zam 1 1 O=true) (hw:(nW:Int)≠O * zaz H W C) (w:World) :
  Calls Tryz.prog 90 #[.agg #[Jj Jq H,Jj Jq W,Jj Jq C],.agg #[x0,x1,x2,Jj Jq K,Jj Jq S,Jj Jq P,Jj Jq O,.int .i8 Z,x8,.slice WA nW cW,.slice BA nB cB,x11,x12,x13,x14,x15,x16,x17,x18]] w fun e' w'=>e'=.returned (.tuple #[.agg #[Jj Jq 0,Jj Jq 0,Jj Jq 0],Jj Jq 9])∧Below w.heap.size w w':=by
 refine Z7e ?_;intro hN0 hN1 hN2 o1 o2 HE2 N hN
 rw [hN] at hN0 hN1 hN2 hw
 refine Z7b ?_;intro q hq hqb hmul
 rw [hq] at hw
 refine Z8h ?_;intro hO0 hO9 hN9
 have hwb:((nW:Int) != q)=true:=by simpa using hw
 have hwd:¬ (nW:Int)=q:=hw
 have HB1:=hid h1
 have HB2:=hid h2
 have HE:=hid hN
 clear h1 h2 hN hq hw
 go_enter Tryz.func90,Tryz.ntmps90
 go_wp2_with fail
 go_at_call 65
 refine Z63 ?_;intro hal
 refine (zas H W C _ HE.out _).mono ?_
 rintro e w1 ⟨rfl,hb⟩
 refine Z5u ?_;intro hh TS0 yTS0 TN yTN FS yFS TF yTF HBW
 refine Z90 ?_;intro ts0p0 ts0p1 ts0p2 tfp0 tfp1 tfp2
 clear hb hh hal
 go_wp2_with fail
 go_at_call 65
 refine Z72 ?_;intro hal
 refine (zas 1 1 O _ HE2.out _).mono ?_
 rintro e w2 ⟨rfl,hb⟩
 refine Z6g ?_;try clear TS0 yTS0 TN yTN FS yFS TF yTF HBW;intro hh TS0 yTS0 TN yTN FS yFS TF yTF HBW
 clear ts0p0 ts0p1 ts0p2 tfp0 tfp1 tfp2
 refine Z90 ?_;intro ts0p0 ts0p1 ts0p2 tfp0 tfp1 tfp2
 clear hb hh hal
 go_wp2_with fail
 have n6:=TN.out.at 6 _ rfl
 refine Z82 ?_;intro n9 n10
 refine wp_region_held_drew (S:=fun w'=>w'.cell? ⟨w.heap.size,0,none⟩=some (Jj Jq H)∧w'.cell? ⟨w.heap.size,1,none⟩=some (Jj Jq W)∧w'.cell? ⟨w.heap.size,2,none⟩=some (Jj Jq C)∧w'.cell? ⟨w.heap.size+1,6,none⟩=some (Jj Jq O)∧w'.cell? ⟨w.heap.size+1,9,none⟩=some (.slice WA nW cW)∧w'.cell? ⟨w.heap.size+1,10,none⟩=some (.slice BA nB cB)) Zb5 ⟨ts0p0,ts0p1,ts0p2,n6,n9,n10⟩ (fun hHeld=>?_)
 refine Z6t ?_;try clear HBW;intro hFS hTF HBW hsz
 clear FS TF TN TS0 n6 n9 n10 ts0p0 ts0p1 ts0p2 tfp0 tfp1 tfp2 yFS yTF yTN yTS0
 generalize w2.drew=Wd at hFS hTF HBW hsz hHeld ⊢
 refine Z8l ?_
 refine Z5y ?_
 refine Tk.y 1 (v:=?_) rfl ?_ ?_
 rotate_left
 ·exact Z3b
 refine Z5y ?_
 refine Z8w ?_
 refine Z5y ?_
 refine Z94 ?_
 refine Z5y ?_
 refine Tk.y 4 (v:=?_) rfl ?_ ?_
 rotate_left
 ·exact Z3b
 refine Z5y ?_
 refine Tk.y 5 (v:=?_) rfl ?_ ?_
 rotate_left
 ·exact Z3b
 refine Z5y ?_
 refine Tk.s 6 rfl (fun K hK=>?_)
 go_simp
 go_at_call 65
 refine (zas H W C N HE.out _).mono ?_
 exact Z3c
theorem rshape_w2 (H W C:Int) (x0 x1 x2 x8 x11 x12 x13 x14 x15 x16 x17 x18:Value) (K S P O Z:Int) (WA BA:Option Addr) (nW cW nB cB:Nat) (h1:zam H W C=true) (h2:zam 1 1 O=true) (hw:(nW:Int)=O * zaz H W C) (hw2:16384 < nW) (w:World) :
  Calls Tryz.prog 90 #[.agg #[Jj Jq H,Jj Jq W,Jj Jq C],.agg #[x0,x1,x2,Jj Jq K,Jj Jq S,Jj Jq P,Jj Jq O,.int .i8 Z,x8,.slice WA nW cW,.slice BA nB cB,x11,x12,x13,x14,x15,x16,x17,x18]] w fun e' w'=>e'=.returned (.tuple #[.agg #[Jj Jq 0,Jj Jq 0,Jj Jq 0],Jj Jq 9])∧Below w.heap.size w w':=by
 refine Z7e ?_;intro hN0 hN1 hN2 o1 o2 HE2 N hN
 rw [hN] at hN0 hN1 hN2 hw
 refine Z7b ?_;intro q hq hqb hmul
 rw [hq] at hw
 refine Z8h ?_;intro hO0 hO9 hN9
 subst hw
 have hw3:(16384:Int) < (nW:Int):=by omega
 have HB1:=hid h1
 have HB2:=hid h2
 have HE:=hid hN
 clear h1 h2 hN hq
 go_enter Tryz.func90,Tryz.ntmps90
 go_wp2_with fail
 go_at_call 65
 refine Z63 ?_;intro hal
 refine (zas H W C _ HE.out _).mono ?_
 rintro e w1 ⟨rfl,hb⟩
 refine Z5u ?_;intro hh TS0 yTS0 TN yTN FS yFS TF yTF HBW
 refine Z90 ?_;intro ts0p0 ts0p1 ts0p2 tfp0 tfp1 tfp2
 clear hb hh hal
 go_wp2_with fail
 go_at_call 65
 refine Z72 ?_;intro hal
 refine (zas 1 1 O _ HE2.out _).mono ?_
 rintro e w2 ⟨rfl,hb⟩
 refine Z6g ?_;try clear TS0 yTS0 TN yTN FS yFS TF yTF HBW;intro hh TS0 yTS0 TN yTN FS yFS TF yTF HBW
 clear ts0p0 ts0p1 ts0p2 tfp0 tfp1 tfp2
 refine Z90 ?_;intro ts0p0 ts0p1 ts0p2 tfp0 tfp1 tfp2
 clear hb hh hal
 go_wp2_with fail
 have n6:=TN.out.at 6 _ rfl
 refine Z82 ?_;intro n9 n10
 refine wp_region_held_drew (S:=fun w'=>w'.cell? ⟨w.heap.size,0,none⟩=some (Jj Jq H)∧w'.cell? ⟨w.heap.size,1,none⟩=some (Jj Jq W)∧w'.cell? ⟨w.heap.size,2,none⟩=some (Jj Jq C)∧w'.cell? ⟨w.heap.size+1,6,none⟩=some (Jj Jq O)∧w'.cell? ⟨w.heap.size+1,9,none⟩=some (.slice WA nW cW)∧w'.cell? ⟨w.heap.size+1,10,none⟩=some (.slice BA nB cB)) Zb5 ⟨ts0p0,ts0p1,ts0p2,n6,n9,n10⟩ (fun hHeld=>?_)
 refine Z6t ?_;try clear HBW;intro hFS hTF HBW hsz
 clear FS TF TN TS0 n6 n9 n10 ts0p0 ts0p1 ts0p2 tfp0 tfp1 tfp2 yFS yTF yTN yTS0
 generalize w2.drew=Wd at hFS hTF HBW hsz hHeld ⊢
 refine Z8l ?_
 refine Z5y ?_
 refine Tk.y 1 (v:=?_) rfl ?_ ?_
 rotate_left
 ·exact Z3b
 refine Z5y ?_
 refine Z8w ?_
 refine Z5y ?_
 refine Z94 ?_
 refine Z5y ?_
 refine Tk.y 4 (v:=?_) rfl ?_ ?_
 rotate_left
 ·exact Z3b
 refine Z5y ?_
 refine Tk.y 5 (v:=?_) rfl ?_ ?_
 rotate_left
 ·exact Z3b
 refine Z5y ?_
 refine Tk.s 6 rfl (fun K hK=>?_)
 go_simp
 go_at_call 65
 refine (zas H W C N HE.out _).mono ?_
 exact Z5j
theorem rshape_w3 (H W C:Int) (x0 x1 x2 x8 x11 x12 x13 x14 x15 x16 x17 x18:Value) (K S P O Z:Int) (WA BA:Option Addr) (nW cW nB cB:Nat) (h1:zam H W C=true) (h2:zam 1 1 O=true) (hw:(nW:Int)=O * zaz H W C) (hw2:nW≤16384) (hb:(nB:Int)≠O) (w:World) :
  Calls Tryz.prog 90 #[.agg #[Jj Jq H,Jj Jq W,Jj Jq C],.agg #[x0,x1,x2,Jj Jq K,Jj Jq S,Jj Jq P,Jj Jq O,.int .i8 Z,x8,.slice WA nW cW,.slice BA nB cB,x11,x12,x13,x14,x15,x16,x17,x18]] w fun e' w'=>e'=.returned (.tuple #[.agg #[Jj Jq 0,Jj Jq 0,Jj Jq 0],Jj Jq 9])∧Below w.heap.size w w':=by
 refine Z7e ?_;intro hN0 hN1 hN2 o1 o2 HE2 N hN
 rw [hN] at hN0 hN1 hN2 hw
 refine Z7b ?_;intro q hq hqb hmul
 rw [hq] at hw
 refine Z8h ?_;intro hO0 hO9 hN9
 subst hw
 refine Z8d ?_;intro hw3 hw4 hd1 hd2
 have hbb:((nB:Int) != O)=true:=by simpa using hb
 have HB1:=hid h1
 have HB2:=hid h2
 have HE:=hid hN
 clear h1 h2 hN hq hb
 go_enter Tryz.func90,Tryz.ntmps90
 go_wp2_with fail
 go_at_call 65
 refine Z63 ?_;intro hal
 refine (zas H W C _ HE.out _).mono ?_
 rintro e w1 ⟨rfl,hb⟩
 refine Z5u ?_;intro hh TS0 yTS0 TN yTN FS yFS TF yTF HBW
 refine Z90 ?_;intro ts0p0 ts0p1 ts0p2 tfp0 tfp1 tfp2
 clear hb hh hal
 go_wp2_with fail
 go_at_call 65
 refine Z72 ?_;intro hal
 refine (zas 1 1 O _ HE2.out _).mono ?_
 rintro e w2 ⟨rfl,hb⟩
 refine Z6g ?_;try clear TS0 yTS0 TN yTN FS yFS TF yTF HBW;intro hh TS0 yTS0 TN yTN FS yFS TF yTF HBW
 clear ts0p0 ts0p1 ts0p2 tfp0 tfp1 tfp2
 refine Z90 ?_;intro ts0p0 ts0p1 ts0p2 tfp0 tfp1 tfp2
 clear hb hh hal
 go_wp2_with fail
 have n6:=TN.out.at 6 _ rfl
 refine Z82 ?_;intro n9 n10
 refine wp_region_held_drew (S:=fun w'=>w'.cell? ⟨w.heap.size,0,none⟩=some (Jj Jq H)∧w'.cell? ⟨w.heap.size,1,none⟩=some (Jj Jq W)∧w'.cell? ⟨w.heap.size,2,none⟩=some (Jj Jq C)∧w'.cell? ⟨w.heap.size+1,6,none⟩=some (Jj Jq O)∧w'.cell? ⟨w.heap.size+1,9,none⟩=some (.slice WA nW cW)∧w'.cell? ⟨w.heap.size+1,10,none⟩=some (.slice BA nB cB)) Zb5 ⟨ts0p0,ts0p1,ts0p2,n6,n9,n10⟩ (fun hHeld=>?_)
 refine Z6t ?_;try clear HBW;intro hFS hTF HBW hsz
 clear FS TF TN TS0 n6 n9 n10 ts0p0 ts0p1 ts0p2 tfp0 tfp1 tfp2 yFS yTF yTN yTS0
 generalize w2.drew=Wd at hFS hTF HBW hsz hHeld ⊢
 refine Z8l ?_
 refine Z5y ?_
 refine Tk.y 1 (v:=?_) rfl ?_ ?_
 rotate_left
 ·exact Z3b
 refine Z5y ?_
 refine Z8w ?_
 refine Z5y ?_
 refine Z94 ?_
 refine Z5y ?_
 refine Tk.y 4 (v:=?_) rfl ?_ ?_
 rotate_left
 ·exact Z3b
 refine Z5y ?_
 refine Tk.y 5 (v:=?_) rfl ?_ ?_
 rotate_left
 ·exact Z3b
 refine Z5y ?_
 refine Tk.s 6 rfl (fun K hK=>?_)
 go_simp
 go_at_call 65
 refine (zas H W C N HE.out _).mono ?_
 exact Z39
theorem rshape_ok (H W C:Int) (x0 x1 x2 x8 x11 x12 x13 x14 x15 x16 x17 x18:Value) (K S P O Z:Int) (WA BA:Option Addr) (nW cW nB cB:Nat) (h1:zam H W C=true) (h2:zam 1 1 O=true) (hw:(nW:Int)=O * zaz H W C) (hw2:nW≤16384) (hb:(nB:Int)=O) (w:World) :
  Calls Tryz.prog 90 #[.agg #[Jj Jq H,Jj Jq W,Jj Jq C],.agg #[x0,x1,x2,Jj Jq K,Jj Jq S,Jj Jq P,Jj Jq O,.int .i8 Z,x8,.slice WA nW cW,.slice BA nB cB,x11,x12,x13,x14,x15,x16,x17,x18]] w fun e' w'=>e'=.returned (.tuple #[.agg #[Jj Jq 1,Jj Jq 1,Jj Jq O],Jj Jq 0])∧Below w.heap.size w w':=by
 refine Z7e ?_;intro hN0 hN1 hN2 o1 o2 HE2 N hN
 rw [hN] at hN0 hN1 hN2 hw
 refine Z7b ?_;intro q hq hqb hmul
 rw [hq] at hw
 refine Z8h ?_;intro hO0 hO9 hN9
 subst hw
 refine Z8d ?_;intro hw3 hw4 hd1 hd2
 have hbb:((nB:Int) != O)=false:=by simpa using hb
 have HB1:=hid h1
 have HB2:=hid h2
 have HE:=hid hN
 clear h1 h2 hN hq
 go_enter Tryz.func90,Tryz.ntmps90
 go_wp2_with fail
 go_at_call 65
 refine Z63 ?_;intro hal
 refine (zas H W C _ HE.out _).mono ?_
 rintro e w1 ⟨rfl,hb⟩
 refine Z5u ?_;intro hh TS0 yTS0 TN yTN FS yFS TF yTF HBW
 refine Z90 ?_;intro ts0p0 ts0p1 ts0p2 tfp0 tfp1 tfp2
 clear hb hh hal
 go_wp2_with fail
 go_at_call 65
 refine Z72 ?_;intro hal
 refine (zas 1 1 O _ HE2.out _).mono ?_
 rintro e w2 ⟨rfl,hb⟩
 refine Z6g ?_;try clear TS0 yTS0 TN yTN FS yFS TF yTF HBW;intro hh TS0 yTS0 TN yTN FS yFS TF yTF HBW
 clear ts0p0 ts0p1 ts0p2 tfp0 tfp1 tfp2
 refine Z90 ?_;intro ts0p0 ts0p1 ts0p2 tfp0 tfp1 tfp2
 clear hb hh hal
 go_wp2_with fail
 have n6:=TN.out.at 6 _ rfl
 refine Z82 ?_;intro n9 n10
 refine wp_region_held_drew (S:=fun w'=>w'.cell? ⟨w.heap.size,0,none⟩=some (Jj Jq H)∧w'.cell? ⟨w.heap.size,1,none⟩=some (Jj Jq W)∧w'.cell? ⟨w.heap.size,2,none⟩=some (Jj Jq C)∧w'.cell? ⟨w.heap.size+1,6,none⟩=some (Jj Jq O)∧w'.cell? ⟨w.heap.size+1,9,none⟩=some (.slice WA nW cW)∧w'.cell? ⟨w.heap.size+1,10,none⟩=some (.slice BA nB cB)) Zb5 ⟨ts0p0,ts0p1,ts0p2,n6,n9,n10⟩ (fun hHeld=>?_)
 refine Z6t ?_;try clear HBW;intro hFS hTF HBW hsz
 clear FS TF TN TS0 n6 n9 n10 ts0p0 ts0p1 ts0p2 tfp0 tfp1 tfp2 yFS yTF yTN yTS0
 generalize w2.drew=Wd at hFS hTF HBW hsz hHeld ⊢
 refine Z8l ?_
 refine Z5y ?_
 refine Tk.y 1 (v:=?_) rfl ?_ ?_
 rotate_left
 ·exact Z3b
 refine Z5y ?_
 refine Z8w ?_
 refine Z5y ?_
 refine Z94 ?_
 refine Z5y ?_
 refine Tk.y 4 (v:=?_) rfl ?_ ?_
 rotate_left
 ·exact Z3b
 refine Z5y ?_
 refine Tk.y 5 (v:=?_) rfl ?_ ?_
 rotate_left
 ·exact Z3b
 refine Z5y ?_
 refine Tk.s 6 rfl (fun K hK=>?_)
 go_simp
 go_at_call 65
 refine (zas H W C N HE.out _).mono ?_
 exact Z37
theorem rshape_to (H W C:Int) (x0 x1 x2 x8 x11 x12 x13 x14 x15 x16 x17 x18:Value) (K S P O Z:Int) (WA BA:Option Addr) (nW cW nB cB:Nat) (e:Int) (v:Array Value) (he:zc7 H W C O nW nB=e) (hv:denseS H W C O nW nB=v) (w:World) :
  Calls Tryz.prog 90 #[.agg #[Jj Jq H,Jj Jq W,Jj Jq C],.agg #[x0,x1,x2,Jj Jq K,Jj Jq S,Jj Jq P,Jj Jq O,.int .i8 Z,x8,.slice WA nW cW,.slice BA nB cB,x11,x12,x13,x14,x15,x16,x17,x18]] w fun e' w'=>e'=.returned (.tuple #[.agg v,Jj Jq e])∧Below w.heap.size w w':=by
 subst hv
 unfold denseS
 rw [he]
 unfold zc7 at he
 cases h1:zam H W C
 ·rw [if_neg (by simp [h1])] at he
  subst he
  exact rshape5a H W C x0 x1 x2 x8 x11 x12 x13 x14 x15 x16 x17 x18 K S P O Z WA BA nW cW nB cB h1 w
 ·cases h2:zam 1 1 O
  ·rw [if_neg (by simp [h2])] at he
   subst he
   exact rshape5b H W C x0 x1 x2 x8 x11 x12 x13 x14 x15 x16 x17 x18 K S P O Z WA BA nW cW nB cB h1 h2 w
  ·rw [if_pos ⟨h1,h2⟩] at he
   by_cases h3:(nW:Int)=O * zaz H W C∧nW≤16384∧(nB:Int)=O
   ·rw [if_pos h3] at he
    subst he
    exact rshape_ok H W C x0 x1 x2 x8 x11 x12 x13 x14 x15 x16 x17 x18 K S P O Z WA BA nW cW nB cB h1 h2 h3.1 h3.2.1 h3.2.2 w
   ·rw [if_neg h3] at he
    subst he
    rw [if_neg Zbc]
    by_cases h4:(nW:Int)=O * zaz H W C
    ·by_cases h5:nW≤16384
     ·exact rshape_w3 H W C x0 x1 x2 x8 x11 x12 x13 x14 x15 x16 x17 x18 K S P O Z WA BA nW cW nB cB h1 h2 h4 h5 (fun h6=>h3 ⟨h4,h5,h6⟩) w
     ·exact rshape_w2 H W C x0 x1 x2 x8 x11 x12 x13 x14 x15 x16 x17 x18 K S P O Z WA BA nW cW nB cB h1 h2 h4 Zb3 w
    ·exact rshape_w1 H W C x0 x1 x2 x8 x11 x12 x13 x14 x15 x16 x17 x18 K S P O Z WA BA nW cW nB cB h1 h2 h4 w
end CDense
end
end Go.Proofs.YtchpdhhpkljdhaaGreatDoor
