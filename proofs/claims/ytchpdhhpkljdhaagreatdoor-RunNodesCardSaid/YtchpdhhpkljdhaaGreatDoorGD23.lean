/- -/
import Derived.Test.YtchpdhhpkljdhaaGreatDoorGD22
open Go.Value renaming int→Jj
open Go.IntKind renaming i64→Jq
open Go.Lib (hid)
open Nat (le_refl lt_of_succ_lt lt_succ_self)
set_option linter.unusedVariables false
set_option linter.unusedSimpArgs false
set_option maxRecDepth 100000
set_option maxHeartbeats 16000000
namespace Go.Proofs.YtchpdhhpkljdhaaGreatDoor
namespace CConv
end CConv
namespace CSat
end CSat
open Go Go.ChangeShapes Go.WideShapes Go.ChangeAt Go.RowKit
section
namespace CDense
open Plain CSat CShape CTensor CConv
def zbz (B:Nat) (wd:World):Prop :=
 (wd.cell? ⟨B,0,none⟩=some (Jj Jq 0)∧wd.cell? ⟨B,1,none⟩=some (Jj Jq 0)∧wd.cell? ⟨B,2,none⟩=some (Jj Jq 0)) ∧
 wd.frozen? ⟨B,0,none⟩=false∧wd.frozen? ⟨B,1,none⟩=false∧wd.frozen? ⟨B,2,none⟩=false
theorem zbz.new (T:TypeId) (w:World):zbz w.heap.size (w.alloc (.cells #[Jj Jq 0,Jj Jq 0,Jj Jq 0] T)) :=
 ⟨⟨Kit.zan _ _ _ _,Kit.zan _ _ _ _,Kit.zan _ _ _ _⟩,World.frozen?_alloc_at _ _ _ _ rfl,World.frozen?_alloc_at _ _ _ _ rfl,World.frozen?_alloc_at _ _ _ _ rfl⟩
theorem zbz.below {B B':Nat} {w w':World} (h:zbz B w) (hB:B < B') (hb:Below B' w w'):zbz B w':=by
 obtain⟨⟨h1,h2,h3⟩,h5,h6,h7⟩:=h
 exact⟨⟨(hb.cell (p:=⟨B,0,none⟩) hB).trans h1,(hb.cell (p:=⟨B,1,none⟩) hB).trans h2,(hb.cell (p:=⟨B,2,none⟩) hB).trans h3⟩,
  (hb.frozen (p:=⟨B,0,none⟩) hB).trans h5,(hb.frozen (p:=⟨B,1,none⟩) hB).trans h6,(hb.frozen (p:=⟨B,2,none⟩) hB).trans h7⟩
def zc7 (H W C O:Int) (nW nB:Nat):Int :=
 if zam H W C=true∧zam 1 1 O=true then (if (nW:Int)=O * zaz H W C∧nW≤16384∧(nB:Int)=O then 0 else 9) else 5
def denseS (H W C O:Int) (nW nB:Nat):Array Value:=if zc7 H W C O nW nB=0 then #[Jj Jq 1,Jj Jq 1,Jj Jq O] else #[Jj Jq 0,Jj Jq 0,Jj Jq 0]
theorem el_pos (H W C:Int) (h:zam H W C=true):(zaz H W C == 0)=false∧1≤zaz H W C∧zaz H W C≤1024:=by
 obtain⟨a1,a2,a3,a4,a5,a6,a7⟩:=zac h
 have e:=zay h
 have:1≤H * W * C:=by
  have h1:1 * 1≤H * W:=Int.mul_le_mul a1 a3 Zb3 Zb3
  have h2:1 * 1≤H * W * C:=Int.mul_le_mul h1 a5 Zb3 Zb3
  omega
 rw [e]
 refine⟨?_,this,a7⟩
 simp;omega
theorem dshape5a (H W C:Int) (x0 x1 x2 x8 x11 x12 x13 x14 x15 x16 x17 x18:Value) (K S P O Z:Int) (WA BA:Option Addr) (nW cW nB cB:Nat) (h1:zam H W C=false) (w:World) :
  Calls Tryz.prog 84 #[.agg #[Jj Jq H,Jj Jq W,Jj Jq C],.agg #[x0,x1,x2,Jj Jq K,Jj Jq S,Jj Jq P,Jj Jq O,.int .i8 Z,x8,.slice WA nW cW,.slice BA nB cB,x11,x12,x13,x14,x15,x16,x17,x18]] w fun e' w'=>e'=.returned (.tuple #[.agg #[Jj Jq 0,Jj Jq 0,Jj Jq 0],Jj Jq 5])∧Below w.heap.size w w':=by
 have HB1:=hid h1
 clear h1
 go_enter Tryz.func84,Tryz.ntmps84
 go_wp2_with fail
 go_at_call 43
 refine Z63 ?_;intro hal
 refine (CShape.zak H W C false HB1.out _).mono ?_
 exact Z36
theorem dshape5b (H W C:Int) (x0 x1 x2 x8 x11 x12 x13 x14 x15 x16 x17 x18:Value) (K S P O Z:Int) (WA BA:Option Addr) (nW cW nB cB:Nat) (h1:zam H W C=true) (h2:zam 1 1 O=false) (w:World) :
  Calls Tryz.prog 84 #[.agg #[Jj Jq H,Jj Jq W,Jj Jq C],.agg #[x0,x1,x2,Jj Jq K,Jj Jq S,Jj Jq P,Jj Jq O,.int .i8 Z,x8,.slice WA nW cW,.slice BA nB cB,x11,x12,x13,x14,x15,x16,x17,x18]] w fun e' w'=>e'=.returned (.tuple #[.agg #[Jj Jq 0,Jj Jq 0,Jj Jq 0],Jj Jq 5])∧Below w.heap.size w w':=by
 have HB1:=hid h1
 have HB2:=hid h2
 clear h1 h2
 go_enter Tryz.func84,Tryz.ntmps84
 go_wp2_with fail
 go_at_call 43
 refine Z63 ?_;intro hal
 refine (CShape.zak H W C true HB1.out _).mono ?_
 rintro e w1 ⟨rfl,hb⟩
 refine Z5u ?_;intro hh TS0 yTS0 TN yTN FS yFS TF yTF HBW
 refine Z90 ?_;intro ts0p0 ts0p1 ts0p2 tfp0 tfp1 tfp2
 clear hb hh hal
 go_wp2_with fail
 go_at_call 43
 refine Z72 ?_;intro hal
 refine (CShape.zak 1 1 O false HB2.out _).mono ?_
 exact Z3n
theorem dshape_w1 (H W C:Int) (x0 x1 x2 x8 x11 x12 x13 x14 x15 x16 x17 x18:Value) (K S P O Z:Int) (WA BA:Option Addr) (nW cW nB cB:Nat) (h1:zam H W C=true) (h2:zam 1 1 O=true) (hw:(nW:Int)≠O * zaz H W C) (w:World) :
  Calls Tryz.prog 84 #[.agg #[Jj Jq H,Jj Jq W,Jj Jq C],.agg #[x0,x1,x2,Jj Jq K,Jj Jq S,Jj Jq P,Jj Jq O,.int .i8 Z,x8,.slice WA nW cW,.slice BA nB cB,x11,x12,x13,x14,x15,x16,x17,x18]] w fun e' w'=>e'=.returned (.tuple #[.agg #[Jj Jq 0,Jj Jq 0,Jj Jq 0],Jj Jq 9])∧Below w.heap.size w w':=by
 refine Z7e ?_;intro hN0 hN1 hN2 o1 o2 HE2 N hN
 rw [hN] at hN0 hN1 hN2 hw
 refine Z7b ?_;intro q hq hqb hmul
 rw [hq] at hw
 refine Z8h ?_;intro hO0 hO9 hN9
 have hwb:((nW:Int) != q)=true:=by simpa using hw
 have hwd:¬ (nW:Int)=q:=hw
 have HB1:=hid h1
 have HB2:=hid h2
 have HE:=hid hN
 clear h1 h2 hN hq hw
 go_enter Tryz.func84,Tryz.ntmps84
 go_wp2_with fail
 go_at_call 43
 refine Z63 ?_;intro hal
 refine (CShape.zak H W C true HB1.out _).mono ?_
 rintro e w1 ⟨rfl,hb⟩
 refine Z5u ?_;intro hh TS0 yTS0 TN yTN FS yFS TF yTF HBW
 refine Z90 ?_;intro ts0p0 ts0p1 ts0p2 tfp0 tfp1 tfp2
 clear hb hh hal
 go_wp2_with fail
 go_at_call 43
 refine Z72 ?_;intro hal
 refine (CShape.zak 1 1 O true HB2.out _).mono ?_
 rintro e w2 ⟨rfl,hb⟩
 refine Z6g ?_;try clear TS0 yTS0 TN yTN FS yFS TF yTF HBW;intro hh TS0 yTS0 TN yTN FS yFS TF yTF HBW
 clear ts0p0 ts0p1 ts0p2 tfp0 tfp1 tfp2
 refine Z90 ?_;intro ts0p0 ts0p1 ts0p2 tfp0 tfp1 tfp2
 clear hb hh hal
 go_wp2_with fail
 have n6:=TN.out.at 6 _ rfl
 refine Z82 ?_;intro n9 n10
 refine wp_region_held_drew (S:=fun w'=>w'.cell? ⟨w.heap.size,0,none⟩=some (Jj Jq H)∧w'.cell? ⟨w.heap.size,1,none⟩=some (Jj Jq W)∧w'.cell? ⟨w.heap.size,2,none⟩=some (Jj Jq C)∧w'.cell? ⟨w.heap.size+1,6,none⟩=some (Jj Jq O)∧w'.cell? ⟨w.heap.size+1,9,none⟩=some (.slice WA nW cW)∧w'.cell? ⟨w.heap.size+1,10,none⟩=some (.slice BA nB cB)) Zb5 ⟨ts0p0,ts0p1,ts0p2,n6,n9,n10⟩ (fun hHeld=>?_)
 refine Z6t ?_;try clear HBW;intro hFS hTF HBW hsz
 clear FS TF TN TS0 n6 n9 n10 ts0p0 ts0p1 ts0p2 tfp0 tfp1 tfp2 yFS yTF yTN yTS0
 generalize w2.drew=Wd at hFS hTF HBW hsz hHeld ⊢
 refine Z8l ?_
 refine Z5y ?_
 refine Tk.y 1 (v:=?_) rfl ?_ ?_
 rotate_left
 ·exact Z3b
 refine Z5y ?_
 refine Z8w ?_
 refine Z5y ?_
 refine Z94 ?_
 refine Z5y ?_
 refine Tk.y 4 (v:=?_) rfl ?_ ?_
 rotate_left
 ·exact Z3b
 refine Z5y ?_
 refine Tk.y 5 (v:=?_) rfl ?_ ?_
 rotate_left
 ·exact Z3b
 refine Z5y ?_
 refine Tk.s 6 rfl (fun K hK=>?_)
 go_simp
 go_at_call 44
 refine (zb3 H W C N HE.out _).mono ?_
 exact Z3c
theorem dshape_w2 (H W C:Int) (x0 x1 x2 x8 x11 x12 x13 x14 x15 x16 x17 x18:Value) (K S P O Z:Int) (WA BA:Option Addr) (nW cW nB cB:Nat) (h1:zam H W C=true) (h2:zam 1 1 O=true) (hw:(nW:Int)=O * zaz H W C) (hw2:16384 < nW) (w:World) :
  Calls Tryz.prog 84 #[.agg #[Jj Jq H,Jj Jq W,Jj Jq C],.agg #[x0,x1,x2,Jj Jq K,Jj Jq S,Jj Jq P,Jj Jq O,.int .i8 Z,x8,.slice WA nW cW,.slice BA nB cB,x11,x12,x13,x14,x15,x16,x17,x18]] w fun e' w'=>e'=.returned (.tuple #[.agg #[Jj Jq 0,Jj Jq 0,Jj Jq 0],Jj Jq 9])∧Below w.heap.size w w':=by
 refine Z7e ?_;intro hN0 hN1 hN2 o1 o2 HE2 N hN
 rw [hN] at hN0 hN1 hN2 hw
 refine Z7b ?_;intro q hq hqb hmul
 rw [hq] at hw
 refine Z8h ?_;intro hO0 hO9 hN9
 subst hw
 have hw3:(16384:Int) < (nW:Int):=by omega
 have HB1:=hid h1
 have HB2:=hid h2
 have HE:=hid hN
 clear h1 h2 hN hq
 go_enter Tryz.func84,Tryz.ntmps84
 go_wp2_with fail
 go_at_call 43
 refine Z63 ?_;intro hal
 refine (CShape.zak H W C true HB1.out _).mono ?_
 rintro e w1 ⟨rfl,hb⟩
 refine Z5u ?_;intro hh TS0 yTS0 TN yTN FS yFS TF yTF HBW
 refine Z90 ?_;intro ts0p0 ts0p1 ts0p2 tfp0 tfp1 tfp2
 clear hb hh hal
 go_wp2_with fail
 go_at_call 43
 refine Z72 ?_;intro hal
 refine (CShape.zak 1 1 O true HB2.out _).mono ?_
 rintro e w2 ⟨rfl,hb⟩
 refine Z6g ?_;try clear TS0 yTS0 TN yTN FS yFS TF yTF HBW;intro hh TS0 yTS0 TN yTN FS yFS TF yTF HBW
 clear ts0p0 ts0p1 ts0p2 tfp0 tfp1 tfp2
 refine Z90 ?_;intro ts0p0 ts0p1 ts0p2 tfp0 tfp1 tfp2
 clear hb hh hal
 go_wp2_with fail
 have n6:=TN.out.at 6 _ rfl
 refine Z82 ?_;intro n9 n10
 refine wp_region_held_drew (S:=fun w'=>w'.cell? ⟨w.heap.size,0,none⟩=some (Jj Jq H)∧w'.cell? ⟨w.heap.size,1,none⟩=some (Jj Jq W)∧w'.cell? ⟨w.heap.size,2,none⟩=some (Jj Jq C)∧w'.cell? ⟨w.heap.size+1,6,none⟩=some (Jj Jq O)∧w'.cell? ⟨w.heap.size+1,9,none⟩=some (.slice WA nW cW)∧w'.cell? ⟨w.heap.size+1,10,none⟩=some (.slice BA nB cB)) Zb5 ⟨ts0p0,ts0p1,ts0p2,n6,n9,n10⟩ (fun hHeld=>?_)
 refine Z6t ?_;try clear HBW;intro hFS hTF HBW hsz
 clear FS TF TN TS0 n6 n9 n10 ts0p0 ts0p1 ts0p2 tfp0 tfp1 tfp2 yFS yTF yTN yTS0
 generalize w2.drew=Wd at hFS hTF HBW hsz hHeld ⊢
 refine Z8l ?_
 refine Z5y ?_
 refine Tk.y 1 (v:=?_) rfl ?_ ?_
 rotate_left
 ·exact Z3b
 refine Z5y ?_
 refine Z8w ?_
 refine Z5y ?_
 refine Z94 ?_
 refine Z5y ?_
 refine Tk.y 4 (v:=?_) rfl ?_ ?_
 rotate_left
 ·exact Z3b
 refine Z5y ?_
 refine Tk.y 5 (v:=?_) rfl ?_ ?_
 rotate_left
 ·exact Z3b
 refine Z5y ?_
 refine Tk.s 6 rfl (fun K hK=>?_)
 go_simp
 go_at_call 44
 refine (zb3 H W C N HE.out _).mono ?_
 exact Z5j
theorem dshape_w3 (H W C:Int) (x0 x1 x2 x8 x11 x12 x13 x14 x15 x16 x17 x18:Value) (K S P O Z:Int) (WA BA:Option Addr) (nW cW nB cB:Nat) (h1:zam H W C=true) (h2:zam 1 1 O=true) (hw:(nW:Int)=O * zaz H W C) (hw2:nW≤16384) (hb:(nB:Int)≠O) (w:World) :
  Calls Tryz.prog 84 #[.agg #[Jj Jq H,Jj Jq W,Jj Jq C],.agg #[x0,x1,x2,Jj Jq K,Jj Jq S,Jj Jq P,Jj Jq O,.int .i8 Z,x8,.slice WA nW cW,.slice BA nB cB,x11,x12,x13,x14,x15,x16,x17,x18]] w fun e' w'=>e'=.returned (.tuple #[.agg #[Jj Jq 0,Jj Jq 0,Jj Jq 0],Jj Jq 9])∧Below w.heap.size w w':=by
 refine Z7e ?_;intro hN0 hN1 hN2 o1 o2 HE2 N hN
 rw [hN] at hN0 hN1 hN2 hw
 refine Z7b ?_;intro q hq hqb hmul
 rw [hq] at hw
 refine Z8h ?_;intro hO0 hO9 hN9
 subst hw
 refine Z8d ?_;intro hw3 hw4 hd1 hd2
 have hbb:((nB:Int) != O)=true:=by simpa using hb
 have HB1:=hid h1
 have HB2:=hid h2
 have HE:=hid hN
 clear h1 h2 hN hq hb
 go_enter Tryz.func84,Tryz.ntmps84
 go_wp2_with fail
 go_at_call 43
 refine Z63 ?_;intro hal
 refine (CShape.zak H W C true HB1.out _).mono ?_
 rintro e w1 ⟨rfl,hb⟩
 refine Z5u ?_;intro hh TS0 yTS0 TN yTN FS yFS TF yTF HBW
 refine Z90 ?_;intro ts0p0 ts0p1 ts0p2 tfp0 tfp1 tfp2
 clear hb hh hal
 go_wp2_with fail
 go_at_call 43
 refine Z72 ?_;intro hal
 refine (CShape.zak 1 1 O true HB2.out _).mono ?_
 rintro e w2 ⟨rfl,hb⟩
 refine Z6g ?_;try clear TS0 yTS0 TN yTN FS yFS TF yTF HBW;intro hh TS0 yTS0 TN yTN FS yFS TF yTF HBW
 clear ts0p0 ts0p1 ts0p2 tfp0 tfp1 tfp2
 refine Z90 ?_;intro ts0p0 ts0p1 ts0p2 tfp0 tfp1 tfp2
 clear hb hh hal
 go_wp2_with fail
 have n6:=TN.out.at 6 _ rfl
 refine Z82 ?_;intro n9 n10
 refine wp_region_held_drew (S:=fun w'=>w'.cell? ⟨w.heap.size,0,none⟩=some (Jj Jq H)∧w'.cell? ⟨w.heap.size,1,none⟩=some (Jj Jq W)∧w'.cell? ⟨w.heap.size,2,none⟩=some (Jj Jq C)∧w'.cell? ⟨w.heap.size+1,6,none⟩=some (Jj Jq O)∧w'.cell? ⟨w.heap.size+1,9,none⟩=some (.slice WA nW cW)∧w'.cell? ⟨w.heap.size+1,10,none⟩=some (.slice BA nB cB)) Zb5 ⟨ts0p0,ts0p1,ts0p2,n6,n9,n10⟩ (fun hHeld=>?_)
 refine Z6t ?_;try clear HBW;intro hFS hTF HBW hsz
 clear FS TF TN TS0 n6 n9 n10 ts0p0 ts0p1 ts0p2 tfp0 tfp1 tfp2 yFS yTF yTN yTS0
 generalize w2.drew=Wd at hFS hTF HBW hsz hHeld ⊢
 refine Z8l ?_
 refine Z5y ?_
 refine Tk.y 1 (v:=?_) rfl ?_ ?_
 rotate_left
 ·exact Z3b
 refine Z5y ?_
 refine Z8w ?_
 refine Z5y ?_
 refine Z94 ?_
 refine Z5y ?_
 refine Tk.y 4 (v:=?_) rfl ?_ ?_
 rotate_left
 ·exact Z3b
 refine Z5y ?_
 refine Tk.y 5 (v:=?_) rfl ?_ ?_
 rotate_left
 ·exact Z3b
 refine Z5y ?_
 refine Tk.s 6 rfl (fun K hK=>?_)
 go_simp
 go_at_call 44
 refine (zb3 H W C N HE.out _).mono ?_
 exact Z39
theorem dshape_ok (H W C:Int) (x0 x1 x2 x8 x11 x12 x13 x14 x15 x16 x17 x18:Value) (K S P O Z:Int) (WA BA:Option Addr) (nW cW nB cB:Nat) (h1:zam H W C=true) (h2:zam 1 1 O=true) (hw:(nW:Int)=O * zaz H W C) (hw2:nW≤16384) (hb:(nB:Int)=O) (w:World) :
  Calls Tryz.prog 84 #[.agg #[Jj Jq H,Jj Jq W,Jj Jq C],.agg #[x0,x1,x2,Jj Jq K,Jj Jq S,Jj Jq P,Jj Jq O,.int .i8 Z,x8,.slice WA nW cW,.slice BA nB cB,x11,x12,x13,x14,x15,x16,x17,x18]] w fun e' w'=>e'=.returned (.tuple #[.agg #[Jj Jq 1,Jj Jq 1,Jj Jq O],Jj Jq 0])∧Below w.heap.size w w':=by
 refine Z7e ?_;intro hN0 hN1 hN2 o1 o2 HE2 N hN
 rw [hN] at hN0 hN1 hN2 hw
 refine Z7b ?_;intro q hq hqb hmul
 rw [hq] at hw
 refine Z8h ?_;intro hO0 hO9 hN9
 subst hw
 refine Z8d ?_;intro hw3 hw4 hd1 hd2
 have hbb:((nB:Int) != O)=false:=by simpa using hb
 have HB1:=hid h1
 have HB2:=hid h2
 have HE:=hid hN
 clear h1 h2 hN hq
 go_enter Tryz.func84,Tryz.ntmps84
 go_wp2_with fail
 go_at_call 43
 refine Z63 ?_;intro hal
 refine (CShape.zak H W C true HB1.out _).mono ?_
 rintro e w1 ⟨rfl,hb⟩
 refine Z5u ?_;intro hh TS0 yTS0 TN yTN FS yFS TF yTF HBW
 refine Z90 ?_;intro ts0p0 ts0p1 ts0p2 tfp0 tfp1 tfp2
 clear hb hh hal
 go_wp2_with fail
 go_at_call 43
 refine Z72 ?_;intro hal
 refine (CShape.zak 1 1 O true HB2.out _).mono ?_
 rintro e w2 ⟨rfl,hb⟩
 refine Z6g ?_;try clear TS0 yTS0 TN yTN FS yFS TF yTF HBW;intro hh TS0 yTS0 TN yTN FS yFS TF yTF HBW
 clear ts0p0 ts0p1 ts0p2 tfp0 tfp1 tfp2
 refine Z90 ?_;intro ts0p0 ts0p1 ts0p2 tfp0 tfp1 tfp2
 clear hb hh hal
 go_wp2_with fail
 have n6:=TN.out.at 6 _ rfl
 refine Z82 ?_;intro n9 n10
 refine wp_region_held_drew (S:=fun w'=>w'.cell? ⟨w.heap.size,0,none⟩=some (Jj Jq H)∧w'.cell? ⟨w.heap.size,1,none⟩=some (Jj Jq W)∧w'.cell? ⟨w.heap.size,2,none⟩=some (Jj Jq C)∧w'.cell? ⟨w.heap.size+1,6,none⟩=some (Jj Jq O)∧w'.cell? ⟨w.heap.size+1,9,none⟩=some (.slice WA nW cW)∧w'.cell? ⟨w.heap.size+1,10,none⟩=some (.slice BA nB cB)) Zb5 ⟨ts0p0,ts0p1,ts0p2,n6,n9,n10⟩ (fun hHeld=>?_)
 refine Z6t ?_;try clear HBW;intro hFS hTF HBW hsz
 clear FS TF TN TS0 n6 n9 n10 ts0p0 ts0p1 ts0p2 tfp0 tfp1 tfp2 yFS yTF yTN yTS0
 generalize w2.drew=Wd at hFS hTF HBW hsz hHeld ⊢
 refine Z8l ?_
 refine Z5y ?_
 refine Tk.y 1 (v:=?_) rfl ?_ ?_
 rotate_left
 ·exact Z3b
 refine Z5y ?_
 refine Z8w ?_
 refine Z5y ?_
 refine Z94 ?_
 refine Z5y ?_
 refine Tk.y 4 (v:=?_) rfl ?_ ?_
 rotate_left
 ·exact Z3b
 refine Z5y ?_
 refine Tk.y 5 (v:=?_) rfl ?_ ?_
 rotate_left
 ·exact Z3b
 refine Z5y ?_
 refine Tk.s 6 rfl (fun K hK=>?_)
 go_simp
 go_at_call 44
 refine (zb3 H W C N HE.out _).mono ?_
 exact Z37
theorem dshape_to (H W C:Int) (x0 x1 x2 x8 x11 x12 x13 x14 x15 x16 x17 x18:Value) (K S P O Z:Int) (WA BA:Option Addr) (nW cW nB cB:Nat) (e:Int) (v:Array Value) (he:zc7 H W C O nW nB=e) (hv:denseS H W C O nW nB=v) (w:World) :
  Calls Tryz.prog 84 #[.agg #[Jj Jq H,Jj Jq W,Jj Jq C],.agg #[x0,x1,x2,Jj Jq K,Jj Jq S,Jj Jq P,Jj Jq O,.int .i8 Z,x8,.slice WA nW cW,.slice BA nB cB,x11,x12,x13,x14,x15,x16,x17,x18]] w fun e' w'=>e'=.returned (.tuple #[.agg v,Jj Jq e])∧Below w.heap.size w w':=by
 subst hv
 unfold denseS
 rw [he]
 unfold zc7 at he
 cases h1:zam H W C
 ·rw [if_neg (by simp [h1])] at he
  subst he
  exact dshape5a H W C x0 x1 x2 x8 x11 x12 x13 x14 x15 x16 x17 x18 K S P O Z WA BA nW cW nB cB h1 w
 ·cases h2:zam 1 1 O
  ·rw [if_neg (by simp [h2])] at he
   subst he
   exact dshape5b H W C x0 x1 x2 x8 x11 x12 x13 x14 x15 x16 x17 x18 K S P O Z WA BA nW cW nB cB h1 h2 w
  ·rw [if_pos ⟨h1,h2⟩] at he
   by_cases h3:(nW:Int)=O * zaz H W C∧nW≤16384∧(nB:Int)=O
   ·rw [if_pos h3] at he
    subst he
    exact dshape_ok H W C x0 x1 x2 x8 x11 x12 x13 x14 x15 x16 x17 x18 K S P O Z WA BA nW cW nB cB h1 h2 h3.1 h3.2.1 h3.2.2 w
   ·rw [if_neg h3] at he
    subst he
    rw [if_neg Zbc]
    by_cases h4:(nW:Int)=O * zaz H W C
    ·by_cases h5:nW≤16384
     ·exact dshape_w3 H W C x0 x1 x2 x8 x11 x12 x13 x14 x15 x16 x17 x18 K S P O Z WA BA nW cW nB cB h1 h2 h4 h5 (fun h6=>h3 ⟨h4,h5,h6⟩) w
     ·exact dshape_w2 H W C x0 x1 x2 x8 x11 x12 x13 x14 x15 x16 x17 x18 K S P O Z WA BA nW cW nB cB h1 h2 h4 Zb3 w
    ·exact dshape_w1 H W C x0 x1 x2 x8 x11 x12 x13 x14 x15 x16 x17 x18 K S P O Z WA BA nW cW nB cB h1 h2 h4 w
end CDense
end
end Go.Proofs.YtchpdhhpkljdhaaGreatDoor
