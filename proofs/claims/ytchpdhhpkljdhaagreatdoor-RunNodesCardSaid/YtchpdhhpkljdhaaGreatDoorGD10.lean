/- -/
import Derived.Test.YtchpdhhpkljdhaaGreatDoorGD9
open Go.Value renaming int→Jj
open Go.IntKind renaming i64→Jq
open Go.Lib (hid)
open Nat (le_refl lt_of_succ_lt lt_succ_self)
set_option linter.unusedVariables false
set_option linter.unusedSimpArgs false
set_option maxRecDepth 100000
set_option maxHeartbeats 16000000
namespace Go.Proofs.YtchpdhhpkljdhaaGreatDoor
namespace CConv
end CConv
namespace CSat
end CSat
open Go Go.ChangeShapes Go.WideShapes Go.ChangeAt Go.RowKit Go.Deep
section
namespace CKind
open Plain CSat CShape CTensor CConv
theorem own_1 (x:Nd) (hk:x.kd=1) (w:World) :
  Calls Tryz.prog 40 #[.agg x.val] w fun e w'=>e=.returned (.agg (x.ownK 1).val)∧Below w.heap.size w w':=by
 have TN:=hid (NdAt.new x 28 w)
 have HK:=hid hk
 clear hk
 go_enter Tryz.func40,Tryz.ntmps40
 go_upto_region 1 with fail
 refine Z67 ?_;try clear TN;intro HR TN HB HS
 generalize h:(w.alloc (.cells x.val 28)).alloc (.cells Nd.zero.val 28)=W0 at TN HR HB HS
 rw [show (w.alloc (Obj.cells x.val 28)).alloc (Obj.cells #[Jj Jq 0,Jj Jq 0,Jj Jq 0,Jj Jq 0,Jj Jq 0,Jj Jq 0,Jj Jq 0,.int .i8 0,.int .i8 0,.slice none 0 0,.slice none 0 0,.int .i32 0,Jj Jq 0,.int .i8 0,.int .i32 0,Jj Jq 0,.int .i8 0,.int .i8 0,.int .i8 0] 28)=W0 from h]
 clear h
 have q0:W0.cell? ⟨w.heap.size,0,none⟩=some (Jj Jq 1):=TN.out.at 0 _ Zb8
 have q1:=TN.out.at 1 (Jj Jq x.na) rfl
 go_upto_region 2 with (refine zbq rfl (.tmp 3) (.tmp 8) rfl _ Nd.zero ⟨1,x.na,0,0,0,0,0,0,0,none,0,0,none,0,0,0,0,0,0,0,0,0,0⟩ rfl rfl (NdBox.new Nd.zero _ _) ?_;rintro W1 hp hb1 hs1)
 refine Z6f ?_;try clear TN HR HB;intro TN HR HB HP HL
 clear hp hb1 hs1 HS q0 q1
 generalize W0.heap.size=b at *
 clear W0
 have q0:W1.cell? ⟨w.heap.size,0,none⟩=some (Jj Jq 1):=TN.out.at 0 _ Zb8
 have q6:=TN.out.at 6 (Jj Jq x.O) rfl
 have c6:=HP.out.1.at 6 _ rfl
 have f6:=HP.out.fr 6 Zbc
 go_upto_region 10 with fail
 clear q0 q6 c6 f6
 have hb:=((Below.refl b W1).setCell (p:=⟨b,6,none⟩) (le_refl _) (Jj Jq x.O))
 replace HP:=hid (NdBox.set (y:=⟨1,x.na,0,0,0,0,x.O,0,0,none,0,0,none,0,0,0,0,0,0,0,0,0,0⟩) HP.out 6 (Jj Jq x.O) Zbc rfl)
 refine Z9z ?_;try clear TN;intro TN
 refine Z65 ?_;try clear HR HB;intro HR HB
 clear hb
 generalize (W1).setCell ⟨b,6,none⟩ (Jj Jq x.O)=V1 at *
 have hb:=(Below.refl b V1).drew
 replace HP:=hid (HP.out.below (lt_succ_self b) (Below.refl (b+1) V1).drew)
 refine Z65 ?_;try clear HR HB;intro HR HB
 refine wp_region_held_drew (S:=NdAt w.heap.size x) Zb5 (TN.out.below (lt_of_succ_lt HL.out) hb) (fun hHeld=>?_)
 clear hb TN
 generalize V1.drew=V2 at *
 refine Z8l ?_
 refine Z5y ?_
 refine Tk.y 1 (v:=(.slice x.WA x.nW x.cW)) rfl ?_ ?_
 ·exact Z5a
 refine Z5y ?_
 refine Z8w ?_
 refine Z5y ?_
 refine Tk.y 3 (v:=(.slice x.BA x.nB x.cB)) rfl ?_ ?_
 ·exact Z59
 refine Z5y ?_
 refine Z9b ?_
 refine Z5y ?_
 refine Tk.s 5 rfl (fun Kq hK=>?_)
 have c9:=HP.out.1.at 9 _ rfl
 have f9:=HP.out.fr 9 Zbc
 go_simp
 clear c9 f9
 have hS2:=hHeld.below (lt_of_succ_lt HL.out) ((Below.refl b V2).setCell (p:=⟨b,9,none⟩) (le_refl _) (.slice x.WA x.nW x.cW))
 clear hHeld
 have hb:=((Below.refl b V2).setCell (p:=⟨b,9,none⟩) (le_refl _) (.slice x.WA x.nW x.cW))
 replace HP:=hid (NdBox.set (y:=⟨1,x.na,0,0,0,0,x.O,0,0,x.WA,x.nW,x.cW,none,0,0,0,0,0,0,0,0,0,0⟩) HP.out 9 (.slice x.WA x.nW x.cW) Zbc rfl)
 refine Z65 ?_;try clear HR HB;intro HR HB
 clear hb
 generalize (V2).setCell ⟨b,9,none⟩ (.slice x.WA x.nW x.cW)=V3 at *
 refine Z8a ?_;intro hHeld
 clear hK Kq hS2
 refine Z5y ?_
 refine Z9e ?_
 refine Z5y ?_
 refine Tk.s 7 rfl (fun Kq hK=>?_)
 have c10:=HP.out.1.at 10 _ rfl
 have f10:=HP.out.fr 10 Zbc
 go_simp
 clear c10 f10
 have hS2:=hHeld.below (lt_of_succ_lt HL.out) ((Below.refl b V3).setCell (p:=⟨b,10,none⟩) (le_refl _) (.slice x.BA x.nB x.cB))
 clear hHeld
 have hb:=((Below.refl b V3).setCell (p:=⟨b,10,none⟩) (le_refl _) (.slice x.BA x.nB x.cB))
 replace HP:=hid (NdBox.set (y:=⟨1,x.na,0,0,0,0,x.O,0,0,x.WA,x.nW,x.cW,x.BA,x.nB,x.cB,0,0,0,0,0,0,0,0⟩) HP.out 10 (.slice x.BA x.nB x.cB) Zbc rfl)
 refine Z65 ?_;try clear HR HB;intro HR HB
 clear hb
 generalize (V3).setCell ⟨b,10,none⟩ (.slice x.BA x.nB x.cB)=V4 at *
 refine Z8a ?_;intro hHeld
 clear hK Kq hS2
 refine Z5y ?_
 refine Z6y ?_
 have TN:=hid hHeld
 clear hHeld
 have q0:V4.cell? ⟨w.heap.size,0,none⟩=some (Jj Jq 1):=TN.out.at 0 _ Zb8
 go_upto_region 11 with fail
 clear q0
 have hb:=(Below.refl b V4).drew
 replace HP:=hid (HP.out.below (lt_succ_self b) (Below.refl (b+1) V4).drew)
 refine Z65 ?_;try clear HR HB;intro HR HB
 refine wp_region_held_drew (S:=NdAt w.heap.size x) Zb5 (TN.out.below (lt_of_succ_lt HL.out) hb) (fun hHeld=>?_)
 clear hb TN
 generalize V4.drew=V5 at *
 refine Z8l ?_
 refine Z5y ?_
 refine Tk.y 1 (v:=.agg #[.int .i32 x.m1,Jj Jq x.s1,.int .i8 x.z1]) rfl ?_ ?_
 ·exact Z3r
 refine Z5y ?_
 refine Z8w ?_
 refine Z5y ?_
 refine Tk.y 3 (v:=(.int .i8 x.lo)) rfl ?_ ?_
 ·exact Z4r
 refine Z5y ?_
 refine Z9b ?_
 refine Z5y ?_
 refine Tk.y 5 (v:=(.int .i8 x.hi)) rfl ?_ ?_
 ·exact Z4s
 refine Z5y ?_
 refine Z9e ?_
 refine Z5y ?_
 refine Z7s ?_;intro Kq hK c11 f11 c12 f12 c13 f13
 go_simp
 clear c11 f11 c12 f12 c13 f13
 have hS2:=hHeld.below (lt_of_succ_lt HL.out) ((((Below.refl b V5).setCell (p:=⟨b,11,none⟩) (le_refl _) (.int .i32 x.m1)).setCell (p:=⟨b,12,none⟩) (le_refl _) (Jj Jq x.s1)).setCell (p:=⟨b,13,none⟩) (le_refl _) (.int .i8 x.z1))
 clear hHeld
 have hb:=((((Below.refl b V5).setCell (p:=⟨b,11,none⟩) (le_refl _) (.int .i32 x.m1)).setCell (p:=⟨b,12,none⟩) (le_refl _) (Jj Jq x.s1)).setCell (p:=⟨b,13,none⟩) (le_refl _) (.int .i8 x.z1))
 replace HP:=hid (NdBox.set (y:=⟨1,x.na,0,0,0,0,x.O,0,0,x.WA,x.nW,x.cW,x.BA,x.nB,x.cB,x.m1,x.s1,x.z1,0,0,0,0,0⟩) (NdBox.set (y:=⟨1,x.na,0,0,0,0,x.O,0,0,x.WA,x.nW,x.cW,x.BA,x.nB,x.cB,x.m1,x.s1,0,0,0,0,0,0⟩) (NdBox.set (y:=⟨1,x.na,0,0,0,0,x.O,0,0,x.WA,x.nW,x.cW,x.BA,x.nB,x.cB,x.m1,0,0,0,0,0,0,0⟩) HP.out 11 (.int .i32 x.m1) Zbc rfl) 12 (Jj Jq x.s1) Zbc rfl) 13 (.int .i8 x.z1) Zbc rfl)
 refine Z65 ?_;try clear HR HB;intro HR HB
 clear hb
 generalize (((V5).setCell ⟨b,11,none⟩ (.int .i32 x.m1)).setCell ⟨b,12,none⟩ (Jj Jq x.s1)).setCell ⟨b,13,none⟩ (.int .i8 x.z1)=V6 at *
 refine Z8a ?_;intro hHeld
 clear hK Kq hS2
 refine Z5y ?_
 refine Z9f ?_
 refine Z5y ?_
 refine Z9s ?_;intro Kq hK c17 f17
 go_simp
 clear c17 f17
 have hS2:=hHeld.below (lt_of_succ_lt HL.out) ((Below.refl b V6).setCell (p:=⟨b,17,none⟩) (le_refl _) (.int .i8 x.lo))
 clear hHeld
 have hb:=((Below.refl b V6).setCell (p:=⟨b,17,none⟩) (le_refl _) (.int .i8 x.lo))
 replace HP:=hid (NdBox.set (y:=⟨1,x.na,0,0,0,0,x.O,0,0,x.WA,x.nW,x.cW,x.BA,x.nB,x.cB,x.m1,x.s1,x.z1,0,0,0,x.lo,0⟩) HP.out 17 (.int .i8 x.lo) Zbc rfl)
 refine Z65 ?_;try clear HR HB;intro HR HB
 clear hb
 generalize (V6).setCell ⟨b,17,none⟩ (.int .i8 x.lo)=V7 at *
 refine Z8a ?_;intro hHeld
 clear hK Kq hS2
 refine Z5y ?_
 refine Z9o ?_
 refine Z5y ?_
 refine Z9q ?_;intro Kq hK c18 f18
 go_simp
 clear c18 f18
 have hS2:=hHeld.below (lt_of_succ_lt HL.out) ((Below.refl b V7).setCell (p:=⟨b,18,none⟩) (le_refl _) (.int .i8 x.hi))
 clear hHeld
 have hb:=((Below.refl b V7).setCell (p:=⟨b,18,none⟩) (le_refl _) (.int .i8 x.hi))
 replace HP:=hid (NdBox.set (y:=⟨1,x.na,0,0,0,0,x.O,0,0,x.WA,x.nW,x.cW,x.BA,x.nB,x.cB,x.m1,x.s1,x.z1,0,0,0,x.lo,x.hi⟩) HP.out 18 (.int .i8 x.hi) Zbc rfl)
 refine Z65 ?_;try clear HR HB;intro HR HB
 clear hb
 generalize (V7).setCell ⟨b,18,none⟩ (.int .i8 x.hi)=V8 at *
 refine Z8a ?_;intro hHeld
 clear hK Kq hS2
 refine Z5y ?_
 refine Z6y ?_
 have TN:=hid hHeld
 clear hHeld
 have q0:V8.cell? ⟨w.heap.size,0,none⟩=some (Jj Jq 1):=TN.out.at 0 _ Zb8
 refine Z8t ?_;intro q7 c7 f7
 go_upto_region 22 with fail
 clear q0 q7 c7 f7
 have hb:=((Below.refl b V8).setCell (p:=⟨b,7,none⟩) (le_refl _) (.int .i8 x.Z))
 replace HP:=hid (NdBox.set (y:=⟨1,x.na,0,0,0,0,x.O,x.Z,0,x.WA,x.nW,x.cW,x.BA,x.nB,x.cB,x.m1,x.s1,x.z1,0,0,0,x.lo,x.hi⟩) HP.out 7 (.int .i8 x.Z) Zbc rfl)
 refine Z9z ?_;try clear TN;intro TN
 refine Z65 ?_;try clear HR HB;intro HR HB
 clear hb
 generalize (V8).setCell ⟨b,7,none⟩ (.int .i8 x.Z)=V9 at *
 have hb:=(Below.refl b V9).drew
 replace HP:=hid (HP.out.below (lt_succ_self b) (Below.refl (b+1) V9).drew)
 refine Z65 ?_;try clear HR HB;intro HR HB
 refine wp_region_held_drew (S:=NdAt w.heap.size x) Zb5 (TN.out.below (lt_of_succ_lt HL.out) hb) (fun hHeld=>?_)
 clear hb TN
 generalize V9.drew=V10 at *
 refine Z8l ?_
 refine Z5y ?_
 refine Tk.y 1 (v:=(Jj Jq x.K)) rfl ?_ ?_
 ·exact Z53
 refine Z5y ?_
 refine Z8w ?_
 refine Z5y ?_
 refine Tk.y 3 (v:=(Jj Jq x.S)) rfl ?_ ?_
 ·exact Z54
 refine Z5y ?_
 refine Z9b ?_
 refine Z5y ?_
 refine Tk.s 5 rfl (fun Kq hK=>?_)
 have c3:=HP.out.1.at 3 _ rfl
 have f3:=HP.out.fr 3 Zbc
 go_simp
 clear c3 f3
 have hS2:=hHeld.below (lt_of_succ_lt HL.out) ((Below.refl b V10).setCell (p:=⟨b,3,none⟩) (le_refl _) (Jj Jq x.K))
 clear hHeld
 have hb:=((Below.refl b V10).setCell (p:=⟨b,3,none⟩) (le_refl _) (Jj Jq x.K))
 replace HP:=hid (NdBox.set (y:=⟨1,x.na,0,x.K,0,0,x.O,x.Z,0,x.WA,x.nW,x.cW,x.BA,x.nB,x.cB,x.m1,x.s1,x.z1,0,0,0,x.lo,x.hi⟩) HP.out 3 (Jj Jq x.K) Zbc rfl)
 refine Z65 ?_;try clear HR HB;intro HR HB
 clear hb
 generalize (V10).setCell ⟨b,3,none⟩ (Jj Jq x.K)=V11 at *
 refine Z8a ?_;intro hHeld
 clear hK Kq hS2
 refine Z5y ?_
 refine Z9e ?_
 refine Z5y ?_
 refine Tk.s 7 rfl (fun Kq hK=>?_)
 have c4:=HP.out.1.at 4 _ rfl
 have f4:=HP.out.fr 4 Zbc
 go_simp
 clear c4 f4
 have hS2:=hHeld.below (lt_of_succ_lt HL.out) ((Below.refl b V11).setCell (p:=⟨b,4,none⟩) (le_refl _) (Jj Jq x.S))
 clear hHeld
 have hb:=((Below.refl b V11).setCell (p:=⟨b,4,none⟩) (le_refl _) (Jj Jq x.S))
 replace HP:=hid (NdBox.set (y:=⟨1,x.na,0,x.K,x.S,0,x.O,x.Z,0,x.WA,x.nW,x.cW,x.BA,x.nB,x.cB,x.m1,x.s1,x.z1,0,0,0,x.lo,x.hi⟩) HP.out 4 (Jj Jq x.S) Zbc rfl)
 refine Z65 ?_;try clear HR HB;intro HR HB
 clear hb
 generalize (V11).setCell ⟨b,4,none⟩ (Jj Jq x.S)=V12 at *
 refine Z8a ?_;intro hHeld
 clear hK Kq hS2
 refine Z5y ?_
 refine Z6y ?_
 have TN:=hid hHeld
 clear hHeld
 have q0:V12.cell? ⟨w.heap.size,0,none⟩=some (Jj Jq 1):=TN.out.at 0 _ Zb8
 refine Z9c ?_;intro q5 c5 f5
 go_upto_region 24 with fail
 clear q0 q5 c5 f5
 have hb:=((Below.refl b V12).setCell (p:=⟨b,5,none⟩) (le_refl _) (Jj Jq x.P))
 replace HP:=hid (NdBox.set (y:=⟨1,x.na,0,x.K,x.S,x.P,x.O,x.Z,0,x.WA,x.nW,x.cW,x.BA,x.nB,x.cB,x.m1,x.s1,x.z1,0,0,0,x.lo,x.hi⟩) HP.out 5 (Jj Jq x.P) Zbc rfl)
 refine Z9z ?_;try clear TN;intro TN
 refine Z65 ?_;try clear HR HB;intro HR HB
 clear hb
 generalize (V12).setCell ⟨b,5,none⟩ (Jj Jq x.P)=V13 at *
 go_wp2_with (first | (refine za4 rfl (.tmp 3) rfl b ⟨1,x.na,0,x.K,x.S,x.P,x.O,x.Z,0,x.WA,x.nW,x.cW,x.BA,x.nB,x.cB,x.m1,x.s1,x.z1,0,0,0,x.lo,x.hi⟩ rfl HP.out.1 ?_) | (refine zbq rfl (.tmp 2) (.tmp 78) rfl (w.heap.size+1) Nd.zero ⟨1,x.na,0,x.K,x.S,x.P,x.O,x.Z,0,x.WA,x.nW,x.cW,x.BA,x.nB,x.cB,x.m1,x.s1,x.z1,0,0,0,x.lo,x.hi⟩ rfl rfl HR.out ?_;rintro W2 hp hb1 hs1))
 refine bodyPost_ret (zcf rfl _ _ (w.heap.size+1) ⟨1,x.na,0,x.K,x.S,x.P,x.O,x.Z,0,x.WA,x.nW,x.cW,x.BA,x.nB,x.cB,x.m1,x.s1,x.z1,0,0,0,x.lo,x.hi⟩ rfl hp.1) rfl ?_
 exact Z1o
theorem own_4 (x:Nd) (hk:x.kd=4) (w:World) :
  Calls Tryz.prog 40 #[.agg x.val] w fun e w'=>e=.returned (.agg (x.ownK 4).val)∧Below w.heap.size w w':=by
 have TN:=hid (NdAt.new x 28 w)
 have HK:=hid hk
 clear hk
 go_enter Tryz.func40,Tryz.ntmps40
 go_upto_region 1 with fail
 refine Z67 ?_;try clear TN;intro HR TN HB HS
 generalize h:(w.alloc (.cells x.val 28)).alloc (.cells Nd.zero.val 28)=W0 at TN HR HB HS
 rw [show (w.alloc (Obj.cells x.val 28)).alloc (Obj.cells #[Jj Jq 0,Jj Jq 0,Jj Jq 0,Jj Jq 0,Jj Jq 0,Jj Jq 0,Jj Jq 0,.int .i8 0,.int .i8 0,.slice none 0 0,.slice none 0 0,.int .i32 0,Jj Jq 0,.int .i8 0,.int .i32 0,Jj Jq 0,.int .i8 0,.int .i8 0,.int .i8 0] 28)=W0 from h]
 clear h
 have q0:W0.cell? ⟨w.heap.size,0,none⟩=some (Jj Jq 4):=TN.out.at 0 _ Zb8
 have q1:=TN.out.at 1 (Jj Jq x.na) rfl
 go_upto_region 2 with (refine zbq rfl (.tmp 3) (.tmp 8) rfl _ Nd.zero ⟨4,x.na,0,0,0,0,0,0,0,none,0,0,none,0,0,0,0,0,0,0,0,0,0⟩ rfl rfl (NdBox.new Nd.zero _ _) ?_;rintro W1 hp hb1 hs1)
 refine Z6f ?_;try clear TN HR HB;intro TN HR HB HP HL
 clear hp hb1 hs1 HS q0 q1
 generalize W0.heap.size=b at *
 clear W0
 have q0:W1.cell? ⟨w.heap.size,0,none⟩=some (Jj Jq 4):=TN.out.at 0 _ Zb8
 go_upto_region 22 with fail
 clear q0
 refine Z9i ?_;try clear HP;intro hb HP
 refine Z65 ?_;try clear HR HB;intro HR HB
 refine wp_region_held_drew (S:=NdAt w.heap.size x) Zb5 (TN.out.below (lt_of_succ_lt HL.out) hb) (fun hHeld=>?_)
 clear hb TN
 generalize W1.drew=V14 at *
 refine Z8l ?_
 refine Z5y ?_
 refine Tk.y 1 (v:=(Jj Jq x.K)) rfl ?_ ?_
 ·exact Z53
 refine Z5y ?_
 refine Z8w ?_
 refine Z5y ?_
 refine Tk.y 3 (v:=(Jj Jq x.S)) rfl ?_ ?_
 ·exact Z54
 refine Z5y ?_
 refine Z9b ?_
 refine Z5y ?_
 refine Tk.s 5 rfl (fun Kq hK=>?_)
 have c3:=HP.out.1.at 3 _ rfl
 have f3:=HP.out.fr 3 Zbc
 go_simp
 clear c3 f3
 have hS2:=hHeld.below (lt_of_succ_lt HL.out) ((Below.refl b V14).setCell (p:=⟨b,3,none⟩) (le_refl _) (Jj Jq x.K))
 clear hHeld
 have hb:=((Below.refl b V14).setCell (p:=⟨b,3,none⟩) (le_refl _) (Jj Jq x.K))
 replace HP:=hid (NdBox.set (y:=⟨4,x.na,0,x.K,0,0,0,0,0,none,0,0,none,0,0,0,0,0,0,0,0,0,0⟩) HP.out 3 (Jj Jq x.K) Zbc rfl)
 refine Z65 ?_;try clear HR HB;intro HR HB
 clear hb
 generalize (V14).setCell ⟨b,3,none⟩ (Jj Jq x.K)=V15 at *
 refine Z8a ?_;intro hHeld
 clear hK Kq hS2
 refine Z5y ?_
 refine Z9e ?_
 refine Z5y ?_
 refine Tk.s 7 rfl (fun Kq hK=>?_)
 have c4:=HP.out.1.at 4 _ rfl
 have f4:=HP.out.fr 4 Zbc
 go_simp
 clear c4 f4
 have hS2:=hHeld.below (lt_of_succ_lt HL.out) ((Below.refl b V15).setCell (p:=⟨b,4,none⟩) (le_refl _) (Jj Jq x.S))
 clear hHeld
 have hb:=((Below.refl b V15).setCell (p:=⟨b,4,none⟩) (le_refl _) (Jj Jq x.S))
 replace HP:=hid (NdBox.set (y:=⟨4,x.na,0,x.K,x.S,0,0,0,0,none,0,0,none,0,0,0,0,0,0,0,0,0,0⟩) HP.out 4 (Jj Jq x.S) Zbc rfl)
 refine Z65 ?_;try clear HR HB;intro HR HB
 clear hb
 generalize (V15).setCell ⟨b,4,none⟩ (Jj Jq x.S)=V16 at *
 refine Z8a ?_;intro hHeld
 clear hK Kq hS2
 refine Z5y ?_
 refine Z6y ?_
 have TN:=hid hHeld
 clear hHeld
 have q0:V16.cell? ⟨w.heap.size,0,none⟩=some (Jj Jq 4):=TN.out.at 0 _ Zb8
 refine Z9c ?_;intro q5 c5 f5
 go_upto_region 24 with fail
 clear q0 q5 c5 f5
 have hb:=((Below.refl b V16).setCell (p:=⟨b,5,none⟩) (le_refl _) (Jj Jq x.P))
 replace HP:=hid (NdBox.set (y:=⟨4,x.na,0,x.K,x.S,x.P,0,0,0,none,0,0,none,0,0,0,0,0,0,0,0,0,0⟩) HP.out 5 (Jj Jq x.P) Zbc rfl)
 refine Z9z ?_;try clear TN;intro TN
 refine Z65 ?_;try clear HR HB;intro HR HB
 clear hb
 generalize (V16).setCell ⟨b,5,none⟩ (Jj Jq x.P)=V17 at *
 go_wp2_with (first | (refine za4 rfl (.tmp 3) rfl b ⟨4,x.na,0,x.K,x.S,x.P,0,0,0,none,0,0,none,0,0,0,0,0,0,0,0,0,0⟩ rfl HP.out.1 ?_) | (refine zbq rfl (.tmp 2) (.tmp 78) rfl (w.heap.size+1) Nd.zero ⟨4,x.na,0,x.K,x.S,x.P,0,0,0,none,0,0,none,0,0,0,0,0,0,0,0,0,0⟩ rfl rfl HR.out ?_;rintro W2 hp hb1 hs1))
 refine bodyPost_ret (zcf rfl _ _ (w.heap.size+1) ⟨4,x.na,0,x.K,x.S,x.P,0,0,0,none,0,0,none,0,0,0,0,0,0,0,0,0,0⟩ rfl hp.1) rfl ?_
 exact Z1o
theorem own_6 (x:Nd) (hk:x.kd=6) (w:World) :
  Calls Tryz.prog 40 #[.agg x.val] w fun e w'=>e=.returned (.agg (x.ownK 6).val)∧Below w.heap.size w w':=by
 have TN:=hid (NdAt.new x 28 w)
 have HK:=hid hk
 clear hk
 go_enter Tryz.func40,Tryz.ntmps40
 go_upto_region 1 with fail
 refine Z67 ?_;try clear TN;intro HR TN HB HS
 generalize h:(w.alloc (.cells x.val 28)).alloc (.cells Nd.zero.val 28)=W0 at TN HR HB HS
 rw [show (w.alloc (Obj.cells x.val 28)).alloc (Obj.cells #[Jj Jq 0,Jj Jq 0,Jj Jq 0,Jj Jq 0,Jj Jq 0,Jj Jq 0,Jj Jq 0,.int .i8 0,.int .i8 0,.slice none 0 0,.slice none 0 0,.int .i32 0,Jj Jq 0,.int .i8 0,.int .i32 0,Jj Jq 0,.int .i8 0,.int .i8 0,.int .i8 0] 28)=W0 from h]
 clear h
 have q0:W0.cell? ⟨w.heap.size,0,none⟩=some (Jj Jq 6):=TN.out.at 0 _ Zb8
 have q1:=TN.out.at 1 (Jj Jq x.na) rfl
 go_upto_region 2 with (refine zbq rfl (.tmp 3) (.tmp 8) rfl _ Nd.zero ⟨6,x.na,0,0,0,0,0,0,0,none,0,0,none,0,0,0,0,0,0,0,0,0,0⟩ rfl rfl (NdBox.new Nd.zero _ _) ?_;rintro W1 hp hb1 hs1)
 refine Z6f ?_;try clear TN HR HB;intro TN HR HB HP HL
 clear hp hb1 hs1 HS q0 q1
 generalize W0.heap.size=b at *
 clear W0
 have q0:W1.cell? ⟨w.heap.size,0,none⟩=some (Jj Jq 6):=TN.out.at 0 _ Zb8
 go_upto_region 11 with fail
 clear q0
 refine Z9i ?_;try clear HP;intro hb HP
 refine Z65 ?_;try clear HR HB;intro HR HB
 refine wp_region_held_drew (S:=NdAt w.heap.size x) Zb5 (TN.out.below (lt_of_succ_lt HL.out) hb) (fun hHeld=>?_)
 clear hb TN
 generalize W1.drew=V18 at *
 refine Z8l ?_
 refine Z5y ?_
 refine Tk.y 1 (v:=.agg #[.int .i32 x.m1,Jj Jq x.s1,.int .i8 x.z1]) rfl ?_ ?_
 ·exact Z3r
 refine Z5y ?_
 refine Z8w ?_
 refine Z5y ?_
 refine Tk.y 3 (v:=(.int .i8 x.lo)) rfl ?_ ?_
 ·exact Z4r
 refine Z5y ?_
 refine Z9b ?_
 refine Z5y ?_
 refine Tk.y 5 (v:=(.int .i8 x.hi)) rfl ?_ ?_
 ·exact Z4s
 refine Z5y ?_
 refine Z9e ?_
 refine Z5y ?_
 refine Z7s ?_;intro Kq hK c11 f11 c12 f12 c13 f13
 go_simp
 clear c11 f11 c12 f12 c13 f13
 have hS2:=hHeld.below (lt_of_succ_lt HL.out) ((((Below.refl b V18).setCell (p:=⟨b,11,none⟩) (le_refl _) (.int .i32 x.m1)).setCell (p:=⟨b,12,none⟩) (le_refl _) (Jj Jq x.s1)).setCell (p:=⟨b,13,none⟩) (le_refl _) (.int .i8 x.z1))
 clear hHeld
 have hb:=((((Below.refl b V18).setCell (p:=⟨b,11,none⟩) (le_refl _) (.int .i32 x.m1)).setCell (p:=⟨b,12,none⟩) (le_refl _) (Jj Jq x.s1)).setCell (p:=⟨b,13,none⟩) (le_refl _) (.int .i8 x.z1))
 replace HP:=hid (NdBox.set (y:=⟨6,x.na,0,0,0,0,0,0,0,none,0,0,none,0,0,x.m1,x.s1,x.z1,0,0,0,0,0⟩) (NdBox.set (y:=⟨6,x.na,0,0,0,0,0,0,0,none,0,0,none,0,0,x.m1,x.s1,0,0,0,0,0,0⟩) (NdBox.set (y:=⟨6,x.na,0,0,0,0,0,0,0,none,0,0,none,0,0,x.m1,0,0,0,0,0,0,0⟩) HP.out 11 (.int .i32 x.m1) Zbc rfl) 12 (Jj Jq x.s1) Zbc rfl) 13 (.int .i8 x.z1) Zbc rfl)
 refine Z65 ?_;try clear HR HB;intro HR HB
 clear hb
 generalize (((V18).setCell ⟨b,11,none⟩ (.int .i32 x.m1)).setCell ⟨b,12,none⟩ (Jj Jq x.s1)).setCell ⟨b,13,none⟩ (.int .i8 x.z1)=V19 at *
 refine Z8a ?_;intro hHeld
 clear hK Kq hS2
 refine Z5y ?_
 refine Z9f ?_
 refine Z5y ?_
 refine Z9s ?_;intro Kq hK c17 f17
 go_simp
 clear c17 f17
 have hS2:=hHeld.below (lt_of_succ_lt HL.out) ((Below.refl b V19).setCell (p:=⟨b,17,none⟩) (le_refl _) (.int .i8 x.lo))
 clear hHeld
 have hb:=((Below.refl b V19).setCell (p:=⟨b,17,none⟩) (le_refl _) (.int .i8 x.lo))
 replace HP:=hid (NdBox.set (y:=⟨6,x.na,0,0,0,0,0,0,0,none,0,0,none,0,0,x.m1,x.s1,x.z1,0,0,0,x.lo,0⟩) HP.out 17 (.int .i8 x.lo) Zbc rfl)
 refine Z65 ?_;try clear HR HB;intro HR HB
 clear hb
 generalize (V19).setCell ⟨b,17,none⟩ (.int .i8 x.lo)=V20 at *
 refine Z8a ?_;intro hHeld
 clear hK Kq hS2
 refine Z5y ?_
 refine Z9o ?_
 refine Z5y ?_
 refine Z9q ?_;intro Kq hK c18 f18
 go_simp
 clear c18 f18
 have hS2:=hHeld.below (lt_of_succ_lt HL.out) ((Below.refl b V20).setCell (p:=⟨b,18,none⟩) (le_refl _) (.int .i8 x.hi))
 clear hHeld
 have hb:=((Below.refl b V20).setCell (p:=⟨b,18,none⟩) (le_refl _) (.int .i8 x.hi))
 replace HP:=hid (NdBox.set (y:=⟨6,x.na,0,0,0,0,0,0,0,none,0,0,none,0,0,x.m1,x.s1,x.z1,0,0,0,x.lo,x.hi⟩) HP.out 18 (.int .i8 x.hi) Zbc rfl)
 refine Z65 ?_;try clear HR HB;intro HR HB
 clear hb
 generalize (V20).setCell ⟨b,18,none⟩ (.int .i8 x.hi)=V21 at *
 refine Z8a ?_;intro hHeld
 clear hK Kq hS2
 refine Z5y ?_
 refine Z6y ?_
 have TN:=hid hHeld
 clear hHeld
 have q0:V21.cell? ⟨w.heap.size,0,none⟩=some (Jj Jq 6):=TN.out.at 0 _ Zb8
 refine Z8t ?_;intro q7 c7 f7
 go_upto_region 20 with fail
 clear q0 q7 c7 f7
 have hb:=((Below.refl b V21).setCell (p:=⟨b,7,none⟩) (le_refl _) (.int .i8 x.Z))
 replace HP:=hid (NdBox.set (y:=⟨6,x.na,0,0,0,0,0,x.Z,0,none,0,0,none,0,0,x.m1,x.s1,x.z1,0,0,0,x.lo,x.hi⟩) HP.out 7 (.int .i8 x.Z) Zbc rfl)
 refine Z9z ?_;try clear TN;intro TN
 refine Z65 ?_;try clear HR HB;intro HR HB
 clear hb
 generalize (V21).setCell ⟨b,7,none⟩ (.int .i8 x.Z)=V22 at *
 have hb:=(Below.refl b V22).drew
 replace HP:=hid (HP.out.below (lt_succ_self b) (Below.refl (b+1) V22).drew)
 refine Z65 ?_;try clear HR HB;intro HR HB
 refine wp_region_held_drew (S:=NdAt w.heap.size x) Zb5 (TN.out.below (lt_of_succ_lt HL.out) hb) (fun hHeld=>?_)
 clear hb TN
 generalize V22.drew=V23 at *
 refine Z8l ?_
 refine Z5y ?_
 refine Tk.y 1 (v:=(Jj Jq x.nb)) rfl ?_ ?_
 ·intro wS hSw
  have q:=hSw.at 2 (Jj Jq x.nb) rfl
  exact Z0
 refine Z5y ?_
 refine Z8w ?_
 refine Z5y ?_
 refine Tk.y 3 (v:=(.int .i8 x.Y)) rfl ?_ ?_
 ·intro wS hSw
  have q:=hSw.at 8 (.int .i8 x.Y) rfl
  exact Z0
 refine Z5y ?_
 refine Z9b ?_
 refine Z5y ?_
 refine Tk.s 5 rfl (fun Kq hK=>?_)
 have c2:=HP.out.1.at 2 _ rfl
 have f2:=HP.out.fr 2 Zbc
 go_simp
 clear c2 f2
 have hS2:=hHeld.below (lt_of_succ_lt HL.out) ((Below.refl b V23).setCell (p:=⟨b,2,none⟩) (le_refl _) (Jj Jq x.nb))
 clear hHeld
 have hb:=((Below.refl b V23).setCell (p:=⟨b,2,none⟩) (le_refl _) (Jj Jq x.nb))
 replace HP:=hid (NdBox.set (y:=⟨6,x.na,x.nb,0,0,0,0,x.Z,0,none,0,0,none,0,0,x.m1,x.s1,x.z1,0,0,0,x.lo,x.hi⟩) HP.out 2 (Jj Jq x.nb) Zbc rfl)
 refine Z65 ?_;try clear HR HB;intro HR HB
 clear hb
 generalize (V23).setCell ⟨b,2,none⟩ (Jj Jq x.nb)=V24 at *
 refine Z8a ?_;intro hHeld
 clear hK Kq hS2
 refine Z5y ?_
 refine Z9e ?_
 refine Z5y ?_
 refine Tk.s 7 rfl (fun Kq hK=>?_)
 have c8:=HP.out.1.at 8 _ rfl
 have f8:=HP.out.fr 8 Zbc
 go_simp
 clear c8 f8
 have hS2:=hHeld.below (lt_of_succ_lt HL.out) ((Below.refl b V24).setCell (p:=⟨b,8,none⟩) (le_refl _) (.int .i8 x.Y))
 clear hHeld
 have hb:=((Below.refl b V24).setCell (p:=⟨b,8,none⟩) (le_refl _) (.int .i8 x.Y))
 replace HP:=hid (NdBox.set (y:=⟨6,x.na,x.nb,0,0,0,0,x.Z,x.Y,none,0,0,none,0,0,x.m1,x.s1,x.z1,0,0,0,x.lo,x.hi⟩) HP.out 8 (.int .i8 x.Y) Zbc rfl)
 refine Z65 ?_;try clear HR HB;intro HR HB
 clear hb
 generalize (V24).setCell ⟨b,8,none⟩ (.int .i8 x.Y)=V25 at *
 refine Z8a ?_;intro hHeld
 clear hK Kq hS2
 refine Z5y ?_
 refine Z6y ?_
 have TN:=hid hHeld
 clear hHeld
 have q0:V25.cell? ⟨w.heap.size,0,none⟩=some (Jj Jq 6):=TN.out.at 0 _ Zb8
 go_upto_region 21 with fail
 clear q0
 have hb:=(Below.refl b V25).drew
 replace HP:=hid (HP.out.below (lt_succ_self b) (Below.refl (b+1) V25).drew)
 refine Z65 ?_;try clear HR HB;intro HR HB
 refine wp_region_held_drew (S:=NdAt w.heap.size x) Zb5 (TN.out.below (lt_of_succ_lt HL.out) hb) (fun hHeld=>?_)
 clear hb TN
 generalize V25.drew=V26 at *
 refine Z8l ?_
 refine Z5y ?_
 refine Tk.x 1 rfl ?_
 refine Z5y ?_
 refine Tk.y 2 (v:=(.int .i32 x.m2)) rfl ?_ ?_
 ·intro wS hSw
  have q:=hSw.at 14 (.int .i32 x.m2) rfl
  exact Z0
 refine Z5y ?_
 refine Z94 ?_
 refine Z5y ?_
 refine Z9b ?_
 refine Z5y ?_
 refine Tk.y 5 (v:=(Jj Jq x.s2)) rfl ?_ ?_
 ·intro wS hSw
  have q:=hSw.at 15 (Jj Jq x.s2) rfl
  exact Z0
 refine Z5y ?_
 refine Z9e ?_
 refine Z5y ?_
 refine Z9w ?_
 refine Z5y ?_
 refine Tk.s 8 rfl (fun Kq hK=>?_)
 have c14:=HP.out.1.at 14 _ rfl
 have f14:=HP.out.fr 14 Zbc
 go_simp
 clear c14 f14
 have hS2:=hHeld.below (lt_of_succ_lt HL.out) ((Below.refl b V26).setCell (p:=⟨b,14,none⟩) (le_refl _) (.int .i32 x.m2))
 clear hHeld
 have hb:=((Below.refl b V26).setCell (p:=⟨b,14,none⟩) (le_refl _) (.int .i32 x.m2))
 replace HP:=hid (NdBox.set (y:=⟨6,x.na,x.nb,0,0,0,0,x.Z,x.Y,none,0,0,none,0,0,x.m1,x.s1,x.z1,x.m2,0,0,x.lo,x.hi⟩) HP.out 14 (.int .i32 x.m2) Zbc rfl)
 refine Z65 ?_;try clear HR HB;intro HR HB
 clear hb
 generalize (V26).setCell ⟨b,14,none⟩ (.int .i32 x.m2)=V27 at *
 refine Z8a ?_;intro hHeld
 clear hK Kq hS2
 refine Z5y ?_
 refine Zan ?_
 refine Z5y ?_
 refine Z9o ?_
 refine Z5y ?_
 refine Tk.s 11 rfl (fun Kq hK=>?_)
 have c15:=HP.out.1.at 15 _ rfl
 have f15:=HP.out.fr 15 Zbc
 go_simp
 clear c15 f15
 have hS2:=hHeld.below (lt_of_succ_lt HL.out) ((Below.refl b V27).setCell (p:=⟨b,15,none⟩) (le_refl _) (Jj Jq x.s2))
 clear hHeld
 have hb:=((Below.refl b V27).setCell (p:=⟨b,15,none⟩) (le_refl _) (Jj Jq x.s2))
 replace HP:=hid (NdBox.set (y:=⟨6,x.na,x.nb,0,0,0,0,x.Z,x.Y,none,0,0,none,0,0,x.m1,x.s1,x.z1,x.m2,x.s2,0,x.lo,x.hi⟩) HP.out 15 (Jj Jq x.s2) Zbc rfl)
 refine Z65 ?_;try clear HR HB;intro HR HB
 clear hb
 generalize (V27).setCell ⟨b,15,none⟩ (Jj Jq x.s2)=V28 at *
 refine Z8a ?_;intro hHeld
 clear hK Kq hS2
 refine Z5y ?_
 refine Z6y ?_
 have TN:=hid hHeld
 clear hHeld
 have q0:V28.cell? ⟨w.heap.size,0,none⟩=some (Jj Jq 6):=TN.out.at 0 _ Zb8
 go_wp2_with (first | (refine za4 rfl (.tmp 3) rfl b ⟨6,x.na,x.nb,0,0,0,0,x.Z,x.Y,none,0,0,none,0,0,x.m1,x.s1,x.z1,x.m2,x.s2,0,x.lo,x.hi⟩ rfl HP.out.1 ?_) | (refine zbq rfl (.tmp 2) (.tmp 78) rfl (w.heap.size+1) Nd.zero ⟨6,x.na,x.nb,0,0,0,0,x.Z,x.Y,none,0,0,none,0,0,x.m1,x.s1,x.z1,x.m2,x.s2,0,x.lo,x.hi⟩ rfl rfl HR.out ?_;rintro W2 hp hb1 hs1))
 refine bodyPost_ret (zcf rfl _ _ (w.heap.size+1) ⟨6,x.na,x.nb,0,0,0,0,x.Z,x.Y,none,0,0,none,0,0,x.m1,x.s1,x.z1,x.m2,x.s2,0,x.lo,x.hi⟩ rfl hp.1) rfl ?_
 exact Z1o
theorem own_8 (x:Nd) (hk:x.kd=8) (w:World) :
  Calls Tryz.prog 40 #[.agg x.val] w fun e w'=>e=.returned (.agg (x.ownK 8).val)∧Below w.heap.size w w':=by
 have TN:=hid (NdAt.new x 28 w)
 have HK:=hid hk
 clear hk
 go_enter Tryz.func40,Tryz.ntmps40
 go_upto_region 1 with fail
 refine Z67 ?_;try clear TN;intro HR TN HB HS
 generalize h:(w.alloc (.cells x.val 28)).alloc (.cells Nd.zero.val 28)=W0 at TN HR HB HS
 rw [show (w.alloc (Obj.cells x.val 28)).alloc (Obj.cells #[Jj Jq 0,Jj Jq 0,Jj Jq 0,Jj Jq 0,Jj Jq 0,Jj Jq 0,Jj Jq 0,.int .i8 0,.int .i8 0,.slice none 0 0,.slice none 0 0,.int .i32 0,Jj Jq 0,.int .i8 0,.int .i32 0,Jj Jq 0,.int .i8 0,.int .i8 0,.int .i8 0] 28)=W0 from h]
 clear h
 have q0:W0.cell? ⟨w.heap.size,0,none⟩=some (Jj Jq 8):=TN.out.at 0 _ Zb8
 have q1:=TN.out.at 1 (Jj Jq x.na) rfl
 go_upto_region 2 with (refine zbq rfl (.tmp 3) (.tmp 8) rfl _ Nd.zero ⟨8,x.na,0,0,0,0,0,0,0,none,0,0,none,0,0,0,0,0,0,0,0,0,0⟩ rfl rfl (NdBox.new Nd.zero _ _) ?_;rintro W1 hp hb1 hs1)
 refine Z6f ?_;try clear TN HR HB;intro TN HR HB HP HL
 clear hp hb1 hs1 HS q0 q1
 generalize W0.heap.size=b at *
 clear W0
 have q0:W1.cell? ⟨w.heap.size,0,none⟩=some (Jj Jq 8):=TN.out.at 0 _ Zb8
 refine Z8t ?_;intro q7 c7 f7
 refine Z9c ?_;intro q5 c5 f5
 go_upto_region 24 with fail
 clear q0 q7 c7 f7 q5 c5 f5
 have hb:=(((Below.refl b W1).setCell (p:=⟨b,7,none⟩) (le_refl _) (.int .i8 x.Z)).setCell (p:=⟨b,5,none⟩) (le_refl _) (Jj Jq x.P))
 replace HP:=hid (NdBox.set (y:=⟨8,x.na,0,0,0,x.P,0,x.Z,0,none,0,0,none,0,0,0,0,0,0,0,0,0,0⟩) (NdBox.set (y:=⟨8,x.na,0,0,0,0,0,x.Z,0,none,0,0,none,0,0,0,0,0,0,0,0,0,0⟩) HP.out 7 (.int .i8 x.Z) Zbc rfl) 5 (Jj Jq x.P) Zbc rfl)
 refine Z9z ?_;try clear TN;intro TN
 refine Z65 ?_;try clear HR HB;intro HR HB
 clear hb
 generalize ((W1).setCell ⟨b,7,none⟩ (.int .i8 x.Z)).setCell ⟨b,5,none⟩ (Jj Jq x.P)=V29 at *
 go_wp2_with (first | (refine za4 rfl (.tmp 3) rfl b ⟨8,x.na,0,0,0,x.P,0,x.Z,0,none,0,0,none,0,0,0,0,0,0,0,0,0,0⟩ rfl HP.out.1 ?_) | (refine zbq rfl (.tmp 2) (.tmp 78) rfl (w.heap.size+1) Nd.zero ⟨8,x.na,0,0,0,x.P,0,x.Z,0,none,0,0,none,0,0,0,0,0,0,0,0,0,0⟩ rfl rfl HR.out ?_;rintro W2 hp hb1 hs1))
 refine bodyPost_ret (zcf rfl _ _ (w.heap.size+1) ⟨8,x.na,0,0,0,x.P,0,x.Z,0,none,0,0,none,0,0,0,0,0,0,0,0,0,0⟩ rfl hp.1) rfl ?_
 exact Z1o
end CKind
end
end Go.Proofs.YtchpdhhpkljdhaaGreatDoor
