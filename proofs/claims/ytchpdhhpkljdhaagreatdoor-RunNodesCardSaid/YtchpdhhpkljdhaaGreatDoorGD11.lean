/- -/
import Derived.Test.YtchpdhhpkljdhaaGreatDoorGD9
open Go.Value renaming int→Jj
open Go.IntKind renaming i64→Jq
open Go.Lib (hid)
open Nat (le_refl lt_of_succ_lt lt_succ_self)
set_option linter.unusedVariables false
set_option linter.unusedSimpArgs false
set_option maxRecDepth 100000
set_option maxHeartbeats 16000000
namespace Go.Proofs.YtchpdhhpkljdhaaGreatDoor
namespace CConv
end CConv
namespace CSat
end CSat
open Go Go.ChangeShapes Go.WideShapes Go.ChangeAt Go.RowKit Go.Deep
section
namespace CKind
open Plain CSat CShape CTensor CConv
theorem own_2 (x:Nd) (hk:x.kd=2) (w:World) :
  Calls Tryz.prog 40 #[.agg x.val] w fun e w'=>e=.returned (.agg (x.ownK 2).val)∧Below w.heap.size w w':=by
 have TN:=hid (NdAt.new x 28 w)
 have HK:=hid hk
 clear hk
 go_enter Tryz.func40,Tryz.ntmps40
 go_upto_region 1 with fail
 refine Z67 ?_;try clear TN;intro HR TN HB HS
 generalize h:(w.alloc (.cells x.val 28)).alloc (.cells Nd.zero.val 28)=W0 at TN HR HB HS
 rw [show (w.alloc (Obj.cells x.val 28)).alloc (Obj.cells #[Jj Jq 0,Jj Jq 0,Jj Jq 0,Jj Jq 0,Jj Jq 0,Jj Jq 0,Jj Jq 0,.int .i8 0,.int .i8 0,.slice none 0 0,.slice none 0 0,.int .i32 0,Jj Jq 0,.int .i8 0,.int .i32 0,Jj Jq 0,.int .i8 0,.int .i8 0,.int .i8 0] 28)=W0 from h]
 clear h
 have q0:W0.cell? ⟨w.heap.size,0,none⟩=some (Jj Jq 2):=TN.out.at 0 _ Zb8
 have q1:=TN.out.at 1 (Jj Jq x.na) rfl
 go_upto_region 2 with (refine zbq rfl (.tmp 3) (.tmp 8) rfl _ Nd.zero ⟨2,x.na,0,0,0,0,0,0,0,none,0,0,none,0,0,0,0,0,0,0,0,0,0⟩ rfl rfl (NdBox.new Nd.zero _ _) ?_;rintro W1 hp hb1 hs1)
 refine Z6f ?_;try clear TN HR HB;intro TN HR HB HP HL
 clear hp hb1 hs1 HS q0 q1
 generalize W0.heap.size=b at *
 clear W0
 have q0:W1.cell? ⟨w.heap.size,0,none⟩=some (Jj Jq 2):=TN.out.at 0 _ Zb8
 go_upto_region 10 with fail
 clear q0
 refine Z9i ?_;try clear HP;intro hb HP
 refine Z65 ?_;try clear HR HB;intro HR HB
 refine wp_region_held_drew (S:=NdAt w.heap.size x) Zb5 (TN.out.below (lt_of_succ_lt HL.out) hb) (fun hHeld=>?_)
 clear hb TN
 generalize W1.drew=V30 at *
 refine Z8l ?_
 refine Z5y ?_
 refine Tk.y 1 (v:=(.slice x.WA x.nW x.cW)) rfl ?_ ?_
 ·exact Z5a
 refine Z5y ?_
 refine Z8w ?_
 refine Z5y ?_
 refine Tk.y 3 (v:=(.slice x.BA x.nB x.cB)) rfl ?_ ?_
 ·exact Z59
 refine Z5y ?_
 refine Z9b ?_
 refine Z5y ?_
 refine Tk.s 5 rfl (fun Kq hK=>?_)
 have c9:=HP.out.1.at 9 _ rfl
 have f9:=HP.out.fr 9 Zbc
 go_simp
 clear c9 f9
 have hS2:=hHeld.below (lt_of_succ_lt HL.out) ((Below.refl b V30).setCell (p:=⟨b,9,none⟩) (le_refl _) (.slice x.WA x.nW x.cW))
 clear hHeld
 have hb:=((Below.refl b V30).setCell (p:=⟨b,9,none⟩) (le_refl _) (.slice x.WA x.nW x.cW))
 replace HP:=hid (NdBox.set (y:=⟨2,x.na,0,0,0,0,0,0,0,x.WA,x.nW,x.cW,none,0,0,0,0,0,0,0,0,0,0⟩) HP.out 9 (.slice x.WA x.nW x.cW) Zbc rfl)
 refine Z65 ?_;try clear HR HB;intro HR HB
 clear hb
 generalize (V30).setCell ⟨b,9,none⟩ (.slice x.WA x.nW x.cW)=V31 at *
 refine Z8a ?_;intro hHeld
 clear hK Kq hS2
 refine Z5y ?_
 refine Z9e ?_
 refine Z5y ?_
 refine Tk.s 7 rfl (fun Kq hK=>?_)
 have c10:=HP.out.1.at 10 _ rfl
 have f10:=HP.out.fr 10 Zbc
 go_simp
 clear c10 f10
 have hS2:=hHeld.below (lt_of_succ_lt HL.out) ((Below.refl b V31).setCell (p:=⟨b,10,none⟩) (le_refl _) (.slice x.BA x.nB x.cB))
 clear hHeld
 have hb:=((Below.refl b V31).setCell (p:=⟨b,10,none⟩) (le_refl _) (.slice x.BA x.nB x.cB))
 replace HP:=hid (NdBox.set (y:=⟨2,x.na,0,0,0,0,0,0,0,x.WA,x.nW,x.cW,x.BA,x.nB,x.cB,0,0,0,0,0,0,0,0⟩) HP.out 10 (.slice x.BA x.nB x.cB) Zbc rfl)
 refine Z65 ?_;try clear HR HB;intro HR HB
 clear hb
 generalize (V31).setCell ⟨b,10,none⟩ (.slice x.BA x.nB x.cB)=V32 at *
 refine Z8a ?_;intro hHeld
 clear hK Kq hS2
 refine Z5y ?_
 refine Z6y ?_
 have TN:=hid hHeld
 clear hHeld
 have q0:V32.cell? ⟨w.heap.size,0,none⟩=some (Jj Jq 2):=TN.out.at 0 _ Zb8
 go_upto_region 11 with fail
 clear q0
 have hb:=(Below.refl b V32).drew
 replace HP:=hid (HP.out.below (lt_succ_self b) (Below.refl (b+1) V32).drew)
 refine Z65 ?_;try clear HR HB;intro HR HB
 refine wp_region_held_drew (S:=NdAt w.heap.size x) Zb5 (TN.out.below (lt_of_succ_lt HL.out) hb) (fun hHeld=>?_)
 clear hb TN
 generalize V32.drew=V33 at *
 refine Z8l ?_
 refine Z5y ?_
 refine Tk.y 1 (v:=.agg #[.int .i32 x.m1,Jj Jq x.s1,.int .i8 x.z1]) rfl ?_ ?_
 ·exact Z3r
 refine Z5y ?_
 refine Z8w ?_
 refine Z5y ?_
 refine Tk.y 3 (v:=(.int .i8 x.lo)) rfl ?_ ?_
 ·exact Z4r
 refine Z5y ?_
 refine Z9b ?_
 refine Z5y ?_
 refine Tk.y 5 (v:=(.int .i8 x.hi)) rfl ?_ ?_
 ·exact Z4s
 refine Z5y ?_
 refine Z9e ?_
 refine Z5y ?_
 refine Z7s ?_;intro Kq hK c11 f11 c12 f12 c13 f13
 go_simp
 clear c11 f11 c12 f12 c13 f13
 have hS2:=hHeld.below (lt_of_succ_lt HL.out) ((((Below.refl b V33).setCell (p:=⟨b,11,none⟩) (le_refl _) (.int .i32 x.m1)).setCell (p:=⟨b,12,none⟩) (le_refl _) (Jj Jq x.s1)).setCell (p:=⟨b,13,none⟩) (le_refl _) (.int .i8 x.z1))
 clear hHeld
 have hb:=((((Below.refl b V33).setCell (p:=⟨b,11,none⟩) (le_refl _) (.int .i32 x.m1)).setCell (p:=⟨b,12,none⟩) (le_refl _) (Jj Jq x.s1)).setCell (p:=⟨b,13,none⟩) (le_refl _) (.int .i8 x.z1))
 replace HP:=hid (NdBox.set (y:=⟨2,x.na,0,0,0,0,0,0,0,x.WA,x.nW,x.cW,x.BA,x.nB,x.cB,x.m1,x.s1,x.z1,0,0,0,0,0⟩) (NdBox.set (y:=⟨2,x.na,0,0,0,0,0,0,0,x.WA,x.nW,x.cW,x.BA,x.nB,x.cB,x.m1,x.s1,0,0,0,0,0,0⟩) (NdBox.set (y:=⟨2,x.na,0,0,0,0,0,0,0,x.WA,x.nW,x.cW,x.BA,x.nB,x.cB,x.m1,0,0,0,0,0,0,0⟩) HP.out 11 (.int .i32 x.m1) Zbc rfl) 12 (Jj Jq x.s1) Zbc rfl) 13 (.int .i8 x.z1) Zbc rfl)
 refine Z65 ?_;try clear HR HB;intro HR HB
 clear hb
 generalize (((V33).setCell ⟨b,11,none⟩ (.int .i32 x.m1)).setCell ⟨b,12,none⟩ (Jj Jq x.s1)).setCell ⟨b,13,none⟩ (.int .i8 x.z1)=V34 at *
 refine Z8a ?_;intro hHeld
 clear hK Kq hS2
 refine Z5y ?_
 refine Z9f ?_
 refine Z5y ?_
 refine Z9s ?_;intro Kq hK c17 f17
 go_simp
 clear c17 f17
 have hS2:=hHeld.below (lt_of_succ_lt HL.out) ((Below.refl b V34).setCell (p:=⟨b,17,none⟩) (le_refl _) (.int .i8 x.lo))
 clear hHeld
 have hb:=((Below.refl b V34).setCell (p:=⟨b,17,none⟩) (le_refl _) (.int .i8 x.lo))
 replace HP:=hid (NdBox.set (y:=⟨2,x.na,0,0,0,0,0,0,0,x.WA,x.nW,x.cW,x.BA,x.nB,x.cB,x.m1,x.s1,x.z1,0,0,0,x.lo,0⟩) HP.out 17 (.int .i8 x.lo) Zbc rfl)
 refine Z65 ?_;try clear HR HB;intro HR HB
 clear hb
 generalize (V34).setCell ⟨b,17,none⟩ (.int .i8 x.lo)=V35 at *
 refine Z8a ?_;intro hHeld
 clear hK Kq hS2
 refine Z5y ?_
 refine Z9o ?_
 refine Z5y ?_
 refine Z9q ?_;intro Kq hK c18 f18
 go_simp
 clear c18 f18
 have hS2:=hHeld.below (lt_of_succ_lt HL.out) ((Below.refl b V35).setCell (p:=⟨b,18,none⟩) (le_refl _) (.int .i8 x.hi))
 clear hHeld
 have hb:=((Below.refl b V35).setCell (p:=⟨b,18,none⟩) (le_refl _) (.int .i8 x.hi))
 replace HP:=hid (NdBox.set (y:=⟨2,x.na,0,0,0,0,0,0,0,x.WA,x.nW,x.cW,x.BA,x.nB,x.cB,x.m1,x.s1,x.z1,0,0,0,x.lo,x.hi⟩) HP.out 18 (.int .i8 x.hi) Zbc rfl)
 refine Z65 ?_;try clear HR HB;intro HR HB
 clear hb
 generalize (V35).setCell ⟨b,18,none⟩ (.int .i8 x.hi)=V36 at *
 refine Z8a ?_;intro hHeld
 clear hK Kq hS2
 refine Z5y ?_
 refine Z6y ?_
 have TN:=hid hHeld
 clear hHeld
 have q0:V36.cell? ⟨w.heap.size,0,none⟩=some (Jj Jq 2):=TN.out.at 0 _ Zb8
 refine Z8t ?_;intro q7 c7 f7
 go_upto_region 22 with fail
 clear q0 q7 c7 f7
 have hb:=((Below.refl b V36).setCell (p:=⟨b,7,none⟩) (le_refl _) (.int .i8 x.Z))
 replace HP:=hid (NdBox.set (y:=⟨2,x.na,0,0,0,0,0,x.Z,0,x.WA,x.nW,x.cW,x.BA,x.nB,x.cB,x.m1,x.s1,x.z1,0,0,0,x.lo,x.hi⟩) HP.out 7 (.int .i8 x.Z) Zbc rfl)
 refine Z9z ?_;try clear TN;intro TN
 refine Z65 ?_;try clear HR HB;intro HR HB
 clear hb
 generalize (V36).setCell ⟨b,7,none⟩ (.int .i8 x.Z)=V37 at *
 have hb:=(Below.refl b V37).drew
 replace HP:=hid (HP.out.below (lt_succ_self b) (Below.refl (b+1) V37).drew)
 refine Z65 ?_;try clear HR HB;intro HR HB
 refine wp_region_held_drew (S:=NdAt w.heap.size x) Zb5 (TN.out.below (lt_of_succ_lt HL.out) hb) (fun hHeld=>?_)
 clear hb TN
 generalize V37.drew=V38 at *
 refine Z8l ?_
 refine Z5y ?_
 refine Tk.y 1 (v:=(Jj Jq x.K)) rfl ?_ ?_
 ·exact Z53
 refine Z5y ?_
 refine Z8w ?_
 refine Z5y ?_
 refine Tk.y 3 (v:=(Jj Jq x.S)) rfl ?_ ?_
 ·exact Z54
 refine Z5y ?_
 refine Z9b ?_
 refine Z5y ?_
 refine Tk.s 5 rfl (fun Kq hK=>?_)
 have c3:=HP.out.1.at 3 _ rfl
 have f3:=HP.out.fr 3 Zbc
 go_simp
 clear c3 f3
 have hS2:=hHeld.below (lt_of_succ_lt HL.out) ((Below.refl b V38).setCell (p:=⟨b,3,none⟩) (le_refl _) (Jj Jq x.K))
 clear hHeld
 have hb:=((Below.refl b V38).setCell (p:=⟨b,3,none⟩) (le_refl _) (Jj Jq x.K))
 replace HP:=hid (NdBox.set (y:=⟨2,x.na,0,x.K,0,0,0,x.Z,0,x.WA,x.nW,x.cW,x.BA,x.nB,x.cB,x.m1,x.s1,x.z1,0,0,0,x.lo,x.hi⟩) HP.out 3 (Jj Jq x.K) Zbc rfl)
 refine Z65 ?_;try clear HR HB;intro HR HB
 clear hb
 generalize (V38).setCell ⟨b,3,none⟩ (Jj Jq x.K)=V39 at *
 refine Z8a ?_;intro hHeld
 clear hK Kq hS2
 refine Z5y ?_
 refine Z9e ?_
 refine Z5y ?_
 refine Tk.s 7 rfl (fun Kq hK=>?_)
 have c4:=HP.out.1.at 4 _ rfl
 have f4:=HP.out.fr 4 Zbc
 go_simp
 clear c4 f4
 have hS2:=hHeld.below (lt_of_succ_lt HL.out) ((Below.refl b V39).setCell (p:=⟨b,4,none⟩) (le_refl _) (Jj Jq x.S))
 clear hHeld
 have hb:=((Below.refl b V39).setCell (p:=⟨b,4,none⟩) (le_refl _) (Jj Jq x.S))
 replace HP:=hid (NdBox.set (y:=⟨2,x.na,0,x.K,x.S,0,0,x.Z,0,x.WA,x.nW,x.cW,x.BA,x.nB,x.cB,x.m1,x.s1,x.z1,0,0,0,x.lo,x.hi⟩) HP.out 4 (Jj Jq x.S) Zbc rfl)
 refine Z65 ?_;try clear HR HB;intro HR HB
 clear hb
 generalize (V39).setCell ⟨b,4,none⟩ (Jj Jq x.S)=V40 at *
 refine Z8a ?_;intro hHeld
 clear hK Kq hS2
 refine Z5y ?_
 refine Z6y ?_
 have TN:=hid hHeld
 clear hHeld
 have q0:V40.cell? ⟨w.heap.size,0,none⟩=some (Jj Jq 2):=TN.out.at 0 _ Zb8
 refine Z9c ?_;intro q5 c5 f5
 go_upto_region 24 with fail
 clear q0 q5 c5 f5
 have hb:=((Below.refl b V40).setCell (p:=⟨b,5,none⟩) (le_refl _) (Jj Jq x.P))
 replace HP:=hid (NdBox.set (y:=⟨2,x.na,0,x.K,x.S,x.P,0,x.Z,0,x.WA,x.nW,x.cW,x.BA,x.nB,x.cB,x.m1,x.s1,x.z1,0,0,0,x.lo,x.hi⟩) HP.out 5 (Jj Jq x.P) Zbc rfl)
 refine Z9z ?_;try clear TN;intro TN
 refine Z65 ?_;try clear HR HB;intro HR HB
 clear hb
 generalize (V40).setCell ⟨b,5,none⟩ (Jj Jq x.P)=V41 at *
 go_wp2_with (first | (refine za4 rfl (.tmp 3) rfl b ⟨2,x.na,0,x.K,x.S,x.P,0,x.Z,0,x.WA,x.nW,x.cW,x.BA,x.nB,x.cB,x.m1,x.s1,x.z1,0,0,0,x.lo,x.hi⟩ rfl HP.out.1 ?_) | (refine zbq rfl (.tmp 2) (.tmp 78) rfl (w.heap.size+1) Nd.zero ⟨2,x.na,0,x.K,x.S,x.P,0,x.Z,0,x.WA,x.nW,x.cW,x.BA,x.nB,x.cB,x.m1,x.s1,x.z1,0,0,0,x.lo,x.hi⟩ rfl rfl HR.out ?_;rintro W2 hp hb1 hs1))
 refine bodyPost_ret (zcf rfl _ _ (w.heap.size+1) ⟨2,x.na,0,x.K,x.S,x.P,0,x.Z,0,x.WA,x.nW,x.cW,x.BA,x.nB,x.cB,x.m1,x.s1,x.z1,0,0,0,x.lo,x.hi⟩ rfl hp.1) rfl ?_
 exact Z1o
theorem own_3 (x:Nd) (hk:x.kd=3) (w:World) :
  Calls Tryz.prog 40 #[.agg x.val] w fun e w'=>e=.returned (.agg (x.ownK 3).val)∧Below w.heap.size w w':=by
 have TN:=hid (NdAt.new x 28 w)
 have HK:=hid hk
 clear hk
 go_enter Tryz.func40,Tryz.ntmps40
 go_upto_region 1 with fail
 refine Z67 ?_;try clear TN;intro HR TN HB HS
 generalize h:(w.alloc (.cells x.val 28)).alloc (.cells Nd.zero.val 28)=W0 at TN HR HB HS
 rw [show (w.alloc (Obj.cells x.val 28)).alloc (Obj.cells #[Jj Jq 0,Jj Jq 0,Jj Jq 0,Jj Jq 0,Jj Jq 0,Jj Jq 0,Jj Jq 0,.int .i8 0,.int .i8 0,.slice none 0 0,.slice none 0 0,.int .i32 0,Jj Jq 0,.int .i8 0,.int .i32 0,Jj Jq 0,.int .i8 0,.int .i8 0,.int .i8 0] 28)=W0 from h]
 clear h
 have q0:W0.cell? ⟨w.heap.size,0,none⟩=some (Jj Jq 3):=TN.out.at 0 _ Zb8
 have q1:=TN.out.at 1 (Jj Jq x.na) rfl
 go_upto_region 2 with (refine zbq rfl (.tmp 3) (.tmp 8) rfl _ Nd.zero ⟨3,x.na,0,0,0,0,0,0,0,none,0,0,none,0,0,0,0,0,0,0,0,0,0⟩ rfl rfl (NdBox.new Nd.zero _ _) ?_;rintro W1 hp hb1 hs1)
 refine Z6f ?_;try clear TN HR HB;intro TN HR HB HP HL
 clear hp hb1 hs1 HS q0 q1
 generalize W0.heap.size=b at *
 clear W0
 have q0:W1.cell? ⟨w.heap.size,0,none⟩=some (Jj Jq 3):=TN.out.at 0 _ Zb8
 have q6:=TN.out.at 6 (Jj Jq x.O) rfl
 have c6:=HP.out.1.at 6 _ rfl
 have f6:=HP.out.fr 6 Zbc
 go_upto_region 10 with fail
 clear q0 q6 c6 f6
 have hb:=((Below.refl b W1).setCell (p:=⟨b,6,none⟩) (le_refl _) (Jj Jq x.O))
 replace HP:=hid (NdBox.set (y:=⟨3,x.na,0,0,0,0,x.O,0,0,none,0,0,none,0,0,0,0,0,0,0,0,0,0⟩) HP.out 6 (Jj Jq x.O) Zbc rfl)
 refine Z9z ?_;try clear TN;intro TN
 refine Z65 ?_;try clear HR HB;intro HR HB
 clear hb
 generalize (W1).setCell ⟨b,6,none⟩ (Jj Jq x.O)=V42 at *
 have hb:=(Below.refl b V42).drew
 replace HP:=hid (HP.out.below (lt_succ_self b) (Below.refl (b+1) V42).drew)
 refine Z65 ?_;try clear HR HB;intro HR HB
 refine wp_region_held_drew (S:=NdAt w.heap.size x) Zb5 (TN.out.below (lt_of_succ_lt HL.out) hb) (fun hHeld=>?_)
 clear hb TN
 generalize V42.drew=V43 at *
 refine Z8l ?_
 refine Z5y ?_
 refine Tk.y 1 (v:=(.slice x.WA x.nW x.cW)) rfl ?_ ?_
 ·exact Z5a
 refine Z5y ?_
 refine Z8w ?_
 refine Z5y ?_
 refine Tk.y 3 (v:=(.slice x.BA x.nB x.cB)) rfl ?_ ?_
 ·exact Z59
 refine Z5y ?_
 refine Z9b ?_
 refine Z5y ?_
 refine Tk.s 5 rfl (fun Kq hK=>?_)
 have c9:=HP.out.1.at 9 _ rfl
 have f9:=HP.out.fr 9 Zbc
 go_simp
 clear c9 f9
 have hS2:=hHeld.below (lt_of_succ_lt HL.out) ((Below.refl b V43).setCell (p:=⟨b,9,none⟩) (le_refl _) (.slice x.WA x.nW x.cW))
 clear hHeld
 have hb:=((Below.refl b V43).setCell (p:=⟨b,9,none⟩) (le_refl _) (.slice x.WA x.nW x.cW))
 replace HP:=hid (NdBox.set (y:=⟨3,x.na,0,0,0,0,x.O,0,0,x.WA,x.nW,x.cW,none,0,0,0,0,0,0,0,0,0,0⟩) HP.out 9 (.slice x.WA x.nW x.cW) Zbc rfl)
 refine Z65 ?_;try clear HR HB;intro HR HB
 clear hb
 generalize (V43).setCell ⟨b,9,none⟩ (.slice x.WA x.nW x.cW)=V44 at *
 refine Z8a ?_;intro hHeld
 clear hK Kq hS2
 refine Z5y ?_
 refine Z9e ?_
 refine Z5y ?_
 refine Tk.s 7 rfl (fun Kq hK=>?_)
 have c10:=HP.out.1.at 10 _ rfl
 have f10:=HP.out.fr 10 Zbc
 go_simp
 clear c10 f10
 have hS2:=hHeld.below (lt_of_succ_lt HL.out) ((Below.refl b V44).setCell (p:=⟨b,10,none⟩) (le_refl _) (.slice x.BA x.nB x.cB))
 clear hHeld
 have hb:=((Below.refl b V44).setCell (p:=⟨b,10,none⟩) (le_refl _) (.slice x.BA x.nB x.cB))
 replace HP:=hid (NdBox.set (y:=⟨3,x.na,0,0,0,0,x.O,0,0,x.WA,x.nW,x.cW,x.BA,x.nB,x.cB,0,0,0,0,0,0,0,0⟩) HP.out 10 (.slice x.BA x.nB x.cB) Zbc rfl)
 refine Z65 ?_;try clear HR HB;intro HR HB
 clear hb
 generalize (V44).setCell ⟨b,10,none⟩ (.slice x.BA x.nB x.cB)=V45 at *
 refine Z8a ?_;intro hHeld
 clear hK Kq hS2
 refine Z5y ?_
 refine Z6y ?_
 have TN:=hid hHeld
 clear hHeld
 have q0:V45.cell? ⟨w.heap.size,0,none⟩=some (Jj Jq 3):=TN.out.at 0 _ Zb8
 go_upto_region 11 with fail
 clear q0
 have hb:=(Below.refl b V45).drew
 replace HP:=hid (HP.out.below (lt_succ_self b) (Below.refl (b+1) V45).drew)
 refine Z65 ?_;try clear HR HB;intro HR HB
 refine wp_region_held_drew (S:=NdAt w.heap.size x) Zb5 (TN.out.below (lt_of_succ_lt HL.out) hb) (fun hHeld=>?_)
 clear hb TN
 generalize V45.drew=V46 at *
 refine Z8l ?_
 refine Z5y ?_
 refine Tk.y 1 (v:=.agg #[.int .i32 x.m1,Jj Jq x.s1,.int .i8 x.z1]) rfl ?_ ?_
 ·exact Z3r
 refine Z5y ?_
 refine Z8w ?_
 refine Z5y ?_
 refine Tk.y 3 (v:=(.int .i8 x.lo)) rfl ?_ ?_
 ·exact Z4r
 refine Z5y ?_
 refine Z9b ?_
 refine Z5y ?_
 refine Tk.y 5 (v:=(.int .i8 x.hi)) rfl ?_ ?_
 ·exact Z4s
 refine Z5y ?_
 refine Z9e ?_
 refine Z5y ?_
 refine Z7s ?_;intro Kq hK c11 f11 c12 f12 c13 f13
 go_simp
 clear c11 f11 c12 f12 c13 f13
 have hS2:=hHeld.below (lt_of_succ_lt HL.out) ((((Below.refl b V46).setCell (p:=⟨b,11,none⟩) (le_refl _) (.int .i32 x.m1)).setCell (p:=⟨b,12,none⟩) (le_refl _) (Jj Jq x.s1)).setCell (p:=⟨b,13,none⟩) (le_refl _) (.int .i8 x.z1))
 clear hHeld
 have hb:=((((Below.refl b V46).setCell (p:=⟨b,11,none⟩) (le_refl _) (.int .i32 x.m1)).setCell (p:=⟨b,12,none⟩) (le_refl _) (Jj Jq x.s1)).setCell (p:=⟨b,13,none⟩) (le_refl _) (.int .i8 x.z1))
 replace HP:=hid (NdBox.set (y:=⟨3,x.na,0,0,0,0,x.O,0,0,x.WA,x.nW,x.cW,x.BA,x.nB,x.cB,x.m1,x.s1,x.z1,0,0,0,0,0⟩) (NdBox.set (y:=⟨3,x.na,0,0,0,0,x.O,0,0,x.WA,x.nW,x.cW,x.BA,x.nB,x.cB,x.m1,x.s1,0,0,0,0,0,0⟩) (NdBox.set (y:=⟨3,x.na,0,0,0,0,x.O,0,0,x.WA,x.nW,x.cW,x.BA,x.nB,x.cB,x.m1,0,0,0,0,0,0,0⟩) HP.out 11 (.int .i32 x.m1) Zbc rfl) 12 (Jj Jq x.s1) Zbc rfl) 13 (.int .i8 x.z1) Zbc rfl)
 refine Z65 ?_;try clear HR HB;intro HR HB
 clear hb
 generalize (((V46).setCell ⟨b,11,none⟩ (.int .i32 x.m1)).setCell ⟨b,12,none⟩ (Jj Jq x.s1)).setCell ⟨b,13,none⟩ (.int .i8 x.z1)=V47 at *
 refine Z8a ?_;intro hHeld
 clear hK Kq hS2
 refine Z5y ?_
 refine Z9f ?_
 refine Z5y ?_
 refine Z9s ?_;intro Kq hK c17 f17
 go_simp
 clear c17 f17
 have hS2:=hHeld.below (lt_of_succ_lt HL.out) ((Below.refl b V47).setCell (p:=⟨b,17,none⟩) (le_refl _) (.int .i8 x.lo))
 clear hHeld
 have hb:=((Below.refl b V47).setCell (p:=⟨b,17,none⟩) (le_refl _) (.int .i8 x.lo))
 replace HP:=hid (NdBox.set (y:=⟨3,x.na,0,0,0,0,x.O,0,0,x.WA,x.nW,x.cW,x.BA,x.nB,x.cB,x.m1,x.s1,x.z1,0,0,0,x.lo,0⟩) HP.out 17 (.int .i8 x.lo) Zbc rfl)
 refine Z65 ?_;try clear HR HB;intro HR HB
 clear hb
 generalize (V47).setCell ⟨b,17,none⟩ (.int .i8 x.lo)=V48 at *
 refine Z8a ?_;intro hHeld
 clear hK Kq hS2
 refine Z5y ?_
 refine Z9o ?_
 refine Z5y ?_
 refine Z9q ?_;intro Kq hK c18 f18
 go_simp
 clear c18 f18
 have hS2:=hHeld.below (lt_of_succ_lt HL.out) ((Below.refl b V48).setCell (p:=⟨b,18,none⟩) (le_refl _) (.int .i8 x.hi))
 clear hHeld
 have hb:=((Below.refl b V48).setCell (p:=⟨b,18,none⟩) (le_refl _) (.int .i8 x.hi))
 replace HP:=hid (NdBox.set (y:=⟨3,x.na,0,0,0,0,x.O,0,0,x.WA,x.nW,x.cW,x.BA,x.nB,x.cB,x.m1,x.s1,x.z1,0,0,0,x.lo,x.hi⟩) HP.out 18 (.int .i8 x.hi) Zbc rfl)
 refine Z65 ?_;try clear HR HB;intro HR HB
 clear hb
 generalize (V48).setCell ⟨b,18,none⟩ (.int .i8 x.hi)=V49 at *
 refine Z8a ?_;intro hHeld
 clear hK Kq hS2
 refine Z5y ?_
 refine Z6y ?_
 have TN:=hid hHeld
 clear hHeld
 have q0:V49.cell? ⟨w.heap.size,0,none⟩=some (Jj Jq 3):=TN.out.at 0 _ Zb8
 refine Z8t ?_;intro q7 c7 f7
 go_upto_region 24 with fail
 clear q0 q7 c7 f7
 have hb:=((Below.refl b V49).setCell (p:=⟨b,7,none⟩) (le_refl _) (.int .i8 x.Z))
 replace HP:=hid (NdBox.set (y:=⟨3,x.na,0,0,0,0,x.O,x.Z,0,x.WA,x.nW,x.cW,x.BA,x.nB,x.cB,x.m1,x.s1,x.z1,0,0,0,x.lo,x.hi⟩) HP.out 7 (.int .i8 x.Z) Zbc rfl)
 refine Z9z ?_;try clear TN;intro TN
 refine Z65 ?_;try clear HR HB;intro HR HB
 clear hb
 generalize (V49).setCell ⟨b,7,none⟩ (.int .i8 x.Z)=V50 at *
 go_wp2_with (first | (refine za4 rfl (.tmp 3) rfl b ⟨3,x.na,0,0,0,0,x.O,x.Z,0,x.WA,x.nW,x.cW,x.BA,x.nB,x.cB,x.m1,x.s1,x.z1,0,0,0,x.lo,x.hi⟩ rfl HP.out.1 ?_) | (refine zbq rfl (.tmp 2) (.tmp 78) rfl (w.heap.size+1) Nd.zero ⟨3,x.na,0,0,0,0,x.O,x.Z,0,x.WA,x.nW,x.cW,x.BA,x.nB,x.cB,x.m1,x.s1,x.z1,0,0,0,x.lo,x.hi⟩ rfl rfl HR.out ?_;rintro W2 hp hb1 hs1))
 refine bodyPost_ret (zcf rfl _ _ (w.heap.size+1) ⟨3,x.na,0,0,0,0,x.O,x.Z,0,x.WA,x.nW,x.cW,x.BA,x.nB,x.cB,x.m1,x.s1,x.z1,0,0,0,x.lo,x.hi⟩ rfl hp.1) rfl ?_
 exact Z1o
theorem own_5 (x:Nd) (hk:x.kd=5) (w:World) :
  Calls Tryz.prog 40 #[.agg x.val] w fun e w'=>e=.returned (.agg (x.ownK 5).val)∧Below w.heap.size w w':=by
 have TN:=hid (NdAt.new x 28 w)
 have HK:=hid hk
 clear hk
 go_enter Tryz.func40,Tryz.ntmps40
 go_upto_region 1 with fail
 refine Z67 ?_;try clear TN;intro HR TN HB HS
 generalize h:(w.alloc (.cells x.val 28)).alloc (.cells Nd.zero.val 28)=W0 at TN HR HB HS
 rw [show (w.alloc (Obj.cells x.val 28)).alloc (Obj.cells #[Jj Jq 0,Jj Jq 0,Jj Jq 0,Jj Jq 0,Jj Jq 0,Jj Jq 0,Jj Jq 0,.int .i8 0,.int .i8 0,.slice none 0 0,.slice none 0 0,.int .i32 0,Jj Jq 0,.int .i8 0,.int .i32 0,Jj Jq 0,.int .i8 0,.int .i8 0,.int .i8 0] 28)=W0 from h]
 clear h
 have q0:W0.cell? ⟨w.heap.size,0,none⟩=some (Jj Jq 5):=TN.out.at 0 _ Zb8
 have q1:=TN.out.at 1 (Jj Jq x.na) rfl
 go_upto_region 2 with (refine zbq rfl (.tmp 3) (.tmp 8) rfl _ Nd.zero ⟨5,x.na,0,0,0,0,0,0,0,none,0,0,none,0,0,0,0,0,0,0,0,0,0⟩ rfl rfl (NdBox.new Nd.zero _ _) ?_;rintro W1 hp hb1 hs1)
 refine Z6f ?_;try clear TN HR HB;intro TN HR HB HP HL
 clear hp hb1 hs1 HS q0 q1
 generalize W0.heap.size=b at *
 clear W0
 have q0:W1.cell? ⟨w.heap.size,0,none⟩=some (Jj Jq 5):=TN.out.at 0 _ Zb8
 go_upto_region 22 with fail
 clear q0
 refine Z9i ?_;try clear HP;intro hb HP
 refine Z65 ?_;try clear HR HB;intro HR HB
 refine wp_region_held_drew (S:=NdAt w.heap.size x) Zb5 (TN.out.below (lt_of_succ_lt HL.out) hb) (fun hHeld=>?_)
 clear hb TN
 generalize W1.drew=V51 at *
 refine Z8l ?_
 refine Z5y ?_
 refine Tk.y 1 (v:=(Jj Jq x.K)) rfl ?_ ?_
 ·exact Z53
 refine Z5y ?_
 refine Z8w ?_
 refine Z5y ?_
 refine Tk.y 3 (v:=(Jj Jq x.S)) rfl ?_ ?_
 ·exact Z54
 refine Z5y ?_
 refine Z9b ?_
 refine Z5y ?_
 refine Tk.s 5 rfl (fun Kq hK=>?_)
 have c3:=HP.out.1.at 3 _ rfl
 have f3:=HP.out.fr 3 Zbc
 go_simp
 clear c3 f3
 have hS2:=hHeld.below (lt_of_succ_lt HL.out) ((Below.refl b V51).setCell (p:=⟨b,3,none⟩) (le_refl _) (Jj Jq x.K))
 clear hHeld
 have hb:=((Below.refl b V51).setCell (p:=⟨b,3,none⟩) (le_refl _) (Jj Jq x.K))
 replace HP:=hid (NdBox.set (y:=⟨5,x.na,0,x.K,0,0,0,0,0,none,0,0,none,0,0,0,0,0,0,0,0,0,0⟩) HP.out 3 (Jj Jq x.K) Zbc rfl)
 refine Z65 ?_;try clear HR HB;intro HR HB
 clear hb
 generalize (V51).setCell ⟨b,3,none⟩ (Jj Jq x.K)=V52 at *
 refine Z8a ?_;intro hHeld
 clear hK Kq hS2
 refine Z5y ?_
 refine Z9e ?_
 refine Z5y ?_
 refine Tk.s 7 rfl (fun Kq hK=>?_)
 have c4:=HP.out.1.at 4 _ rfl
 have f4:=HP.out.fr 4 Zbc
 go_simp
 clear c4 f4
 have hS2:=hHeld.below (lt_of_succ_lt HL.out) ((Below.refl b V52).setCell (p:=⟨b,4,none⟩) (le_refl _) (Jj Jq x.S))
 clear hHeld
 have hb:=((Below.refl b V52).setCell (p:=⟨b,4,none⟩) (le_refl _) (Jj Jq x.S))
 replace HP:=hid (NdBox.set (y:=⟨5,x.na,0,x.K,x.S,0,0,0,0,none,0,0,none,0,0,0,0,0,0,0,0,0,0⟩) HP.out 4 (Jj Jq x.S) Zbc rfl)
 refine Z65 ?_;try clear HR HB;intro HR HB
 clear hb
 generalize (V52).setCell ⟨b,4,none⟩ (Jj Jq x.S)=V53 at *
 refine Z8a ?_;intro hHeld
 clear hK Kq hS2
 refine Z5y ?_
 refine Z6y ?_
 have TN:=hid hHeld
 clear hHeld
 have q0:V53.cell? ⟨w.heap.size,0,none⟩=some (Jj Jq 5):=TN.out.at 0 _ Zb8
 refine Z9c ?_;intro q5 c5 f5
 go_upto_region 24 with fail
 clear q0 q5 c5 f5
 have hb:=((Below.refl b V53).setCell (p:=⟨b,5,none⟩) (le_refl _) (Jj Jq x.P))
 replace HP:=hid (NdBox.set (y:=⟨5,x.na,0,x.K,x.S,x.P,0,0,0,none,0,0,none,0,0,0,0,0,0,0,0,0,0⟩) HP.out 5 (Jj Jq x.P) Zbc rfl)
 refine Z9z ?_;try clear TN;intro TN
 refine Z65 ?_;try clear HR HB;intro HR HB
 clear hb
 generalize (V53).setCell ⟨b,5,none⟩ (Jj Jq x.P)=V54 at *
 go_wp2_with (first | (refine za4 rfl (.tmp 3) rfl b ⟨5,x.na,0,x.K,x.S,x.P,0,0,0,none,0,0,none,0,0,0,0,0,0,0,0,0,0⟩ rfl HP.out.1 ?_) | (refine zbq rfl (.tmp 2) (.tmp 78) rfl (w.heap.size+1) Nd.zero ⟨5,x.na,0,x.K,x.S,x.P,0,0,0,none,0,0,none,0,0,0,0,0,0,0,0,0,0⟩ rfl rfl HR.out ?_;rintro W2 hp hb1 hs1))
 refine bodyPost_ret (zcf rfl _ _ (w.heap.size+1) ⟨5,x.na,0,x.K,x.S,x.P,0,0,0,none,0,0,none,0,0,0,0,0,0,0,0,0,0⟩ rfl hp.1) rfl ?_
 exact Z1o
theorem own_7 (x:Nd) (hk:x.kd=7) (w:World) :
  Calls Tryz.prog 40 #[.agg x.val] w fun e w'=>e=.returned (.agg (x.ownK 7).val)∧Below w.heap.size w w':=by
 have TN:=hid (NdAt.new x 28 w)
 have HK:=hid hk
 clear hk
 go_enter Tryz.func40,Tryz.ntmps40
 go_upto_region 1 with fail
 refine Z67 ?_;try clear TN;intro HR TN HB HS
 generalize h:(w.alloc (.cells x.val 28)).alloc (.cells Nd.zero.val 28)=W0 at TN HR HB HS
 rw [show (w.alloc (Obj.cells x.val 28)).alloc (Obj.cells #[Jj Jq 0,Jj Jq 0,Jj Jq 0,Jj Jq 0,Jj Jq 0,Jj Jq 0,Jj Jq 0,.int .i8 0,.int .i8 0,.slice none 0 0,.slice none 0 0,.int .i32 0,Jj Jq 0,.int .i8 0,.int .i32 0,Jj Jq 0,.int .i8 0,.int .i8 0,.int .i8 0] 28)=W0 from h]
 clear h
 have q0:W0.cell? ⟨w.heap.size,0,none⟩=some (Jj Jq 7):=TN.out.at 0 _ Zb8
 have q1:=TN.out.at 1 (Jj Jq x.na) rfl
 go_upto_region 2 with (refine zbq rfl (.tmp 3) (.tmp 8) rfl _ Nd.zero ⟨7,x.na,0,0,0,0,0,0,0,none,0,0,none,0,0,0,0,0,0,0,0,0,0⟩ rfl rfl (NdBox.new Nd.zero _ _) ?_;rintro W1 hp hb1 hs1)
 refine Z6f ?_;try clear TN HR HB;intro TN HR HB HP HL
 clear hp hb1 hs1 HS q0 q1
 generalize W0.heap.size=b at *
 clear W0
 have q0:W1.cell? ⟨w.heap.size,0,none⟩=some (Jj Jq 7):=TN.out.at 0 _ Zb8
 go_upto_region 11 with fail
 clear q0
 refine Z9i ?_;try clear HP;intro hb HP
 refine Z65 ?_;try clear HR HB;intro HR HB
 refine wp_region_held_drew (S:=NdAt w.heap.size x) Zb5 (TN.out.below (lt_of_succ_lt HL.out) hb) (fun hHeld=>?_)
 clear hb TN
 generalize W1.drew=V55 at *
 refine Z8l ?_
 refine Z5y ?_
 refine Tk.y 1 (v:=.agg #[.int .i32 x.m1,Jj Jq x.s1,.int .i8 x.z1]) rfl ?_ ?_
 ·exact Z3r
 refine Z5y ?_
 refine Z8w ?_
 refine Z5y ?_
 refine Tk.y 3 (v:=(.int .i8 x.lo)) rfl ?_ ?_
 ·exact Z4r
 refine Z5y ?_
 refine Z9b ?_
 refine Z5y ?_
 refine Tk.y 5 (v:=(.int .i8 x.hi)) rfl ?_ ?_
 ·exact Z4s
 refine Z5y ?_
 refine Z9e ?_
 refine Z5y ?_
 refine Z7s ?_;intro Kq hK c11 f11 c12 f12 c13 f13
 go_simp
 clear c11 f11 c12 f12 c13 f13
 have hS2:=hHeld.below (lt_of_succ_lt HL.out) ((((Below.refl b V55).setCell (p:=⟨b,11,none⟩) (le_refl _) (.int .i32 x.m1)).setCell (p:=⟨b,12,none⟩) (le_refl _) (Jj Jq x.s1)).setCell (p:=⟨b,13,none⟩) (le_refl _) (.int .i8 x.z1))
 clear hHeld
 have hb:=((((Below.refl b V55).setCell (p:=⟨b,11,none⟩) (le_refl _) (.int .i32 x.m1)).setCell (p:=⟨b,12,none⟩) (le_refl _) (Jj Jq x.s1)).setCell (p:=⟨b,13,none⟩) (le_refl _) (.int .i8 x.z1))
 replace HP:=hid (NdBox.set (y:=⟨7,x.na,0,0,0,0,0,0,0,none,0,0,none,0,0,x.m1,x.s1,x.z1,0,0,0,0,0⟩) (NdBox.set (y:=⟨7,x.na,0,0,0,0,0,0,0,none,0,0,none,0,0,x.m1,x.s1,0,0,0,0,0,0⟩) (NdBox.set (y:=⟨7,x.na,0,0,0,0,0,0,0,none,0,0,none,0,0,x.m1,0,0,0,0,0,0,0⟩) HP.out 11 (.int .i32 x.m1) Zbc rfl) 12 (Jj Jq x.s1) Zbc rfl) 13 (.int .i8 x.z1) Zbc rfl)
 refine Z65 ?_;try clear HR HB;intro HR HB
 clear hb
 generalize (((V55).setCell ⟨b,11,none⟩ (.int .i32 x.m1)).setCell ⟨b,12,none⟩ (Jj Jq x.s1)).setCell ⟨b,13,none⟩ (.int .i8 x.z1)=V56 at *
 refine Z8a ?_;intro hHeld
 clear hK Kq hS2
 refine Z5y ?_
 refine Z9f ?_
 refine Z5y ?_
 refine Z9s ?_;intro Kq hK c17 f17
 go_simp
 clear c17 f17
 have hS2:=hHeld.below (lt_of_succ_lt HL.out) ((Below.refl b V56).setCell (p:=⟨b,17,none⟩) (le_refl _) (.int .i8 x.lo))
 clear hHeld
 have hb:=((Below.refl b V56).setCell (p:=⟨b,17,none⟩) (le_refl _) (.int .i8 x.lo))
 replace HP:=hid (NdBox.set (y:=⟨7,x.na,0,0,0,0,0,0,0,none,0,0,none,0,0,x.m1,x.s1,x.z1,0,0,0,x.lo,0⟩) HP.out 17 (.int .i8 x.lo) Zbc rfl)
 refine Z65 ?_;try clear HR HB;intro HR HB
 clear hb
 generalize (V56).setCell ⟨b,17,none⟩ (.int .i8 x.lo)=V57 at *
 refine Z8a ?_;intro hHeld
 clear hK Kq hS2
 refine Z5y ?_
 refine Z9o ?_
 refine Z5y ?_
 refine Z9q ?_;intro Kq hK c18 f18
 go_simp
 clear c18 f18
 have hS2:=hHeld.below (lt_of_succ_lt HL.out) ((Below.refl b V57).setCell (p:=⟨b,18,none⟩) (le_refl _) (.int .i8 x.hi))
 clear hHeld
 have hb:=((Below.refl b V57).setCell (p:=⟨b,18,none⟩) (le_refl _) (.int .i8 x.hi))
 replace HP:=hid (NdBox.set (y:=⟨7,x.na,0,0,0,0,0,0,0,none,0,0,none,0,0,x.m1,x.s1,x.z1,0,0,0,x.lo,x.hi⟩) HP.out 18 (.int .i8 x.hi) Zbc rfl)
 refine Z65 ?_;try clear HR HB;intro HR HB
 clear hb
 generalize (V57).setCell ⟨b,18,none⟩ (.int .i8 x.hi)=V58 at *
 refine Z8a ?_;intro hHeld
 clear hK Kq hS2
 refine Z5y ?_
 refine Z6y ?_
 have TN:=hid hHeld
 clear hHeld
 have q0:V58.cell? ⟨w.heap.size,0,none⟩=some (Jj Jq 7):=TN.out.at 0 _ Zb8
 refine Z8t ?_;intro q7 c7 f7
 go_upto_region 24 with fail
 clear q0 q7 c7 f7
 have hb:=((Below.refl b V58).setCell (p:=⟨b,7,none⟩) (le_refl _) (.int .i8 x.Z))
 replace HP:=hid (NdBox.set (y:=⟨7,x.na,0,0,0,0,0,x.Z,0,none,0,0,none,0,0,x.m1,x.s1,x.z1,0,0,0,x.lo,x.hi⟩) HP.out 7 (.int .i8 x.Z) Zbc rfl)
 refine Z9z ?_;try clear TN;intro TN
 refine Z65 ?_;try clear HR HB;intro HR HB
 clear hb
 generalize (V58).setCell ⟨b,7,none⟩ (.int .i8 x.Z)=V59 at *
 go_wp2_with (first | (refine za4 rfl (.tmp 3) rfl b ⟨7,x.na,0,0,0,0,0,x.Z,0,none,0,0,none,0,0,x.m1,x.s1,x.z1,0,0,0,x.lo,x.hi⟩ rfl HP.out.1 ?_) | (refine zbq rfl (.tmp 2) (.tmp 78) rfl (w.heap.size+1) Nd.zero ⟨7,x.na,0,0,0,0,0,x.Z,0,none,0,0,none,0,0,x.m1,x.s1,x.z1,0,0,0,x.lo,x.hi⟩ rfl rfl HR.out ?_;rintro W2 hp hb1 hs1))
 refine bodyPost_ret (zcf rfl _ _ (w.heap.size+1) ⟨7,x.na,0,0,0,0,0,x.Z,0,none,0,0,none,0,0,x.m1,x.s1,x.z1,0,0,0,x.lo,x.hi⟩ rfl hp.1) rfl ?_
 exact Z1o
theorem own_9 (x:Nd) (hk:x.kd=9) (w:World) :
  Calls Tryz.prog 40 #[.agg x.val] w fun e w'=>e=.returned (.agg (x.ownK 9).val)∧Below w.heap.size w w':=by
 have TN:=hid (NdAt.new x 28 w)
 have HK:=hid hk
 clear hk
 go_enter Tryz.func40,Tryz.ntmps40
 go_upto_region 1 with fail
 refine Z67 ?_;try clear TN;intro HR TN HB HS
 generalize h:(w.alloc (.cells x.val 28)).alloc (.cells Nd.zero.val 28)=W0 at TN HR HB HS
 rw [show (w.alloc (Obj.cells x.val 28)).alloc (Obj.cells #[Jj Jq 0,Jj Jq 0,Jj Jq 0,Jj Jq 0,Jj Jq 0,Jj Jq 0,Jj Jq 0,.int .i8 0,.int .i8 0,.slice none 0 0,.slice none 0 0,.int .i32 0,Jj Jq 0,.int .i8 0,.int .i32 0,Jj Jq 0,.int .i8 0,.int .i8 0,.int .i8 0] 28)=W0 from h]
 clear h
 have q0:W0.cell? ⟨w.heap.size,0,none⟩=some (Jj Jq 9):=TN.out.at 0 _ Zb8
 have q1:=TN.out.at 1 (Jj Jq x.na) rfl
 go_upto_region 2 with (refine zbq rfl (.tmp 3) (.tmp 8) rfl _ Nd.zero ⟨9,x.na,0,0,0,0,0,0,0,none,0,0,none,0,0,0,0,0,0,0,0,0,0⟩ rfl rfl (NdBox.new Nd.zero _ _) ?_;rintro W1 hp hb1 hs1)
 refine Z6f ?_;try clear TN HR HB;intro TN HR HB HP HL
 clear hp hb1 hs1 HS q0 q1
 generalize W0.heap.size=b at *
 clear W0
 have q0:W1.cell? ⟨w.heap.size,0,none⟩=some (Jj Jq 9):=TN.out.at 0 _ Zb8
 go_wp2_with (first | (refine za4 rfl (.tmp 3) rfl b ⟨9,x.na,0,0,0,0,0,0,0,none,0,0,none,0,0,0,0,0,0,0,0,0,0⟩ rfl HP.out.1 ?_) | (refine zbq rfl (.tmp 2) (.tmp 78) rfl (w.heap.size+1) Nd.zero ⟨9,x.na,0,0,0,0,0,0,0,none,0,0,none,0,0,0,0,0,0,0,0,0,0⟩ rfl rfl HR.out ?_;rintro W2 hp hb1 hs1))
 refine bodyPost_ret (zcf rfl _ _ (w.heap.size+1) ⟨9,x.na,0,0,0,0,0,0,0,none,0,0,none,0,0,0,0,0,0,0,0,0,0⟩ rfl hp.1) rfl ?_
 exact Z1o
end CKind
end
end Go.Proofs.YtchpdhhpkljdhaaGreatDoor
