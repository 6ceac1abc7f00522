/- Texts of this seat, one behind the other: RunShapesW. -/
import Derived.Deep.RegionHeld3
import Derived.Deep.CutRange
import Derived.Test.YtkpngknbiecdiaaGreatDoorGB11
import Derived.Test.YtkpngknbiecdiaaGreatDoorGB13
import Derived.Test.YtkpngknbiecdiaaGreatDoorGB51
section
namespace Go.Proofs.YtkpngknbiecdiaaGreatDoor.lawRunShapes
set_option maxRecDepth 100000
open Go Go.ChangeShapes Go.WideShapes Go.ChangeAt Go.RowKit Go.Deep
open Plain CSat CFix CShape CTensor CConv CKind CRun
set_option linter.unusedVariables false
set_option linter.unusedSimpArgs false
set_option maxRecDepth 100000 in
set_option maxHeartbeats 4000000 in
theorem walk_no1 (x:Nd) (H W C:Int) (A:Option Addr) (n c:Nat) (H2 W2 C2:Int) (B:Option Addr) (m d:Nat) (hf:¬ (n≤1024∧x.nW≤2000∧x.nB≤200)) (w:World) (hT:NamesIn w) :
  Calls Tryz.prog 4 #[.agg x.val,.agg #[.int .i64 H,.int .i64 W,.int .i64 C,.slice A n c],.agg #[.int .i64 H2,.int .i64 W2,.int .i64 C2,.slice B m d]] w fun e w'=>e=.returned (.bool true)∧Below w.heap.size w w':=by
 have HF:Hid (∀ w,Calls Tryz.prog 6 #[.agg #[.int .i64 H,.int .i64 W,.int .i64 C,.slice A n c],.agg x.val] w fun e w'=>e=.returned (.bool false)∧Below w.heap.size w w'):=Lib.hid (fun w=>few_no H W C A n c (.int .i64 x.kd) (.int .i64 x.na) (.int .i64 x.nb) (.int .i8 x.Y) (.int .i32 x.m1) (.int .i64 x.s1) (.int .i8 x.z1) (.int .i32 x.m2) (.int .i64 x.s2) (.int .i8 x.z2) (.int .i8 x.lo) (.int .i8 x.hi) x.K x.S x.P x.O x.Z x.WA x.BA x.nW x.cW x.nB x.cB hf w)
 have HT:=Lib.hid hT
 clear hT hf
 go_enter Tryz.func4,Tryz.ntmps4
 go_wp2_with (first
  | (go_at_call 6
     have hal:Below w.heap.size w (((w.alloc (.cells x.val 28)).alloc (.cells #[.int .i64 H,.int .i64 W,.int .i64 C,.slice A n c] 32)).alloc (.cells #[.int .i64 H2,.int .i64 W2,.int .i64 C2,.slice B m d] 32)):=(((Below.refl _ _).alloc (by first | exact Nat.le_refl _ | (simp;done) | (simp;omega)) _).alloc (by first | exact Nat.le_refl _ | (simp;done) | (simp;omega)) _).alloc (by first | exact Nat.le_refl _ | (simp;done) | (simp;omega)) _
     refine (HF.out _).mono ?_
     rintro e w1 ⟨rfl,hb⟩
     have hh:Below w.heap.size w w1:=hal.trans (hb.mono hal.size)
     have qTN:=(NB.new x 28) w
     try simp only [World.size_alloc] at qTN
     have TN:=Lib.hid ((qTN.below (B':=w.heap.size+1) (by omega) ((((Below.refl _ _).alloc (by first | exact Nat.le_refl _ | (simp;done) | (simp;omega)) _).alloc (by first | exact Nat.le_refl _ | (simp;done) | (simp;omega)) _).mono (by simp))).below (by first | (simp;done) | (simp;omega)) hb)
     have yTN:w.heap.size < w1.heap.size:=by have:=hb.size;simp at this;omega
     clear qTN
     have qTA:=(boxNew H W C A n c 32) (w.alloc (.cells x.val 28))
     try simp only [World.size_alloc] at qTA
     have TA:=Lib.hid ((qTA.below (B':=w.heap.size+2) (by omega) (((Below.refl _ _).alloc (by first | exact Nat.le_refl _ | (simp;done) | (simp;omega)) _).mono (by simp))).below (by first | (simp;done) | (simp;omega)) hb)
     have yTA:w.heap.size+1 < w1.heap.size:=by have:=hb.size;simp at this;omega
     clear qTA
     have qTB:=(boxNew H2 W2 C2 B m d 32) ((w.alloc (.cells x.val 28)).alloc (.cells #[.int .i64 H,.int .i64 W,.int .i64 C,.slice A n c] 32))
     try simp only [World.size_alloc] at qTB
     have TB:=Lib.hid (qTB.below (by first | (simp;done) | (simp;omega)) hb)
     have yTB:w.heap.size+2 < w1.heap.size:=by have:=hb.size;simp at this;omega
     clear qTB
     have HBW:Hid (Below w.heap.size w w1):=Lib.hid hh
     obtain⟨tap0,tap1,tap2,tap3⟩:=TA.out
     obtain⟨tbp0,tbp1,tbp2,tbp3⟩:=TB.out
     clear hb hh hal)
  | (go_at_call 7
     have hal:Below w1.heap.size w1 w1:=Below.refl _ _
     refine (known26 _ (HT.out.grown HBW.out)).mono ?_
     rintro e w2 ⟨rfl,hb⟩
     have hh:Below w1.heap.size w1 w2:=hal.trans (hb.mono hal.size)
     replace TN:=Lib.hid (TN.out.below yTN hh)
     replace yTN:=Nat.lt_of_lt_of_le yTN hh.size
     replace TA:=Lib.hid (TA.out.below yTA hh)
     replace yTA:=Nat.lt_of_lt_of_le yTA hh.size
     replace TB:=Lib.hid (TB.out.below yTB hh)
     replace yTB:=Nat.lt_of_lt_of_le yTB hh.size
     replace HBW:=Lib.hid (HBW.out.trans (hh.mono HBW.out.size))
     clear tap0 tap1 tap2 tap3 tbp0 tbp1 tbp2 tbp3
     obtain⟨tap0,tap1,tap2,tap3⟩:=TA.out
     obtain⟨tbp0,tbp1,tbp2,tbp3⟩:=TB.out
     clear hb hh hal)
  | (refine nd_load rfl _ rfl w.heap.size x rfl (show NdAt w.heap.size x _ from (NdAt.new x 28 w).below (B:=w.heap.size+1) (by omega) (((Below.refl _ _).alloc (by simp) _).alloc (by first | exact Nat.le_refl _ | (simp;done) | (simp;omega) | omega) _)) ?_))
 go_ret
 exact⟨rfl,HBW.out⟩
set_option maxRecDepth 100000 in
set_option maxHeartbeats 4000000 in
theorem walk_no2 (x:Nd) (H W C:Int) (A:Option Addr) (n c:Nat) (H2 W2 C2:Int) (B:Option Addr) (m d:Nat) (hf:n≤1024∧x.nW≤2000∧x.nB≤200) (hm:1024 < m) (hm6:m≤maxLen) (w:World) (hT:NamesIn w) :
  Calls Tryz.prog 4 #[.agg x.val,.agg #[.int .i64 H,.int .i64 W,.int .i64 C,.slice A n c],.agg #[.int .i64 H2,.int .i64 W2,.int .i64 C2,.slice B m d]] w fun e w'=>e=.returned (.bool true)∧Below w.heap.size w w':=by
 have HF:Hid (∀ w,Calls Tryz.prog 6 #[.agg #[.int .i64 H,.int .i64 W,.int .i64 C,.slice A n c],.agg x.val] w fun e w'=>e=.returned (.bool true)∧Below w.heap.size w w'):=Lib.hid (fun w=>few_yes H W C A n c (.int .i64 x.kd) (.int .i64 x.na) (.int .i64 x.nb) (.int .i8 x.Y) (.int .i32 x.m1) (.int .i64 x.s1) (.int .i8 x.z1) (.int .i32 x.m2) (.int .i64 x.s2) (.int .i8 x.z2) (.int .i8 x.lo) (.int .i8 x.hi) x.K x.S x.P x.O x.Z x.WA x.BA x.nW x.cW x.nB x.cB hf.1 hf.2.1 hf.2.2 w)
 have HT:=Lib.hid hT
 clear hT hf
 have h1:(1024:Int) < (m:Int):=by omega
 clear hm hm6
 go_enter Tryz.func4,Tryz.ntmps4
 go_wp2_with (first
  | (go_at_call 6
     have hal:Below w.heap.size w (((w.alloc (.cells x.val 28)).alloc (.cells #[.int .i64 H,.int .i64 W,.int .i64 C,.slice A n c] 32)).alloc (.cells #[.int .i64 H2,.int .i64 W2,.int .i64 C2,.slice B m d] 32)):=(((Below.refl _ _).alloc (by first | exact Nat.le_refl _ | (simp;done) | (simp;omega)) _).alloc (by first | exact Nat.le_refl _ | (simp;done) | (simp;omega)) _).alloc (by first | exact Nat.le_refl _ | (simp;done) | (simp;omega)) _
     refine (HF.out _).mono ?_
     rintro e w1 ⟨rfl,hb⟩
     have hh:Below w.heap.size w w1:=hal.trans (hb.mono hal.size)
     have qTN:=(NB.new x 28) w
     try simp only [World.size_alloc] at qTN
     have TN:=Lib.hid ((qTN.below (B':=w.heap.size+1) (by omega) ((((Below.refl _ _).alloc (by first | exact Nat.le_refl _ | (simp;done) | (simp;omega)) _).alloc (by first | exact Nat.le_refl _ | (simp;done) | (simp;omega)) _).mono (by simp))).below (by first | (simp;done) | (simp;omega)) hb)
     have yTN:w.heap.size < w1.heap.size:=by have:=hb.size;simp at this;omega
     clear qTN
     have qTA:=(boxNew H W C A n c 32) (w.alloc (.cells x.val 28))
     try simp only [World.size_alloc] at qTA
     have TA:=Lib.hid ((qTA.below (B':=w.heap.size+2) (by omega) (((Below.refl _ _).alloc (by first | exact Nat.le_refl _ | (simp;done) | (simp;omega)) _).mono (by simp))).below (by first | (simp;done) | (simp;omega)) hb)
     have yTA:w.heap.size+1 < w1.heap.size:=by have:=hb.size;simp at this;omega
     clear qTA
     have qTB:=(boxNew H2 W2 C2 B m d 32) ((w.alloc (.cells x.val 28)).alloc (.cells #[.int .i64 H,.int .i64 W,.int .i64 C,.slice A n c] 32))
     try simp only [World.size_alloc] at qTB
     have TB:=Lib.hid (qTB.below (by first | (simp;done) | (simp;omega)) hb)
     have yTB:w.heap.size+2 < w1.heap.size:=by have:=hb.size;simp at this;omega
     clear qTB
     have HBW:Hid (Below w.heap.size w w1):=Lib.hid hh
     obtain⟨tap0,tap1,tap2,tap3⟩:=TA.out
     obtain⟨tbp0,tbp1,tbp2,tbp3⟩:=TB.out
     clear hb hh hal)
  | (go_at_call 7
     have hal:Below w1.heap.size w1 w1:=Below.refl _ _
     refine (known26 _ (HT.out.grown HBW.out)).mono ?_
     rintro e w2 ⟨rfl,hb⟩
     have hh:Below w1.heap.size w1 w2:=hal.trans (hb.mono hal.size)
     replace TN:=Lib.hid (TN.out.below yTN hh)
     replace yTN:=Nat.lt_of_lt_of_le yTN hh.size
     replace TA:=Lib.hid (TA.out.below yTA hh)
     replace yTA:=Nat.lt_of_lt_of_le yTA hh.size
     replace TB:=Lib.hid (TB.out.below yTB hh)
     replace yTB:=Nat.lt_of_lt_of_le yTB hh.size
     replace HBW:=Lib.hid (HBW.out.trans (hh.mono HBW.out.size))
     clear tap0 tap1 tap2 tap3 tbp0 tbp1 tbp2 tbp3
     obtain⟨tap0,tap1,tap2,tap3⟩:=TA.out
     obtain⟨tbp0,tbp1,tbp2,tbp3⟩:=TB.out
     clear hb hh hal)
  | (refine nd_load rfl _ rfl w.heap.size x rfl (show NdAt w.heap.size x _ from (NdAt.new x 28 w).below (B:=w.heap.size+1) (by omega) (((Below.refl _ _).alloc (by simp) _).alloc (by first | exact Nat.le_refl _ | (simp;done) | (simp;omega) | omega) _)) ?_))
 go_ret
 exact⟨rfl,HBW.out⟩
set_option maxRecDepth 100000 in
set_option maxHeartbeats 4000000 in
theorem walk_err (x:Nd) (H W C:Int) (A:Option Addr) (n c:Nat) (H2 W2 C2:Int) (B:Option Addr) (m d:Nat) (hf:n≤1024∧x.nW≤2000∧x.nB≤200) (hm:m≤1024) (w:World) (zs ys ws bs:List Int) (hM:Mem x A B zs ys ws bs w) (er:Int) (h0:er≠0) (hN:∀ w1,Mem x A B zs ys ws bs w1→Calls Tryz.prog 8 #[.agg x.val,.agg #[.int .i64 H,.int .i64 W,.int .i64 C,.slice A n c],.agg #[.int .i64 H2,.int .i64 W2,.int .i64 C2,.slice B m d]] w1 (CAct.MadeT w1 0 0 0 0 [] (.int .i64 er))) :
  Calls Tryz.prog 4 #[.agg x.val,.agg #[.int .i64 H,.int .i64 W,.int .i64 C,.slice A n c],.agg #[.int .i64 H2,.int .i64 W2,.int .i64 C2,.slice B m d]] w fun e w'=>e=.returned (.bool true)∧Below w.heap.size w w':=by
 have HF:Hid (∀ w,Calls Tryz.prog 6 #[.agg #[.int .i64 H,.int .i64 W,.int .i64 C,.slice A n c],.agg x.val] w fun e w'=>e=.returned (.bool true)∧Below w.heap.size w w'):=Lib.hid (fun w=>few_yes H W C A n c (.int .i64 x.kd) (.int .i64 x.na) (.int .i64 x.nb) (.int .i8 x.Y) (.int .i32 x.m1) (.int .i64 x.s1) (.int .i8 x.z1) (.int .i32 x.m2) (.int .i64 x.s2) (.int .i8 x.z2) (.int .i8 x.lo) (.int .i8 x.hi) x.K x.S x.P x.O x.Z x.WA x.BA x.nW x.cW x.nB x.cB hf.1 hf.2.1 hf.2.2 w)
 have HT:=Lib.hid hM.2.2.2.2
 have HM:=Lib.hid hM
 have h1:¬ (1024:Int) < (m:Int):=by omega
 clear hM hf hm
 have HN:=Lib.hid hN
 obtain⟨u0,u1,u2,hsv⟩:=x.sh_three H W C H2 W2 C2
 obtain⟨e,hse⟩:∃ e,x.shE H W C H2 W2 C2=e:=⟨_,rfl⟩
 have HS:Hid (∀ w:World,Calls Tryz.prog 14 #[.agg x.val,.agg #[.int .i64 H,.int .i64 W,.int .i64 C],.agg #[.int .i64 H2,.int .i64 W2,.int .i64 C2]] w fun r w'=>r=.returned (.tuple #[.agg #[.int .i64 u0,.int .i64 u1,.int .i64 u2],.int .i64 e])∧Below w.heap.size w w'):=Lib.hid (fun w=>refShape_to x H W C H2 W2 C2 e u0 u1 u2 hse hsv w)
 have d1:(er != 0)=true:=by simpa using h0
 have d2:(er == 0)=false:=by simpa using h0
 clear hN hsv hse h0
 go_enter Tryz.func4,Tryz.ntmps4
 go_wp2_with (first
  | (go_at_call 6
     have hal:Below w.heap.size w (((w.alloc (.cells x.val 28)).alloc (.cells #[.int .i64 H,.int .i64 W,.int .i64 C,.slice A n c] 32)).alloc (.cells #[.int .i64 H2,.int .i64 W2,.int .i64 C2,.slice B m d] 32)):=(((Below.refl _ _).alloc (by first | exact Nat.le_refl _ | (simp;done) | (simp;omega)) _).alloc (by first | exact Nat.le_refl _ | (simp;done) | (simp;omega)) _).alloc (by first | exact Nat.le_refl _ | (simp;done) | (simp;omega)) _
     refine (HF.out _).mono ?_
     rintro e w1 ⟨rfl,hb⟩
     have hh:Below w.heap.size w w1:=hal.trans (hb.mono hal.size)
     have qTN:=(NB.new x 28) w
     try simp only [World.size_alloc] at qTN
     have TN:=Lib.hid ((qTN.below (B':=w.heap.size+1) (by omega) ((((Below.refl _ _).alloc (by first | exact Nat.le_refl _ | (simp;done) | (simp;omega)) _).alloc (by first | exact Nat.le_refl _ | (simp;done) | (simp;omega)) _).mono (by simp))).below (by first | (simp;done) | (simp;omega)) hb)
     have yTN:w.heap.size < w1.heap.size:=by have:=hb.size;simp at this;omega
     clear qTN
     have qTA:=(boxNew H W C A n c 32) (w.alloc (.cells x.val 28))
     try simp only [World.size_alloc] at qTA
     have TA:=Lib.hid ((qTA.below (B':=w.heap.size+2) (by omega) (((Below.refl _ _).alloc (by first | exact Nat.le_refl _ | (simp;done) | (simp;omega)) _).mono (by simp))).below (by first | (simp;done) | (simp;omega)) hb)
     have yTA:w.heap.size+1 < w1.heap.size:=by have:=hb.size;simp at this;omega
     clear qTA
     have qTB:=(boxNew H2 W2 C2 B m d 32) ((w.alloc (.cells x.val 28)).alloc (.cells #[.int .i64 H,.int .i64 W,.int .i64 C,.slice A n c] 32))
     try simp only [World.size_alloc] at qTB
     have TB:=Lib.hid (qTB.below (by first | (simp;done) | (simp;omega)) hb)
     have yTB:w.heap.size+2 < w1.heap.size:=by have:=hb.size;simp at this;omega
     clear qTB
     have HBW:Hid (Below w.heap.size w w1):=Lib.hid hh
     obtain⟨tap0,tap1,tap2,tap3⟩:=TA.out
     obtain⟨tbp0,tbp1,tbp2,tbp3⟩:=TB.out
     clear hb hh hal)
  | (go_at_call 8
     have hal:Below w1.heap.size w1 w1:=Below.refl _ _
     refine (HN.out _ (HM.out.grown (HBW.out.trans (hal.mono HBW.out.size)))).mono ?_
     rintro e w2 ⟨v2,rfl,ho2,hb⟩
     have hh:Below w1.heap.size w1 w2:=hal.trans (hb.mono hal.size)
     replace TN:=Lib.hid (TN.out.below yTN hh)
     replace yTN:=Nat.lt_of_lt_of_le yTN hh.size
     replace TA:=Lib.hid (TA.out.below yTA hh)
     replace yTA:=Nat.lt_of_lt_of_le yTA hh.size
     replace TB:=Lib.hid (TB.out.below yTB hh)
     replace yTB:=Nat.lt_of_lt_of_le yTB hh.size
     replace HBW:=Lib.hid (HBW.out.trans (hh.mono HBW.out.size))
     clear tap0 tap1 tap2 tap3 tbp0 tbp1 tbp2 tbp3
     obtain⟨A2,c2,rfl, -, -,hrd2⟩:=Kit.own_rd ho2
     have RA2:=Lib.hid hrd2
     clear ho2 hrd2
     obtain⟨tap0,tap1,tap2,tap3⟩:=TA.out
     obtain⟨tbp0,tbp1,tbp2,tbp3⟩:=TB.out
     clear hb hh hal)
  | (go_at_call 14
     have hal:Below w2.heap.size w2 (w2.alloc (.cells #[.int .i64 0,.int .i64 0,.int .i64 0,.slice A2 0 c2] 32)):=(Below.refl _ _).alloc (by first | exact Nat.le_refl _ | (simp;done) | (simp;omega)) _
     refine (HS.out _).mono ?_
     rintro e w3 ⟨rfl,hb⟩
     have hh:Below w2.heap.size w2 w3:=hal.trans (hb.mono hal.size)
     have qT1:=(boxNew 0 0 0 A2 0 c2 32) w2
     try simp only [World.size_alloc] at qT1
     have T1:=Lib.hid (qT1.below (by first | (simp;done) | (simp;omega)) hb)
     have yT1:w2.heap.size < w3.heap.size:=by have:=hb.size;simp at this;omega
     clear qT1
     replace TN:=Lib.hid (TN.out.below yTN hh)
     replace yTN:=Nat.lt_of_lt_of_le yTN hh.size
     replace TA:=Lib.hid (TA.out.below yTA hh)
     replace yTA:=Nat.lt_of_lt_of_le yTA hh.size
     replace TB:=Lib.hid (TB.out.below yTB hh)
     replace yTB:=Nat.lt_of_lt_of_le yTB hh.size
     replace RA2:=Lib.hid ((RA2.out.below hh).more hh.size)
     replace HBW:=Lib.hid (HBW.out.trans (hh.mono HBW.out.size))
     clear tap0 tap1 tap2 tap3 tbp0 tbp1 tbp2 tbp3
     obtain⟨tap0,tap1,tap2,tap3⟩:=TA.out
     obtain⟨tbp0,tbp1,tbp2,tbp3⟩:=TB.out
     obtain⟨t1p0,t1p1,t1p2,t1p3⟩:=T1.out
     clear hb hh hal)
  | (go_at_call 12
     have hal:Below w3.heap.size w3 (w3.alloc (.cells #[.int .i64 u0,.int .i64 u1,.int .i64 u2] 30)):=(Below.refl _ _).alloc (by first | exact Nat.le_refl _ | (simp;done) | (simp;omega)) _
     refine (refSame_to 0 0 0 A2 none [] [] 0 c2 0 rfl rfl (by omega) true (by simp) _ hal.size (Nat.zero_le _) (RA2.out.below hal) Kit.Rd.nil).mono ?_
     rintro e w4 ⟨rfl,hb⟩
     have hh:Below w3.heap.size w3 w4:=hal.trans (hb.mono hal.size)
     have qT2:=(shapeNew u0 u1 u2 30) w3
     try simp only [World.size_alloc] at qT2
     have T2:=Lib.hid (qT2.below (by first | (simp;done) | (simp;omega)) hb)
     have yT2:w3.heap.size < w4.heap.size:=by have:=hb.size;simp at this;omega
     clear qT2
     replace TN:=Lib.hid (TN.out.below yTN hh)
     replace yTN:=Nat.lt_of_lt_of_le yTN hh.size
     replace TA:=Lib.hid (TA.out.below yTA hh)
     replace yTA:=Nat.lt_of_lt_of_le yTA hh.size
     replace TB:=Lib.hid (TB.out.below yTB hh)
     replace yTB:=Nat.lt_of_lt_of_le yTB hh.size
     replace T1:=Lib.hid (T1.out.below yT1 hh)
     replace yT1:=Nat.lt_of_lt_of_le yT1 hh.size
     replace RA2:=Lib.hid ((RA2.out.below hh).more hh.size)
     replace HBW:=Lib.hid (HBW.out.trans (hh.mono HBW.out.size))
     clear tap0 tap1 tap2 tap3 tbp0 tbp1 tbp2 tbp3 t1p0 t1p1 t1p2 t1p3
     obtain⟨tap0,tap1,tap2,tap3⟩:=TA.out
     obtain⟨tbp0,tbp1,tbp2,tbp3⟩:=TB.out
     obtain⟨t1p0,t1p1,t1p2,t1p3⟩:=T1.out
     obtain⟨t2p0,t2p1,t2p2⟩:=T2.out
     clear hb hh hal)
  | (go_at_call 7
     have hal:Below w4.heap.size w4 w4:=Below.refl _ _
     refine (known26 _ (HT.out.grown HBW.out)).mono ?_
     rintro e w5 ⟨rfl,hb⟩
     have hh:Below w4.heap.size w4 w5:=hal.trans (hb.mono hal.size)
     replace TN:=Lib.hid (TN.out.below yTN hh)
     replace yTN:=Nat.lt_of_lt_of_le yTN hh.size
     replace TA:=Lib.hid (TA.out.below yTA hh)
     replace yTA:=Nat.lt_of_lt_of_le yTA hh.size
     replace TB:=Lib.hid (TB.out.below yTB hh)
     replace yTB:=Nat.lt_of_lt_of_le yTB hh.size
     replace T1:=Lib.hid (T1.out.below yT1 hh)
     replace yT1:=Nat.lt_of_lt_of_le yT1 hh.size
     replace T2:=Lib.hid (T2.out.below yT2 hh)
     replace yT2:=Nat.lt_of_lt_of_le yT2 hh.size
     replace RA2:=Lib.hid ((RA2.out.below hh).more hh.size)
     replace HBW:=Lib.hid (HBW.out.trans (hh.mono HBW.out.size))
     clear tap0 tap1 tap2 tap3 tbp0 tbp1 tbp2 tbp3 t1p0 t1p1 t1p2 t1p3 t2p0 t2p1 t2p2
     obtain⟨tap0,tap1,tap2,tap3⟩:=TA.out
     obtain⟨tbp0,tbp1,tbp2,tbp3⟩:=TB.out
     obtain⟨t1p0,t1p1,t1p2,t1p3⟩:=T1.out
     obtain⟨t2p0,t2p1,t2p2⟩:=T2.out
     clear hb hh hal)
  | (refine nd_load rfl _ rfl w.heap.size x rfl (show NdAt w.heap.size x _ from (NdAt.new x 28 w).below (B:=w.heap.size+1) (by omega) (((Below.refl _ _).alloc (by simp) _).alloc (by first | exact Nat.le_refl _ | (simp;done) | (simp;omega) | omega) _)) ?_)
  | (refine nd_load rfl _ rfl w.heap.size x rfl TN.out ?_)
  | (refine nd_load rfl _ rfl w.heap.size x rfl (TN.out.below yTN ((Below.refl _ _).alloc (Nat.le_refl _) _)) ?_))
 go_ret
 exact⟨by simp,HBW.out⟩
set_option maxRecDepth 100000 in
set_option maxHeartbeats 4000000 in
theorem walk_ok (x:Nd) (H W C:Int) (A:Option Addr) (n c:Nat) (H2 W2 C2:Int) (B:Option Addr) (m d:Nat) (hf:n≤1024∧x.nW≤2000∧x.nB≤200) (hm:m≤1024) (w:World) (zs ys ws bs:List Int) (hM:Mem x A B zs ys ws bs w) (X V U:Int) (k:Nat) (xs:List Int) (hk6:k≤1000000) (htt:tensB X V U k=true) (hse:x.shE H W C H2 W2 C2=0) (hsv:x.shV H W C H2 W2 C2=#[.int .i64 X,.int .i64 V,.int .i64 U]) (hN:∀ w1,Mem x A B zs ys ws bs w1→Calls Tryz.prog 8 #[.agg x.val,.agg #[.int .i64 H,.int .i64 W,.int .i64 C,.slice A n c],.agg #[.int .i64 H2,.int .i64 W2,.int .i64 C2,.slice B m d]] w1 (CAct.MadeT w1 X V U k xs (.int .i64 0))) :
  Calls Tryz.prog 4 #[.agg x.val,.agg #[.int .i64 H,.int .i64 W,.int .i64 C,.slice A n c],.agg #[.int .i64 H2,.int .i64 W2,.int .i64 C2,.slice B m d]] w fun e w'=>e=.returned (.bool true)∧Below w.heap.size w w':=by
 have HF:Hid (∀ w,Calls Tryz.prog 6 #[.agg #[.int .i64 H,.int .i64 W,.int .i64 C,.slice A n c],.agg x.val] w fun e w'=>e=.returned (.bool true)∧Below w.heap.size w w'):=Lib.hid (fun w=>few_yes H W C A n c (.int .i64 x.kd) (.int .i64 x.na) (.int .i64 x.nb) (.int .i8 x.Y) (.int .i32 x.m1) (.int .i64 x.s1) (.int .i8 x.z1) (.int .i32 x.m2) (.int .i64 x.s2) (.int .i8 x.z2) (.int .i8 x.lo) (.int .i8 x.hi) x.K x.S x.P x.O x.Z x.WA x.BA x.nW x.cW x.nB x.cB hf.1 hf.2.1 hf.2.2 w)
 have HT:=Lib.hid hM.2.2.2.2
 have HM:=Lib.hid hM
 have h1:¬ (1024:Int) < (m:Int):=by omega
 clear hM hf hm
 have HN:=Lib.hid hN
 have HTT:=Lib.hid htt
 have HS:Hid (∀ w:World,Calls Tryz.prog 14 #[.agg x.val,.agg #[.int .i64 H,.int .i64 W,.int .i64 C],.agg #[.int .i64 H2,.int .i64 W2,.int .i64 C2]] w fun r w'=>r=.returned (.tuple #[.agg #[.int .i64 X,.int .i64 V,.int .i64 U],.int .i64 0])∧Below w.heap.size w w'):=Lib.hid (fun w=>refShape_to x H W C H2 W2 C2 0 X V U hse hsv w)
 have HQ:=eqShape X V U X V U
 have hg:=Tryz.eqGuardType30
 clear hN hsv hse htt
 go_enter Tryz.func4,Tryz.ntmps4
 go_wp2_with (first
  | (go_at_call 6
     have hal:Below w.heap.size w (((w.alloc (.cells x.val 28)).alloc (.cells #[.int .i64 H,.int .i64 W,.int .i64 C,.slice A n c] 32)).alloc (.cells #[.int .i64 H2,.int .i64 W2,.int .i64 C2,.slice B m d] 32)):=(((Below.refl _ _).alloc (by first | exact Nat.le_refl _ | (simp;done) | (simp;omega)) _).alloc (by first | exact Nat.le_refl _ | (simp;done) | (simp;omega)) _).alloc (by first | exact Nat.le_refl _ | (simp;done) | (simp;omega)) _
     refine (HF.out _).mono ?_
     rintro e w1 ⟨rfl,hb⟩
     have hh:Below w.heap.size w w1:=hal.trans (hb.mono hal.size)
     have qTN:=(NB.new x 28) w
     try simp only [World.size_alloc] at qTN
     have TN:=Lib.hid ((qTN.below (B':=w.heap.size+1) (by omega) ((((Below.refl _ _).alloc (by first | exact Nat.le_refl _ | (simp;done) | (simp;omega)) _).alloc (by first | exact Nat.le_refl _ | (simp;done) | (simp;omega)) _).mono (by simp))).below (by first | (simp;done) | (simp;omega)) hb)
     have yTN:w.heap.size < w1.heap.size:=by have:=hb.size;simp at this;omega
     clear qTN
     have qTA:=(boxNew H W C A n c 32) (w.alloc (.cells x.val 28))
     try simp only [World.size_alloc] at qTA
     have TA:=Lib.hid ((qTA.below (B':=w.heap.size+2) (by omega) (((Below.refl _ _).alloc (by first | exact Nat.le_refl _ | (simp;done) | (simp;omega)) _).mono (by simp))).below (by first | (simp;done) | (simp;omega)) hb)
     have yTA:w.heap.size+1 < w1.heap.size:=by have:=hb.size;simp at this;omega
     clear qTA
     have qTB:=(boxNew H2 W2 C2 B m d 32) ((w.alloc (.cells x.val 28)).alloc (.cells #[.int .i64 H,.int .i64 W,.int .i64 C,.slice A n c] 32))
     try simp only [World.size_alloc] at qTB
     have TB:=Lib.hid (qTB.below (by first | (simp;done) | (simp;omega)) hb)
     have yTB:w.heap.size+2 < w1.heap.size:=by have:=hb.size;simp at this;omega
     clear qTB
     have HBW:Hid (Below w.heap.size w w1):=Lib.hid hh
     obtain⟨tap0,tap1,tap2,tap3⟩:=TA.out
     obtain⟨tbp0,tbp1,tbp2,tbp3⟩:=TB.out
     clear hb hh hal)
  | (go_at_call 8
     have hal:Below w1.heap.size w1 w1:=Below.refl _ _
     refine (HN.out _ (HM.out.grown (HBW.out.trans (hal.mono HBW.out.size)))).mono ?_
     rintro e w2 ⟨v2,rfl,ho2,hb⟩
     have hh:Below w1.heap.size w1 w2:=hal.trans (hb.mono hal.size)
     replace TN:=Lib.hid (TN.out.below yTN hh)
     replace yTN:=Nat.lt_of_lt_of_le yTN hh.size
     replace TA:=Lib.hid (TA.out.below yTA hh)
     replace yTA:=Nat.lt_of_lt_of_le yTA hh.size
     replace TB:=Lib.hid (TB.out.below yTB hh)
     replace yTB:=Nat.lt_of_lt_of_le yTB hh.size
     replace HBW:=Lib.hid (HBW.out.trans (hh.mono HBW.out.size))
     clear tap0 tap1 tap2 tap3 tbp0 tbp1 tbp2 tbp3
     obtain⟨A2,c2,rfl, -, -,hrd2⟩:=Kit.own_rd ho2
     have RA2:=Lib.hid hrd2
     clear ho2 hrd2
     obtain⟨tap0,tap1,tap2,tap3⟩:=TA.out
     obtain⟨tbp0,tbp1,tbp2,tbp3⟩:=TB.out
     clear hb hh hal)
  | (go_at_call 14
     have hal:Below w2.heap.size w2 (w2.alloc (.cells #[.int .i64 X,.int .i64 V,.int .i64 U,.slice A2 k c2] 32)):=(Below.refl _ _).alloc (by first | exact Nat.le_refl _ | (simp;done) | (simp;omega)) _
     refine (HS.out _).mono ?_
     rintro e w3 ⟨rfl,hb⟩
     have hh:Below w2.heap.size w2 w3:=hal.trans (hb.mono hal.size)
     have qT1:=(boxNew X V U A2 k c2 32) w2
     try simp only [World.size_alloc] at qT1
     have T1:=Lib.hid (qT1.below (by first | (simp;done) | (simp;omega)) hb)
     have yT1:w2.heap.size < w3.heap.size:=by have:=hb.size;simp at this;omega
     clear qT1
     replace TN:=Lib.hid (TN.out.below yTN hh)
     replace yTN:=Nat.lt_of_lt_of_le yTN hh.size
     replace TA:=Lib.hid (TA.out.below yTA hh)
     replace yTA:=Nat.lt_of_lt_of_le yTA hh.size
     replace TB:=Lib.hid (TB.out.below yTB hh)
     replace yTB:=Nat.lt_of_lt_of_le yTB hh.size
     replace RA2:=Lib.hid ((RA2.out.below hh).more hh.size)
     replace HBW:=Lib.hid (HBW.out.trans (hh.mono HBW.out.size))
     clear tap0 tap1 tap2 tap3 tbp0 tbp1 tbp2 tbp3
     obtain⟨tap0,tap1,tap2,tap3⟩:=TA.out
     obtain⟨tbp0,tbp1,tbp2,tbp3⟩:=TB.out
     obtain⟨t1p0,t1p1,t1p2,t1p3⟩:=T1.out
     clear hb hh hal)
  | (go_at_call 15
     have hal:Below w3.heap.size w3 (w3.alloc (.cells #[.int .i64 X,.int .i64 V,.int .i64 U] 30)):=(Below.refl _ _).alloc (by first | exact Nat.le_refl _ | (simp;done) | (simp;omega)) _
     refine (refRight_to X V U A2 k c2 true HTT.out _).mono ?_
     rintro e w4 ⟨rfl,hb⟩
     have hh:Below w3.heap.size w3 w4:=hal.trans (hb.mono hal.size)
     have qT2:=(shapeNew X V U 30) w3
     try simp only [World.size_alloc] at qT2
     have T2:=Lib.hid (qT2.below (by first | (simp;done) | (simp;omega)) hb)
     have yT2:w3.heap.size < w4.heap.size:=by have:=hb.size;simp at this;omega
     clear qT2
     replace TN:=Lib.hid (TN.out.below yTN hh)
     replace yTN:=Nat.lt_of_lt_of_le yTN hh.size
     replace TA:=Lib.hid (TA.out.below yTA hh)
     replace yTA:=Nat.lt_of_lt_of_le yTA hh.size
     replace TB:=Lib.hid (TB.out.below yTB hh)
     replace yTB:=Nat.lt_of_lt_of_le yTB hh.size
     replace T1:=Lib.hid (T1.out.below yT1 hh)
     replace yT1:=Nat.lt_of_lt_of_le yT1 hh.size
     replace RA2:=Lib.hid ((RA2.out.below hh).more hh.size)
     replace HBW:=Lib.hid (HBW.out.trans (hh.mono HBW.out.size))
     clear tap0 tap1 tap2 tap3 tbp0 tbp1 tbp2 tbp3 t1p0 t1p1 t1p2 t1p3
     obtain⟨tap0,tap1,tap2,tap3⟩:=TA.out
     obtain⟨tbp0,tbp1,tbp2,tbp3⟩:=TB.out
     obtain⟨t1p0,t1p1,t1p2,t1p3⟩:=T1.out
     obtain⟨t2p0,t2p1,t2p2⟩:=T2.out
     clear hb hh hal)
  | (go_at_call 7
     have hal:Below w4.heap.size w4 w4:=Below.refl _ _
     refine (known26 _ (HT.out.grown HBW.out)).mono ?_
     rintro e w5 ⟨rfl,hb⟩
     have hh:Below w4.heap.size w4 w5:=hal.trans (hb.mono hal.size)
     replace TN:=Lib.hid (TN.out.below yTN hh)
     replace yTN:=Nat.lt_of_lt_of_le yTN hh.size
     replace TA:=Lib.hid (TA.out.below yTA hh)
     replace yTA:=Nat.lt_of_lt_of_le yTA hh.size
     replace TB:=Lib.hid (TB.out.below yTB hh)
     replace yTB:=Nat.lt_of_lt_of_le yTB hh.size
     replace T1:=Lib.hid (T1.out.below yT1 hh)
     replace yT1:=Nat.lt_of_lt_of_le yT1 hh.size
     replace T2:=Lib.hid (T2.out.below yT2 hh)
     replace yT2:=Nat.lt_of_lt_of_le yT2 hh.size
     replace RA2:=Lib.hid ((RA2.out.below hh).more hh.size)
     replace HBW:=Lib.hid (HBW.out.trans (hh.mono HBW.out.size))
     clear tap0 tap1 tap2 tap3 tbp0 tbp1 tbp2 tbp3 t1p0 t1p1 t1p2 t1p3 t2p0 t2p1 t2p2
     obtain⟨tap0,tap1,tap2,tap3⟩:=TA.out
     obtain⟨tbp0,tbp1,tbp2,tbp3⟩:=TB.out
     obtain⟨t1p0,t1p1,t1p2,t1p3⟩:=T1.out
     obtain⟨t2p0,t2p1,t2p2⟩:=T2.out
     clear hb hh hal)
  | (refine nd_load rfl _ rfl w.heap.size x rfl (show NdAt w.heap.size x _ from (NdAt.new x 28 w).below (B:=w.heap.size+1) (by omega) (((Below.refl _ _).alloc (by simp) _).alloc (by first | exact Nat.le_refl _ | (simp;done) | (simp;omega) | omega) _)) ?_)
  | (refine nd_load rfl _ rfl w.heap.size x rfl TN.out ?_)
  | (refine nd_load rfl _ rfl w.heap.size x rfl (TN.out.below yTN ((Below.refl _ _).alloc (Nat.le_refl _) _)) ?_))
 go_ret
 exact⟨by simp,HBW.out⟩
end Go.Proofs.YtkpngknbiecdiaaGreatDoor.lawRunShapes
end
