/- -/
import Derived.Test.YtfgdfignoakkaaaGreatDoorGBT7
open Go.Lib (hid)
open Nat (le_refl lt_of_succ_lt lt_succ_self)
set_option linter.unusedVariables false
set_option linter.unusedSimpArgs false
set_option maxRecDepth 100000
set_option maxHeartbeats 16000000
namespace Go.Proofs.YtfgdfignoakkaaaGreatDoor
namespace CConv
end CConv
namespace CSat
end CSat
namespace CShape
end CShape
namespace CTensor
end CTensor
open Go Go.ChangeShapes Go.WideShapes Go.ChangeAt Go.RowKit Go.Deep
section
namespace CKind
open Plain CSat CShape CTensor CConv
theorem own_2 (x:Nd) (hk:x.kd=2) (w:World) :
  Calls Tryz.prog 160 #[.agg x.val] w fun e w'=>e=.returned (.agg (x.ownK 2).val)∧Below w.heap.size w w':=by
 have TN:=hid (NdAt.new x 54 w)
 have HK:=hid hk
 clear hk
 go_enter Tryz.func160,Tryz.ntmps160
 go_upto_region 1 with fail
 have HR:Hid (NdBox (w.heap.size+1) Nd.zero ((w.alloc (.cells x.val 54)).alloc (.cells Nd.zero.val 54))):=hid (by have:=NdBox.new Nd.zero 54 (w.alloc (.cells x.val 54));rwa [World.size_alloc] at this)
 replace TN:=hid (TN.out.below (B:=w.heap.size+1) (lt_succ_self _) ((Below.refl _ _).alloc (by simp) (.cells Nd.zero.val 54)))
 have HB:=hid (((Below.refl w.heap.size w).alloc (le_refl _) (.cells x.val 54)).alloc (by simp) (.cells Nd.zero.val 54))
 have HS:Hid (((w.alloc (.cells x.val 54)).alloc (.cells Nd.zero.val 54)).heap.size=w.heap.size+2):=hid (by simp)
 generalize h:(w.alloc (.cells x.val 54)).alloc (.cells Nd.zero.val 54)=W0 at TN HR HB HS
 rw [show (w.alloc (Obj.cells x.val 54)).alloc (Obj.cells #[.int .i64 0,.int .i64 0,.int .i64 0,.int .i64 0,.int .i64 0,.int .i64 0,.int .i64 0,.int .i8 0,.int .i8 0,.slice none 0 0,.slice none 0 0,.int .i32 0,.int .i64 0,.int .i8 0,.int .i32 0,.int .i64 0,.int .i8 0,.int .i8 0,.int .i8 0] 54)=W0 from h]
 clear h
 have q0:W0.cell? ⟨w.heap.size,0,none⟩=some (.int .i64 2):=TN.out.at 0 _ (by show some (Value.int .i64 x.kd)=_;rw [HK.out])
 have q1:=TN.out.at 1 (.int .i64 x.na) rfl
 go_upto_region 2 with (refine zaq rfl (.tmp 3) (.tmp 8) rfl _ Nd.zero ⟨2,x.na,0,0,0,0,0,0,0,none,0,0,none,0,0,0,0,0,0,0,0,0,0⟩ rfl rfl (NdBox.new Nd.zero _ _) ?_;rintro W1 hp hb1 hs1)
 replace TN:=hid (TN.out.below (by rw [HS.out];omega) (((Below.refl _ _).alloc (le_refl _) _).trans hb1))
 replace HR:=hid (HR.out.below (by rw [HS.out];omega) (((Below.refl _ _).alloc (le_refl _) _).trans hb1))
 replace HB:=hid (HB.out.trans ((((Below.refl _ _).alloc (le_refl _) _).trans hb1).mono (by rw [HS.out];omega)))
 have HP:=hid hp
 have HL:Hid (w.heap.size+1 < W0.heap.size):=hid (by rw [HS.out];omega)
 clear hp hb1 hs1 HS q0 q1
 generalize W0.heap.size=b at *
 clear W0
 have q0:W1.cell? ⟨w.heap.size,0,none⟩=some (.int .i64 2):=TN.out.at 0 _ (by show some (Value.int .i64 x.kd)=_;rw [HK.out])
 go_upto_region 10 with fail
 clear q0
 have hb:=(Below.refl b W1).drew
 replace HP:=hid (HP.out.below (lt_succ_self b) (Below.refl (b+1) W1).drew)
 replace HR:=hid (HR.out.below HL.out hb)
 replace HB:=hid (HB.out.trans (hb.mono (Nat.le_of_lt (lt_of_succ_lt HL.out))))
 refine wp_region_held_drew (S:=NdAt w.heap.size x) (by kernel_rfl) (TN.out.below (lt_of_succ_lt HL.out) hb) (fun hHeld=>?_)
 clear hb TN
 generalize W1.drew=V30 at *
 refine Tk.x 0 rfl ?_
 try simp only [Tk.put]
 refine Tk.y 1 (v:=(.slice x.WA x.nW x.cW)) rfl ?_ ?_
 ·intro wS hSw
  have q:=hSw.at 9 (.slice x.WA x.nW x.cW) rfl
  first | (go_simp;done) | (go_simp;with_reducible rfl)
 try simp only [Tk.put]
 refine Tk.x 2 rfl ?_
 try simp only [Tk.put]
 refine Tk.y 3 (v:=(.slice x.BA x.nB x.cB)) rfl ?_ ?_
 ·intro wS hSw
  have q:=hSw.at 10 (.slice x.BA x.nB x.cB) rfl
  first | (go_simp;done) | (go_simp;with_reducible rfl)
 try simp only [Tk.put]
 refine Tk.x 4 rfl ?_
 try simp only [Tk.put]
 refine Tk.s 5 rfl (fun Kq hK=>?_)
 have c9:=HP.out.1.at 9 _ rfl
 have f9:=HP.out.fr 9 (by decide)
 go_simp
 clear c9 f9
 have hS2:=hHeld.below (lt_of_succ_lt HL.out) ((Below.refl b V30).setCell (p:=⟨b,9,none⟩) (le_refl _) (.slice x.WA x.nW x.cW))
 clear hHeld
 have hb:=((Below.refl b V30).setCell (p:=⟨b,9,none⟩) (le_refl _) (.slice x.WA x.nW x.cW))
 replace HP:=hid (NdBox.set (y:=⟨2,x.na,0,0,0,0,0,0,0,x.WA,x.nW,x.cW,none,0,0,0,0,0,0,0,0,0,0⟩) HP.out 9 (.slice x.WA x.nW x.cW) (by decide) rfl)
 replace HR:=hid (HR.out.below HL.out hb)
 replace HB:=hid (HB.out.trans (hb.mono (Nat.le_of_lt (lt_of_succ_lt HL.out))))
 clear hb
 generalize (V30).setCell ⟨b,9,none⟩ (.slice x.WA x.nW x.cW)=V31 at *
 refine hK.out _ _ hS2 (fun hHeld=>?_)
 clear hK Kq hS2
 try simp only [Tk.put]
 refine Tk.x 6 rfl ?_
 try simp only [Tk.put]
 refine Tk.s 7 rfl (fun Kq hK=>?_)
 have c10:=HP.out.1.at 10 _ rfl
 have f10:=HP.out.fr 10 (by decide)
 go_simp
 clear c10 f10
 have hS2:=hHeld.below (lt_of_succ_lt HL.out) ((Below.refl b V31).setCell (p:=⟨b,10,none⟩) (le_refl _) (.slice x.BA x.nB x.cB))
 clear hHeld
 have hb:=((Below.refl b V31).setCell (p:=⟨b,10,none⟩) (le_refl _) (.slice x.BA x.nB x.cB))
 replace HP:=hid (NdBox.set (y:=⟨2,x.na,0,0,0,0,0,0,0,x.WA,x.nW,x.cW,x.BA,x.nB,x.cB,0,0,0,0,0,0,0,0⟩) HP.out 10 (.slice x.BA x.nB x.cB) (by decide) rfl)
 replace HR:=hid (HR.out.below HL.out hb)
 replace HB:=hid (HB.out.trans (hb.mono (Nat.le_of_lt (lt_of_succ_lt HL.out))))
 clear hb
 generalize (V31).setCell ⟨b,10,none⟩ (.slice x.BA x.nB x.cB)=V32 at *
 refine hK.out _ _ hS2 (fun hHeld=>?_)
 clear hK Kq hS2
 try simp only [Tk.put]
 refine wpAnyH_done (by kernel_rfl) ?_ _
 have TN:=hid hHeld
 clear hHeld
 have q0:V32.cell? ⟨w.heap.size,0,none⟩=some (.int .i64 2):=TN.out.at 0 _ (by show some (Value.int .i64 x.kd)=_;rw [HK.out])
 go_upto_region 11 with fail
 clear q0
 have hb:=(Below.refl b V32).drew
 replace HP:=hid (HP.out.below (lt_succ_self b) (Below.refl (b+1) V32).drew)
 replace HR:=hid (HR.out.below HL.out hb)
 replace HB:=hid (HB.out.trans (hb.mono (Nat.le_of_lt (lt_of_succ_lt HL.out))))
 refine wp_region_held_drew (S:=NdAt w.heap.size x) (by kernel_rfl) (TN.out.below (lt_of_succ_lt HL.out) hb) (fun hHeld=>?_)
 clear hb TN
 generalize V32.drew=V33 at *
 refine Tk.x 0 rfl ?_
 try simp only [Tk.put]
 refine Tk.y 1 (v:=.agg #[.int .i32 x.m1,.int .i64 x.s1,.int .i8 x.z1]) rfl ?_ ?_
 ·intro wS hSw
  have q:=hSw.at 11 (.int .i32 x.m1) rfl
  have q2:=hSw.at 12 (.int .i64 x.s1) rfl
  have q3:=hSw.at 13 (.int .i8 x.z1) rfl
  first | (go_simp;done) | (go_simp;with_reducible rfl)
 try simp only [Tk.put]
 refine Tk.x 2 rfl ?_
 try simp only [Tk.put]
 refine Tk.y 3 (v:=(.int .i8 x.lo)) rfl ?_ ?_
 ·intro wS hSw
  have q:=hSw.at 17 (.int .i8 x.lo) rfl
  first | (go_simp;done) | (go_simp;with_reducible rfl)
 try simp only [Tk.put]
 refine Tk.x 4 rfl ?_
 try simp only [Tk.put]
 refine Tk.y 5 (v:=(.int .i8 x.hi)) rfl ?_ ?_
 ·intro wS hSw
  have q:=hSw.at 18 (.int .i8 x.hi) rfl
  first | (go_simp;done) | (go_simp;with_reducible rfl)
 try simp only [Tk.put]
 refine Tk.x 6 rfl ?_
 try simp only [Tk.put]
 refine Tk.s 7 rfl (fun Kq hK=>?_)
 have c11:=HP.out.1.at 11 _ rfl
 have f11:=HP.out.fr 11 (by decide)
 have c12:=HP.out.1.at 12 _ rfl
 have f12:=HP.out.fr 12 (by decide)
 have c13:=HP.out.1.at 13 _ rfl
 have f13:=HP.out.fr 13 (by decide)
 go_simp
 clear c11 f11 c12 f12 c13 f13
 have hS2:=hHeld.below (lt_of_succ_lt HL.out) ((((Below.refl b V33).setCell (p:=⟨b,11,none⟩) (le_refl _) (.int .i32 x.m1)).setCell (p:=⟨b,12,none⟩) (le_refl _) (.int .i64 x.s1)).setCell (p:=⟨b,13,none⟩) (le_refl _) (.int .i8 x.z1))
 clear hHeld
 have hb:=((((Below.refl b V33).setCell (p:=⟨b,11,none⟩) (le_refl _) (.int .i32 x.m1)).setCell (p:=⟨b,12,none⟩) (le_refl _) (.int .i64 x.s1)).setCell (p:=⟨b,13,none⟩) (le_refl _) (.int .i8 x.z1))
 replace HP:=hid (NdBox.set (y:=⟨2,x.na,0,0,0,0,0,0,0,x.WA,x.nW,x.cW,x.BA,x.nB,x.cB,x.m1,x.s1,x.z1,0,0,0,0,0⟩) (NdBox.set (y:=⟨2,x.na,0,0,0,0,0,0,0,x.WA,x.nW,x.cW,x.BA,x.nB,x.cB,x.m1,x.s1,0,0,0,0,0,0⟩) (NdBox.set (y:=⟨2,x.na,0,0,0,0,0,0,0,x.WA,x.nW,x.cW,x.BA,x.nB,x.cB,x.m1,0,0,0,0,0,0,0⟩) HP.out 11 (.int .i32 x.m1) (by decide) rfl) 12 (.int .i64 x.s1) (by decide) rfl) 13 (.int .i8 x.z1) (by decide) rfl)
 replace HR:=hid (HR.out.below HL.out hb)
 replace HB:=hid (HB.out.trans (hb.mono (Nat.le_of_lt (lt_of_succ_lt HL.out))))
 clear hb
 generalize (((V33).setCell ⟨b,11,none⟩ (.int .i32 x.m1)).setCell ⟨b,12,none⟩ (.int .i64 x.s1)).setCell ⟨b,13,none⟩ (.int .i8 x.z1)=V34 at *
 refine hK.out _ _ hS2 (fun hHeld=>?_)
 clear hK Kq hS2
 try simp only [Tk.put]
 refine Tk.x 8 rfl ?_
 try simp only [Tk.put]
 refine Tk.s 9 rfl (fun Kq hK=>?_)
 have c17:=HP.out.1.at 17 _ rfl
 have f17:=HP.out.fr 17 (by decide)
 go_simp
 clear c17 f17
 have hS2:=hHeld.below (lt_of_succ_lt HL.out) ((Below.refl b V34).setCell (p:=⟨b,17,none⟩) (le_refl _) (.int .i8 x.lo))
 clear hHeld
 have hb:=((Below.refl b V34).setCell (p:=⟨b,17,none⟩) (le_refl _) (.int .i8 x.lo))
 replace HP:=hid (NdBox.set (y:=⟨2,x.na,0,0,0,0,0,0,0,x.WA,x.nW,x.cW,x.BA,x.nB,x.cB,x.m1,x.s1,x.z1,0,0,0,x.lo,0⟩) HP.out 17 (.int .i8 x.lo) (by decide) rfl)
 replace HR:=hid (HR.out.below HL.out hb)
 replace HB:=hid (HB.out.trans (hb.mono (Nat.le_of_lt (lt_of_succ_lt HL.out))))
 clear hb
 generalize (V34).setCell ⟨b,17,none⟩ (.int .i8 x.lo)=V35 at *
 refine hK.out _ _ hS2 (fun hHeld=>?_)
 clear hK Kq hS2
 try simp only [Tk.put]
 refine Tk.x 10 rfl ?_
 try simp only [Tk.put]
 refine Tk.s 11 rfl (fun Kq hK=>?_)
 have c18:=HP.out.1.at 18 _ rfl
 have f18:=HP.out.fr 18 (by decide)
 go_simp
 clear c18 f18
 have hS2:=hHeld.below (lt_of_succ_lt HL.out) ((Below.refl b V35).setCell (p:=⟨b,18,none⟩) (le_refl _) (.int .i8 x.hi))
 clear hHeld
 have hb:=((Below.refl b V35).setCell (p:=⟨b,18,none⟩) (le_refl _) (.int .i8 x.hi))
 replace HP:=hid (NdBox.set (y:=⟨2,x.na,0,0,0,0,0,0,0,x.WA,x.nW,x.cW,x.BA,x.nB,x.cB,x.m1,x.s1,x.z1,0,0,0,x.lo,x.hi⟩) HP.out 18 (.int .i8 x.hi) (by decide) rfl)
 replace HR:=hid (HR.out.below HL.out hb)
 replace HB:=hid (HB.out.trans (hb.mono (Nat.le_of_lt (lt_of_succ_lt HL.out))))
 clear hb
 generalize (V35).setCell ⟨b,18,none⟩ (.int .i8 x.hi)=V36 at *
 refine hK.out _ _ hS2 (fun hHeld=>?_)
 clear hK Kq hS2
 try simp only [Tk.put]
 refine wpAnyH_done (by kernel_rfl) ?_ _
 have TN:=hid hHeld
 clear hHeld
 have q0:V36.cell? ⟨w.heap.size,0,none⟩=some (.int .i64 2):=TN.out.at 0 _ (by show some (Value.int .i64 x.kd)=_;rw [HK.out])
 have q7:=TN.out.at 7 (.int .i8 x.Z) rfl
 have c7:=HP.out.1.at 7 _ rfl
 have f7:=HP.out.fr 7 (by decide)
 go_upto_region 22 with fail
 clear q0 q7 c7 f7
 have hb:=((Below.refl b V36).setCell (p:=⟨b,7,none⟩) (le_refl _) (.int .i8 x.Z))
 replace HP:=hid (NdBox.set (y:=⟨2,x.na,0,0,0,0,0,x.Z,0,x.WA,x.nW,x.cW,x.BA,x.nB,x.cB,x.m1,x.s1,x.z1,0,0,0,x.lo,x.hi⟩) HP.out 7 (.int .i8 x.Z) (by decide) rfl)
 replace TN:=hid (TN.out.below (lt_of_succ_lt HL.out) hb)
 replace HR:=hid (HR.out.below HL.out hb)
 replace HB:=hid (HB.out.trans (hb.mono (Nat.le_of_lt (lt_of_succ_lt HL.out))))
 clear hb
 generalize (V36).setCell ⟨b,7,none⟩ (.int .i8 x.Z)=V37 at *
 have hb:=(Below.refl b V37).drew
 replace HP:=hid (HP.out.below (lt_succ_self b) (Below.refl (b+1) V37).drew)
 replace HR:=hid (HR.out.below HL.out hb)
 replace HB:=hid (HB.out.trans (hb.mono (Nat.le_of_lt (lt_of_succ_lt HL.out))))
 refine wp_region_held_drew (S:=NdAt w.heap.size x) (by kernel_rfl) (TN.out.below (lt_of_succ_lt HL.out) hb) (fun hHeld=>?_)
 clear hb TN
 generalize V37.drew=V38 at *
 refine Tk.x 0 rfl ?_
 try simp only [Tk.put]
 refine Tk.y 1 (v:=(.int .i64 x.K)) rfl ?_ ?_
 ·intro wS hSw
  have q:=hSw.at 3 (.int .i64 x.K) rfl
  first | (go_simp;done) | (go_simp;with_reducible rfl)
 try simp only [Tk.put]
 refine Tk.x 2 rfl ?_
 try simp only [Tk.put]
 refine Tk.y 3 (v:=(.int .i64 x.S)) rfl ?_ ?_
 ·intro wS hSw
  have q:=hSw.at 4 (.int .i64 x.S) rfl
  first | (go_simp;done) | (go_simp;with_reducible rfl)
 try simp only [Tk.put]
 refine Tk.x 4 rfl ?_
 try simp only [Tk.put]
 refine Tk.s 5 rfl (fun Kq hK=>?_)
 have c3:=HP.out.1.at 3 _ rfl
 have f3:=HP.out.fr 3 (by decide)
 go_simp
 clear c3 f3
 have hS2:=hHeld.below (lt_of_succ_lt HL.out) ((Below.refl b V38).setCell (p:=⟨b,3,none⟩) (le_refl _) (.int .i64 x.K))
 clear hHeld
 have hb:=((Below.refl b V38).setCell (p:=⟨b,3,none⟩) (le_refl _) (.int .i64 x.K))
 replace HP:=hid (NdBox.set (y:=⟨2,x.na,0,x.K,0,0,0,x.Z,0,x.WA,x.nW,x.cW,x.BA,x.nB,x.cB,x.m1,x.s1,x.z1,0,0,0,x.lo,x.hi⟩) HP.out 3 (.int .i64 x.K) (by decide) rfl)
 replace HR:=hid (HR.out.below HL.out hb)
 replace HB:=hid (HB.out.trans (hb.mono (Nat.le_of_lt (lt_of_succ_lt HL.out))))
 clear hb
 generalize (V38).setCell ⟨b,3,none⟩ (.int .i64 x.K)=V39 at *
 refine hK.out _ _ hS2 (fun hHeld=>?_)
 clear hK Kq hS2
 try simp only [Tk.put]
 refine Tk.x 6 rfl ?_
 try simp only [Tk.put]
 refine Tk.s 7 rfl (fun Kq hK=>?_)
 have c4:=HP.out.1.at 4 _ rfl
 have f4:=HP.out.fr 4 (by decide)
 go_simp
 clear c4 f4
 have hS2:=hHeld.below (lt_of_succ_lt HL.out) ((Below.refl b V39).setCell (p:=⟨b,4,none⟩) (le_refl _) (.int .i64 x.S))
 clear hHeld
 have hb:=((Below.refl b V39).setCell (p:=⟨b,4,none⟩) (le_refl _) (.int .i64 x.S))
 replace HP:=hid (NdBox.set (y:=⟨2,x.na,0,x.K,x.S,0,0,x.Z,0,x.WA,x.nW,x.cW,x.BA,x.nB,x.cB,x.m1,x.s1,x.z1,0,0,0,x.lo,x.hi⟩) HP.out 4 (.int .i64 x.S) (by decide) rfl)
 replace HR:=hid (HR.out.below HL.out hb)
 replace HB:=hid (HB.out.trans (hb.mono (Nat.le_of_lt (lt_of_succ_lt HL.out))))
 clear hb
 generalize (V39).setCell ⟨b,4,none⟩ (.int .i64 x.S)=V40 at *
 refine hK.out _ _ hS2 (fun hHeld=>?_)
 clear hK Kq hS2
 try simp only [Tk.put]
 refine wpAnyH_done (by kernel_rfl) ?_ _
 have TN:=hid hHeld
 clear hHeld
 have q0:V40.cell? ⟨w.heap.size,0,none⟩=some (.int .i64 2):=TN.out.at 0 _ (by show some (Value.int .i64 x.kd)=_;rw [HK.out])
 have q5:=TN.out.at 5 (.int .i64 x.P) rfl
 have c5:=HP.out.1.at 5 _ rfl
 have f5:=HP.out.fr 5 (by decide)
 go_upto_region 24 with fail
 clear q0 q5 c5 f5
 have hb:=((Below.refl b V40).setCell (p:=⟨b,5,none⟩) (le_refl _) (.int .i64 x.P))
 replace HP:=hid (NdBox.set (y:=⟨2,x.na,0,x.K,x.S,x.P,0,x.Z,0,x.WA,x.nW,x.cW,x.BA,x.nB,x.cB,x.m1,x.s1,x.z1,0,0,0,x.lo,x.hi⟩) HP.out 5 (.int .i64 x.P) (by decide) rfl)
 replace TN:=hid (TN.out.below (lt_of_succ_lt HL.out) hb)
 replace HR:=hid (HR.out.below HL.out hb)
 replace HB:=hid (HB.out.trans (hb.mono (Nat.le_of_lt (lt_of_succ_lt HL.out))))
 clear hb
 generalize (V40).setCell ⟨b,5,none⟩ (.int .i64 x.P)=V41 at *
 go_wp2_with (first | (refine zac rfl (.tmp 3) rfl b ⟨2,x.na,0,x.K,x.S,x.P,0,x.Z,0,x.WA,x.nW,x.cW,x.BA,x.nB,x.cB,x.m1,x.s1,x.z1,0,0,0,x.lo,x.hi⟩ rfl HP.out.1 ?_) | (refine zaq rfl (.tmp 2) (.tmp 78) rfl (w.heap.size+1) Nd.zero ⟨2,x.na,0,x.K,x.S,x.P,0,x.Z,0,x.WA,x.nW,x.cW,x.BA,x.nB,x.cB,x.m1,x.s1,x.z1,0,0,0,x.lo,x.hi⟩ rfl rfl HR.out ?_;rintro W2 hp hb1 hs1))
 refine bodyPost_ret (za1 rfl _ _ (w.heap.size+1) ⟨2,x.na,0,x.K,x.S,x.P,0,x.Z,0,x.WA,x.nW,x.cW,x.BA,x.nB,x.cB,x.m1,x.s1,x.z1,0,0,0,x.lo,x.hi⟩ rfl hp.1) rfl ?_
 exact⟨rfl,HB.out.trans (hb1.mono (Nat.le_succ _))⟩
theorem own_3 (x:Nd) (hk:x.kd=3) (w:World) :
  Calls Tryz.prog 160 #[.agg x.val] w fun e w'=>e=.returned (.agg (x.ownK 3).val)∧Below w.heap.size w w':=by
 have TN:=hid (NdAt.new x 54 w)
 have HK:=hid hk
 clear hk
 go_enter Tryz.func160,Tryz.ntmps160
 go_upto_region 1 with fail
 have HR:Hid (NdBox (w.heap.size+1) Nd.zero ((w.alloc (.cells x.val 54)).alloc (.cells Nd.zero.val 54))):=hid (by have:=NdBox.new Nd.zero 54 (w.alloc (.cells x.val 54));rwa [World.size_alloc] at this)
 replace TN:=hid (TN.out.below (B:=w.heap.size+1) (lt_succ_self _) ((Below.refl _ _).alloc (by simp) (.cells Nd.zero.val 54)))
 have HB:=hid (((Below.refl w.heap.size w).alloc (le_refl _) (.cells x.val 54)).alloc (by simp) (.cells Nd.zero.val 54))
 have HS:Hid (((w.alloc (.cells x.val 54)).alloc (.cells Nd.zero.val 54)).heap.size=w.heap.size+2):=hid (by simp)
 generalize h:(w.alloc (.cells x.val 54)).alloc (.cells Nd.zero.val 54)=W0 at TN HR HB HS
 rw [show (w.alloc (Obj.cells x.val 54)).alloc (Obj.cells #[.int .i64 0,.int .i64 0,.int .i64 0,.int .i64 0,.int .i64 0,.int .i64 0,.int .i64 0,.int .i8 0,.int .i8 0,.slice none 0 0,.slice none 0 0,.int .i32 0,.int .i64 0,.int .i8 0,.int .i32 0,.int .i64 0,.int .i8 0,.int .i8 0,.int .i8 0] 54)=W0 from h]
 clear h
 have q0:W0.cell? ⟨w.heap.size,0,none⟩=some (.int .i64 3):=TN.out.at 0 _ (by show some (Value.int .i64 x.kd)=_;rw [HK.out])
 have q1:=TN.out.at 1 (.int .i64 x.na) rfl
 go_upto_region 2 with (refine zaq rfl (.tmp 3) (.tmp 8) rfl _ Nd.zero ⟨3,x.na,0,0,0,0,0,0,0,none,0,0,none,0,0,0,0,0,0,0,0,0,0⟩ rfl rfl (NdBox.new Nd.zero _ _) ?_;rintro W1 hp hb1 hs1)
 replace TN:=hid (TN.out.below (by rw [HS.out];omega) (((Below.refl _ _).alloc (le_refl _) _).trans hb1))
 replace HR:=hid (HR.out.below (by rw [HS.out];omega) (((Below.refl _ _).alloc (le_refl _) _).trans hb1))
 replace HB:=hid (HB.out.trans ((((Below.refl _ _).alloc (le_refl _) _).trans hb1).mono (by rw [HS.out];omega)))
 have HP:=hid hp
 have HL:Hid (w.heap.size+1 < W0.heap.size):=hid (by rw [HS.out];omega)
 clear hp hb1 hs1 HS q0 q1
 generalize W0.heap.size=b at *
 clear W0
 have q0:W1.cell? ⟨w.heap.size,0,none⟩=some (.int .i64 3):=TN.out.at 0 _ (by show some (Value.int .i64 x.kd)=_;rw [HK.out])
 have q6:=TN.out.at 6 (.int .i64 x.O) rfl
 have c6:=HP.out.1.at 6 _ rfl
 have f6:=HP.out.fr 6 (by decide)
 go_upto_region 10 with fail
 clear q0 q6 c6 f6
 have hb:=((Below.refl b W1).setCell (p:=⟨b,6,none⟩) (le_refl _) (.int .i64 x.O))
 replace HP:=hid (NdBox.set (y:=⟨3,x.na,0,0,0,0,x.O,0,0,none,0,0,none,0,0,0,0,0,0,0,0,0,0⟩) HP.out 6 (.int .i64 x.O) (by decide) rfl)
 replace TN:=hid (TN.out.below (lt_of_succ_lt HL.out) hb)
 replace HR:=hid (HR.out.below HL.out hb)
 replace HB:=hid (HB.out.trans (hb.mono (Nat.le_of_lt (lt_of_succ_lt HL.out))))
 clear hb
 generalize (W1).setCell ⟨b,6,none⟩ (.int .i64 x.O)=V42 at *
 have hb:=(Below.refl b V42).drew
 replace HP:=hid (HP.out.below (lt_succ_self b) (Below.refl (b+1) V42).drew)
 replace HR:=hid (HR.out.below HL.out hb)
 replace HB:=hid (HB.out.trans (hb.mono (Nat.le_of_lt (lt_of_succ_lt HL.out))))
 refine wp_region_held_drew (S:=NdAt w.heap.size x) (by kernel_rfl) (TN.out.below (lt_of_succ_lt HL.out) hb) (fun hHeld=>?_)
 clear hb TN
 generalize V42.drew=V43 at *
 refine Tk.x 0 rfl ?_
 try simp only [Tk.put]
 refine Tk.y 1 (v:=(.slice x.WA x.nW x.cW)) rfl ?_ ?_
 ·intro wS hSw
  have q:=hSw.at 9 (.slice x.WA x.nW x.cW) rfl
  first | (go_simp;done) | (go_simp;with_reducible rfl)
 try simp only [Tk.put]
 refine Tk.x 2 rfl ?_
 try simp only [Tk.put]
 refine Tk.y 3 (v:=(.slice x.BA x.nB x.cB)) rfl ?_ ?_
 ·intro wS hSw
  have q:=hSw.at 10 (.slice x.BA x.nB x.cB) rfl
  first | (go_simp;done) | (go_simp;with_reducible rfl)
 try simp only [Tk.put]
 refine Tk.x 4 rfl ?_
 try simp only [Tk.put]
 refine Tk.s 5 rfl (fun Kq hK=>?_)
 have c9:=HP.out.1.at 9 _ rfl
 have f9:=HP.out.fr 9 (by decide)
 go_simp
 clear c9 f9
 have hS2:=hHeld.below (lt_of_succ_lt HL.out) ((Below.refl b V43).setCell (p:=⟨b,9,none⟩) (le_refl _) (.slice x.WA x.nW x.cW))
 clear hHeld
 have hb:=((Below.refl b V43).setCell (p:=⟨b,9,none⟩) (le_refl _) (.slice x.WA x.nW x.cW))
 replace HP:=hid (NdBox.set (y:=⟨3,x.na,0,0,0,0,x.O,0,0,x.WA,x.nW,x.cW,none,0,0,0,0,0,0,0,0,0,0⟩) HP.out 9 (.slice x.WA x.nW x.cW) (by decide) rfl)
 replace HR:=hid (HR.out.below HL.out hb)
 replace HB:=hid (HB.out.trans (hb.mono (Nat.le_of_lt (lt_of_succ_lt HL.out))))
 clear hb
 generalize (V43).setCell ⟨b,9,none⟩ (.slice x.WA x.nW x.cW)=V44 at *
 refine hK.out _ _ hS2 (fun hHeld=>?_)
 clear hK Kq hS2
 try simp only [Tk.put]
 refine Tk.x 6 rfl ?_
 try simp only [Tk.put]
 refine Tk.s 7 rfl (fun Kq hK=>?_)
 have c10:=HP.out.1.at 10 _ rfl
 have f10:=HP.out.fr 10 (by decide)
 go_simp
 clear c10 f10
 have hS2:=hHeld.below (lt_of_succ_lt HL.out) ((Below.refl b V44).setCell (p:=⟨b,10,none⟩) (le_refl _) (.slice x.BA x.nB x.cB))
 clear hHeld
 have hb:=((Below.refl b V44).setCell (p:=⟨b,10,none⟩) (le_refl _) (.slice x.BA x.nB x.cB))
 replace HP:=hid (NdBox.set (y:=⟨3,x.na,0,0,0,0,x.O,0,0,x.WA,x.nW,x.cW,x.BA,x.nB,x.cB,0,0,0,0,0,0,0,0⟩) HP.out 10 (.slice x.BA x.nB x.cB) (by decide) rfl)
 replace HR:=hid (HR.out.below HL.out hb)
 replace HB:=hid (HB.out.trans (hb.mono (Nat.le_of_lt (lt_of_succ_lt HL.out))))
 clear hb
 generalize (V44).setCell ⟨b,10,none⟩ (.slice x.BA x.nB x.cB)=V45 at *
 refine hK.out _ _ hS2 (fun hHeld=>?_)
 clear hK Kq hS2
 try simp only [Tk.put]
 refine wpAnyH_done (by kernel_rfl) ?_ _
 have TN:=hid hHeld
 clear hHeld
 have q0:V45.cell? ⟨w.heap.size,0,none⟩=some (.int .i64 3):=TN.out.at 0 _ (by show some (Value.int .i64 x.kd)=_;rw [HK.out])
 go_upto_region 11 with fail
 clear q0
 have hb:=(Below.refl b V45).drew
 replace HP:=hid (HP.out.below (lt_succ_self b) (Below.refl (b+1) V45).drew)
 replace HR:=hid (HR.out.below HL.out hb)
 replace HB:=hid (HB.out.trans (hb.mono (Nat.le_of_lt (lt_of_succ_lt HL.out))))
 refine wp_region_held_drew (S:=NdAt w.heap.size x) (by kernel_rfl) (TN.out.below (lt_of_succ_lt HL.out) hb) (fun hHeld=>?_)
 clear hb TN
 generalize V45.drew=V46 at *
 refine Tk.x 0 rfl ?_
 try simp only [Tk.put]
 refine Tk.y 1 (v:=.agg #[.int .i32 x.m1,.int .i64 x.s1,.int .i8 x.z1]) rfl ?_ ?_
 ·intro wS hSw
  have q:=hSw.at 11 (.int .i32 x.m1) rfl
  have q2:=hSw.at 12 (.int .i64 x.s1) rfl
  have q3:=hSw.at 13 (.int .i8 x.z1) rfl
  first | (go_simp;done) | (go_simp;with_reducible rfl)
 try simp only [Tk.put]
 refine Tk.x 2 rfl ?_
 try simp only [Tk.put]
 refine Tk.y 3 (v:=(.int .i8 x.lo)) rfl ?_ ?_
 ·intro wS hSw
  have q:=hSw.at 17 (.int .i8 x.lo) rfl
  first | (go_simp;done) | (go_simp;with_reducible rfl)
 try simp only [Tk.put]
 refine Tk.x 4 rfl ?_
 try simp only [Tk.put]
 refine Tk.y 5 (v:=(.int .i8 x.hi)) rfl ?_ ?_
 ·intro wS hSw
  have q:=hSw.at 18 (.int .i8 x.hi) rfl
  first | (go_simp;done) | (go_simp;with_reducible rfl)
 try simp only [Tk.put]
 refine Tk.x 6 rfl ?_
 try simp only [Tk.put]
 refine Tk.s 7 rfl (fun Kq hK=>?_)
 have c11:=HP.out.1.at 11 _ rfl
 have f11:=HP.out.fr 11 (by decide)
 have c12:=HP.out.1.at 12 _ rfl
 have f12:=HP.out.fr 12 (by decide)
 have c13:=HP.out.1.at 13 _ rfl
 have f13:=HP.out.fr 13 (by decide)
 go_simp
 clear c11 f11 c12 f12 c13 f13
 have hS2:=hHeld.below (lt_of_succ_lt HL.out) ((((Below.refl b V46).setCell (p:=⟨b,11,none⟩) (le_refl _) (.int .i32 x.m1)).setCell (p:=⟨b,12,none⟩) (le_refl _) (.int .i64 x.s1)).setCell (p:=⟨b,13,none⟩) (le_refl _) (.int .i8 x.z1))
 clear hHeld
 have hb:=((((Below.refl b V46).setCell (p:=⟨b,11,none⟩) (le_refl _) (.int .i32 x.m1)).setCell (p:=⟨b,12,none⟩) (le_refl _) (.int .i64 x.s1)).setCell (p:=⟨b,13,none⟩) (le_refl _) (.int .i8 x.z1))
 replace HP:=hid (NdBox.set (y:=⟨3,x.na,0,0,0,0,x.O,0,0,x.WA,x.nW,x.cW,x.BA,x.nB,x.cB,x.m1,x.s1,x.z1,0,0,0,0,0⟩) (NdBox.set (y:=⟨3,x.na,0,0,0,0,x.O,0,0,x.WA,x.nW,x.cW,x.BA,x.nB,x.cB,x.m1,x.s1,0,0,0,0,0,0⟩) (NdBox.set (y:=⟨3,x.na,0,0,0,0,x.O,0,0,x.WA,x.nW,x.cW,x.BA,x.nB,x.cB,x.m1,0,0,0,0,0,0,0⟩) HP.out 11 (.int .i32 x.m1) (by decide) rfl) 12 (.int .i64 x.s1) (by decide) rfl) 13 (.int .i8 x.z1) (by decide) rfl)
 replace HR:=hid (HR.out.below HL.out hb)
 replace HB:=hid (HB.out.trans (hb.mono (Nat.le_of_lt (lt_of_succ_lt HL.out))))
 clear hb
 generalize (((V46).setCell ⟨b,11,none⟩ (.int .i32 x.m1)).setCell ⟨b,12,none⟩ (.int .i64 x.s1)).setCell ⟨b,13,none⟩ (.int .i8 x.z1)=V47 at *
 refine hK.out _ _ hS2 (fun hHeld=>?_)
 clear hK Kq hS2
 try simp only [Tk.put]
 refine Tk.x 8 rfl ?_
 try simp only [Tk.put]
 refine Tk.s 9 rfl (fun Kq hK=>?_)
 have c17:=HP.out.1.at 17 _ rfl
 have f17:=HP.out.fr 17 (by decide)
 go_simp
 clear c17 f17
 have hS2:=hHeld.below (lt_of_succ_lt HL.out) ((Below.refl b V47).setCell (p:=⟨b,17,none⟩) (le_refl _) (.int .i8 x.lo))
 clear hHeld
 have hb:=((Below.refl b V47).setCell (p:=⟨b,17,none⟩) (le_refl _) (.int .i8 x.lo))
 replace HP:=hid (NdBox.set (y:=⟨3,x.na,0,0,0,0,x.O,0,0,x.WA,x.nW,x.cW,x.BA,x.nB,x.cB,x.m1,x.s1,x.z1,0,0,0,x.lo,0⟩) HP.out 17 (.int .i8 x.lo) (by decide) rfl)
 replace HR:=hid (HR.out.below HL.out hb)
 replace HB:=hid (HB.out.trans (hb.mono (Nat.le_of_lt (lt_of_succ_lt HL.out))))
 clear hb
 generalize (V47).setCell ⟨b,17,none⟩ (.int .i8 x.lo)=V48 at *
 refine hK.out _ _ hS2 (fun hHeld=>?_)
 clear hK Kq hS2
 try simp only [Tk.put]
 refine Tk.x 10 rfl ?_
 try simp only [Tk.put]
 refine Tk.s 11 rfl (fun Kq hK=>?_)
 have c18:=HP.out.1.at 18 _ rfl
 have f18:=HP.out.fr 18 (by decide)
 go_simp
 clear c18 f18
 have hS2:=hHeld.below (lt_of_succ_lt HL.out) ((Below.refl b V48).setCell (p:=⟨b,18,none⟩) (le_refl _) (.int .i8 x.hi))
 clear hHeld
 have hb:=((Below.refl b V48).setCell (p:=⟨b,18,none⟩) (le_refl _) (.int .i8 x.hi))
 replace HP:=hid (NdBox.set (y:=⟨3,x.na,0,0,0,0,x.O,0,0,x.WA,x.nW,x.cW,x.BA,x.nB,x.cB,x.m1,x.s1,x.z1,0,0,0,x.lo,x.hi⟩) HP.out 18 (.int .i8 x.hi) (by decide) rfl)
 replace HR:=hid (HR.out.below HL.out hb)
 replace HB:=hid (HB.out.trans (hb.mono (Nat.le_of_lt (lt_of_succ_lt HL.out))))
 clear hb
 generalize (V48).setCell ⟨b,18,none⟩ (.int .i8 x.hi)=V49 at *
 refine hK.out _ _ hS2 (fun hHeld=>?_)
 clear hK Kq hS2
 try simp only [Tk.put]
 refine wpAnyH_done (by kernel_rfl) ?_ _
 have TN:=hid hHeld
 clear hHeld
 have q0:V49.cell? ⟨w.heap.size,0,none⟩=some (.int .i64 3):=TN.out.at 0 _ (by show some (Value.int .i64 x.kd)=_;rw [HK.out])
 have q7:=TN.out.at 7 (.int .i8 x.Z) rfl
 have c7:=HP.out.1.at 7 _ rfl
 have f7:=HP.out.fr 7 (by decide)
 go_upto_region 24 with fail
 clear q0 q7 c7 f7
 have hb:=((Below.refl b V49).setCell (p:=⟨b,7,none⟩) (le_refl _) (.int .i8 x.Z))
 replace HP:=hid (NdBox.set (y:=⟨3,x.na,0,0,0,0,x.O,x.Z,0,x.WA,x.nW,x.cW,x.BA,x.nB,x.cB,x.m1,x.s1,x.z1,0,0,0,x.lo,x.hi⟩) HP.out 7 (.int .i8 x.Z) (by decide) rfl)
 replace TN:=hid (TN.out.below (lt_of_succ_lt HL.out) hb)
 replace HR:=hid (HR.out.below HL.out hb)
 replace HB:=hid (HB.out.trans (hb.mono (Nat.le_of_lt (lt_of_succ_lt HL.out))))
 clear hb
 generalize (V49).setCell ⟨b,7,none⟩ (.int .i8 x.Z)=V50 at *
 go_wp2_with (first | (refine zac rfl (.tmp 3) rfl b ⟨3,x.na,0,0,0,0,x.O,x.Z,0,x.WA,x.nW,x.cW,x.BA,x.nB,x.cB,x.m1,x.s1,x.z1,0,0,0,x.lo,x.hi⟩ rfl HP.out.1 ?_) | (refine zaq rfl (.tmp 2) (.tmp 78) rfl (w.heap.size+1) Nd.zero ⟨3,x.na,0,0,0,0,x.O,x.Z,0,x.WA,x.nW,x.cW,x.BA,x.nB,x.cB,x.m1,x.s1,x.z1,0,0,0,x.lo,x.hi⟩ rfl rfl HR.out ?_;rintro W2 hp hb1 hs1))
 refine bodyPost_ret (za1 rfl _ _ (w.heap.size+1) ⟨3,x.na,0,0,0,0,x.O,x.Z,0,x.WA,x.nW,x.cW,x.BA,x.nB,x.cB,x.m1,x.s1,x.z1,0,0,0,x.lo,x.hi⟩ rfl hp.1) rfl ?_
 exact⟨rfl,HB.out.trans (hb1.mono (Nat.le_succ _))⟩
theorem own_5 (x:Nd) (hk:x.kd=5) (w:World) :
  Calls Tryz.prog 160 #[.agg x.val] w fun e w'=>e=.returned (.agg (x.ownK 5).val)∧Below w.heap.size w w':=by
 have TN:=hid (NdAt.new x 54 w)
 have HK:=hid hk
 clear hk
 go_enter Tryz.func160,Tryz.ntmps160
 go_upto_region 1 with fail
 have HR:Hid (NdBox (w.heap.size+1) Nd.zero ((w.alloc (.cells x.val 54)).alloc (.cells Nd.zero.val 54))):=hid (by have:=NdBox.new Nd.zero 54 (w.alloc (.cells x.val 54));rwa [World.size_alloc] at this)
 replace TN:=hid (TN.out.below (B:=w.heap.size+1) (lt_succ_self _) ((Below.refl _ _).alloc (by simp) (.cells Nd.zero.val 54)))
 have HB:=hid (((Below.refl w.heap.size w).alloc (le_refl _) (.cells x.val 54)).alloc (by simp) (.cells Nd.zero.val 54))
 have HS:Hid (((w.alloc (.cells x.val 54)).alloc (.cells Nd.zero.val 54)).heap.size=w.heap.size+2):=hid (by simp)
 generalize h:(w.alloc (.cells x.val 54)).alloc (.cells Nd.zero.val 54)=W0 at TN HR HB HS
 rw [show (w.alloc (Obj.cells x.val 54)).alloc (Obj.cells #[.int .i64 0,.int .i64 0,.int .i64 0,.int .i64 0,.int .i64 0,.int .i64 0,.int .i64 0,.int .i8 0,.int .i8 0,.slice none 0 0,.slice none 0 0,.int .i32 0,.int .i64 0,.int .i8 0,.int .i32 0,.int .i64 0,.int .i8 0,.int .i8 0,.int .i8 0] 54)=W0 from h]
 clear h
 have q0:W0.cell? ⟨w.heap.size,0,none⟩=some (.int .i64 5):=TN.out.at 0 _ (by show some (Value.int .i64 x.kd)=_;rw [HK.out])
 have q1:=TN.out.at 1 (.int .i64 x.na) rfl
 go_upto_region 2 with (refine zaq rfl (.tmp 3) (.tmp 8) rfl _ Nd.zero ⟨5,x.na,0,0,0,0,0,0,0,none,0,0,none,0,0,0,0,0,0,0,0,0,0⟩ rfl rfl (NdBox.new Nd.zero _ _) ?_;rintro W1 hp hb1 hs1)
 replace TN:=hid (TN.out.below (by rw [HS.out];omega) (((Below.refl _ _).alloc (le_refl _) _).trans hb1))
 replace HR:=hid (HR.out.below (by rw [HS.out];omega) (((Below.refl _ _).alloc (le_refl _) _).trans hb1))
 replace HB:=hid (HB.out.trans ((((Below.refl _ _).alloc (le_refl _) _).trans hb1).mono (by rw [HS.out];omega)))
 have HP:=hid hp
 have HL:Hid (w.heap.size+1 < W0.heap.size):=hid (by rw [HS.out];omega)
 clear hp hb1 hs1 HS q0 q1
 generalize W0.heap.size=b at *
 clear W0
 have q0:W1.cell? ⟨w.heap.size,0,none⟩=some (.int .i64 5):=TN.out.at 0 _ (by show some (Value.int .i64 x.kd)=_;rw [HK.out])
 go_upto_region 22 with fail
 clear q0
 have hb:=(Below.refl b W1).drew
 replace HP:=hid (HP.out.below (lt_succ_self b) (Below.refl (b+1) W1).drew)
 replace HR:=hid (HR.out.below HL.out hb)
 replace HB:=hid (HB.out.trans (hb.mono (Nat.le_of_lt (lt_of_succ_lt HL.out))))
 refine wp_region_held_drew (S:=NdAt w.heap.size x) (by kernel_rfl) (TN.out.below (lt_of_succ_lt HL.out) hb) (fun hHeld=>?_)
 clear hb TN
 generalize W1.drew=V51 at *
 refine Tk.x 0 rfl ?_
 try simp only [Tk.put]
 refine Tk.y 1 (v:=(.int .i64 x.K)) rfl ?_ ?_
 ·intro wS hSw
  have q:=hSw.at 3 (.int .i64 x.K) rfl
  first | (go_simp;done) | (go_simp;with_reducible rfl)
 try simp only [Tk.put]
 refine Tk.x 2 rfl ?_
 try simp only [Tk.put]
 refine Tk.y 3 (v:=(.int .i64 x.S)) rfl ?_ ?_
 ·intro wS hSw
  have q:=hSw.at 4 (.int .i64 x.S) rfl
  first | (go_simp;done) | (go_simp;with_reducible rfl)
 try simp only [Tk.put]
 refine Tk.x 4 rfl ?_
 try simp only [Tk.put]
 refine Tk.s 5 rfl (fun Kq hK=>?_)
 have c3:=HP.out.1.at 3 _ rfl
 have f3:=HP.out.fr 3 (by decide)
 go_simp
 clear c3 f3
 have hS2:=hHeld.below (lt_of_succ_lt HL.out) ((Below.refl b V51).setCell (p:=⟨b,3,none⟩) (le_refl _) (.int .i64 x.K))
 clear hHeld
 have hb:=((Below.refl b V51).setCell (p:=⟨b,3,none⟩) (le_refl _) (.int .i64 x.K))
 replace HP:=hid (NdBox.set (y:=⟨5,x.na,0,x.K,0,0,0,0,0,none,0,0,none,0,0,0,0,0,0,0,0,0,0⟩) HP.out 3 (.int .i64 x.K) (by decide) rfl)
 replace HR:=hid (HR.out.below HL.out hb)
 replace HB:=hid (HB.out.trans (hb.mono (Nat.le_of_lt (lt_of_succ_lt HL.out))))
 clear hb
 generalize (V51).setCell ⟨b,3,none⟩ (.int .i64 x.K)=V52 at *
 refine hK.out _ _ hS2 (fun hHeld=>?_)
 clear hK Kq hS2
 try simp only [Tk.put]
 refine Tk.x 6 rfl ?_
 try simp only [Tk.put]
 refine Tk.s 7 rfl (fun Kq hK=>?_)
 have c4:=HP.out.1.at 4 _ rfl
 have f4:=HP.out.fr 4 (by decide)
 go_simp
 clear c4 f4
 have hS2:=hHeld.below (lt_of_succ_lt HL.out) ((Below.refl b V52).setCell (p:=⟨b,4,none⟩) (le_refl _) (.int .i64 x.S))
 clear hHeld
 have hb:=((Below.refl b V52).setCell (p:=⟨b,4,none⟩) (le_refl _) (.int .i64 x.S))
 replace HP:=hid (NdBox.set (y:=⟨5,x.na,0,x.K,x.S,0,0,0,0,none,0,0,none,0,0,0,0,0,0,0,0,0,0⟩) HP.out 4 (.int .i64 x.S) (by decide) rfl)
 replace HR:=hid (HR.out.below HL.out hb)
 replace HB:=hid (HB.out.trans (hb.mono (Nat.le_of_lt (lt_of_succ_lt HL.out))))
 clear hb
 generalize (V52).setCell ⟨b,4,none⟩ (.int .i64 x.S)=V53 at *
 refine hK.out _ _ hS2 (fun hHeld=>?_)
 clear hK Kq hS2
 try simp only [Tk.put]
 refine wpAnyH_done (by kernel_rfl) ?_ _
 have TN:=hid hHeld
 clear hHeld
 have q0:V53.cell? ⟨w.heap.size,0,none⟩=some (.int .i64 5):=TN.out.at 0 _ (by show some (Value.int .i64 x.kd)=_;rw [HK.out])
 have q5:=TN.out.at 5 (.int .i64 x.P) rfl
 have c5:=HP.out.1.at 5 _ rfl
 have f5:=HP.out.fr 5 (by decide)
 go_upto_region 24 with fail
 clear q0 q5 c5 f5
 have hb:=((Below.refl b V53).setCell (p:=⟨b,5,none⟩) (le_refl _) (.int .i64 x.P))
 replace HP:=hid (NdBox.set (y:=⟨5,x.na,0,x.K,x.S,x.P,0,0,0,none,0,0,none,0,0,0,0,0,0,0,0,0,0⟩) HP.out 5 (.int .i64 x.P) (by decide) rfl)
 replace TN:=hid (TN.out.below (lt_of_succ_lt HL.out) hb)
 replace HR:=hid (HR.out.below HL.out hb)
 replace HB:=hid (HB.out.trans (hb.mono (Nat.le_of_lt (lt_of_succ_lt HL.out))))
 clear hb
 generalize (V53).setCell ⟨b,5,none⟩ (.int .i64 x.P)=V54 at *
 go_wp2_with (first | (refine zac rfl (.tmp 3) rfl b ⟨5,x.na,0,x.K,x.S,x.P,0,0,0,none,0,0,none,0,0,0,0,0,0,0,0,0,0⟩ rfl HP.out.1 ?_) | (refine zaq rfl (.tmp 2) (.tmp 78) rfl (w.heap.size+1) Nd.zero ⟨5,x.na,0,x.K,x.S,x.P,0,0,0,none,0,0,none,0,0,0,0,0,0,0,0,0,0⟩ rfl rfl HR.out ?_;rintro W2 hp hb1 hs1))
 refine bodyPost_ret (za1 rfl _ _ (w.heap.size+1) ⟨5,x.na,0,x.K,x.S,x.P,0,0,0,none,0,0,none,0,0,0,0,0,0,0,0,0,0⟩ rfl hp.1) rfl ?_
 exact⟨rfl,HB.out.trans (hb1.mono (Nat.le_succ _))⟩
theorem own_7 (x:Nd) (hk:x.kd=7) (w:World) :
  Calls Tryz.prog 160 #[.agg x.val] w fun e w'=>e=.returned (.agg (x.ownK 7).val)∧Below w.heap.size w w':=by
 have TN:=hid (NdAt.new x 54 w)
 have HK:=hid hk
 clear hk
 go_enter Tryz.func160,Tryz.ntmps160
 go_upto_region 1 with fail
 have HR:Hid (NdBox (w.heap.size+1) Nd.zero ((w.alloc (.cells x.val 54)).alloc (.cells Nd.zero.val 54))):=hid (by have:=NdBox.new Nd.zero 54 (w.alloc (.cells x.val 54));rwa [World.size_alloc] at this)
 replace TN:=hid (TN.out.below (B:=w.heap.size+1) (lt_succ_self _) ((Below.refl _ _).alloc (by simp) (.cells Nd.zero.val 54)))
 have HB:=hid (((Below.refl w.heap.size w).alloc (le_refl _) (.cells x.val 54)).alloc (by simp) (.cells Nd.zero.val 54))
 have HS:Hid (((w.alloc (.cells x.val 54)).alloc (.cells Nd.zero.val 54)).heap.size=w.heap.size+2):=hid (by simp)
 generalize h:(w.alloc (.cells x.val 54)).alloc (.cells Nd.zero.val 54)=W0 at TN HR HB HS
 rw [show (w.alloc (Obj.cells x.val 54)).alloc (Obj.cells #[.int .i64 0,.int .i64 0,.int .i64 0,.int .i64 0,.int .i64 0,.int .i64 0,.int .i64 0,.int .i8 0,.int .i8 0,.slice none 0 0,.slice none 0 0,.int .i32 0,.int .i64 0,.int .i8 0,.int .i32 0,.int .i64 0,.int .i8 0,.int .i8 0,.int .i8 0] 54)=W0 from h]
 clear h
 have q0:W0.cell? ⟨w.heap.size,0,none⟩=some (.int .i64 7):=TN.out.at 0 _ (by show some (Value.int .i64 x.kd)=_;rw [HK.out])
 have q1:=TN.out.at 1 (.int .i64 x.na) rfl
 go_upto_region 2 with (refine zaq rfl (.tmp 3) (.tmp 8) rfl _ Nd.zero ⟨7,x.na,0,0,0,0,0,0,0,none,0,0,none,0,0,0,0,0,0,0,0,0,0⟩ rfl rfl (NdBox.new Nd.zero _ _) ?_;rintro W1 hp hb1 hs1)
 replace TN:=hid (TN.out.below (by rw [HS.out];omega) (((Below.refl _ _).alloc (le_refl _) _).trans hb1))
 replace HR:=hid (HR.out.below (by rw [HS.out];omega) (((Below.refl _ _).alloc (le_refl _) _).trans hb1))
 replace HB:=hid (HB.out.trans ((((Below.refl _ _).alloc (le_refl _) _).trans hb1).mono (by rw [HS.out];omega)))
 have HP:=hid hp
 have HL:Hid (w.heap.size+1 < W0.heap.size):=hid (by rw [HS.out];omega)
 clear hp hb1 hs1 HS q0 q1
 generalize W0.heap.size=b at *
 clear W0
 have q0:W1.cell? ⟨w.heap.size,0,none⟩=some (.int .i64 7):=TN.out.at 0 _ (by show some (Value.int .i64 x.kd)=_;rw [HK.out])
 go_upto_region 11 with fail
 clear q0
 have hb:=(Below.refl b W1).drew
 replace HP:=hid (HP.out.below (lt_succ_self b) (Below.refl (b+1) W1).drew)
 replace HR:=hid (HR.out.below HL.out hb)
 replace HB:=hid (HB.out.trans (hb.mono (Nat.le_of_lt (lt_of_succ_lt HL.out))))
 refine wp_region_held_drew (S:=NdAt w.heap.size x) (by kernel_rfl) (TN.out.below (lt_of_succ_lt HL.out) hb) (fun hHeld=>?_)
 clear hb TN
 generalize W1.drew=V55 at *
 refine Tk.x 0 rfl ?_
 try simp only [Tk.put]
 refine Tk.y 1 (v:=.agg #[.int .i32 x.m1,.int .i64 x.s1,.int .i8 x.z1]) rfl ?_ ?_
 ·intro wS hSw
  have q:=hSw.at 11 (.int .i32 x.m1) rfl
  have q2:=hSw.at 12 (.int .i64 x.s1) rfl
  have q3:=hSw.at 13 (.int .i8 x.z1) rfl
  first | (go_simp;done) | (go_simp;with_reducible rfl)
 try simp only [Tk.put]
 refine Tk.x 2 rfl ?_
 try simp only [Tk.put]
 refine Tk.y 3 (v:=(.int .i8 x.lo)) rfl ?_ ?_
 ·intro wS hSw
  have q:=hSw.at 17 (.int .i8 x.lo) rfl
  first | (go_simp;done) | (go_simp;with_reducible rfl)
 try simp only [Tk.put]
 refine Tk.x 4 rfl ?_
 try simp only [Tk.put]
 refine Tk.y 5 (v:=(.int .i8 x.hi)) rfl ?_ ?_
 ·intro wS hSw
  have q:=hSw.at 18 (.int .i8 x.hi) rfl
  first | (go_simp;done) | (go_simp;with_reducible rfl)
 try simp only [Tk.put]
 refine Tk.x 6 rfl ?_
 try simp only [Tk.put]
 refine Tk.s 7 rfl (fun Kq hK=>?_)
 have c11:=HP.out.1.at 11 _ rfl
 have f11:=HP.out.fr 11 (by decide)
 have c12:=HP.out.1.at 12 _ rfl
 have f12:=HP.out.fr 12 (by decide)
 have c13:=HP.out.1.at 13 _ rfl
 have f13:=HP.out.fr 13 (by decide)
 go_simp
 clear c11 f11 c12 f12 c13 f13
 have hS2:=hHeld.below (lt_of_succ_lt HL.out) ((((Below.refl b V55).setCell (p:=⟨b,11,none⟩) (le_refl _) (.int .i32 x.m1)).setCell (p:=⟨b,12,none⟩) (le_refl _) (.int .i64 x.s1)).setCell (p:=⟨b,13,none⟩) (le_refl _) (.int .i8 x.z1))
 clear hHeld
 have hb:=((((Below.refl b V55).setCell (p:=⟨b,11,none⟩) (le_refl _) (.int .i32 x.m1)).setCell (p:=⟨b,12,none⟩) (le_refl _) (.int .i64 x.s1)).setCell (p:=⟨b,13,none⟩) (le_refl _) (.int .i8 x.z1))
 replace HP:=hid (NdBox.set (y:=⟨7,x.na,0,0,0,0,0,0,0,none,0,0,none,0,0,x.m1,x.s1,x.z1,0,0,0,0,0⟩) (NdBox.set (y:=⟨7,x.na,0,0,0,0,0,0,0,none,0,0,none,0,0,x.m1,x.s1,0,0,0,0,0,0⟩) (NdBox.set (y:=⟨7,x.na,0,0,0,0,0,0,0,none,0,0,none,0,0,x.m1,0,0,0,0,0,0,0⟩) HP.out 11 (.int .i32 x.m1) (by decide) rfl) 12 (.int .i64 x.s1) (by decide) rfl) 13 (.int .i8 x.z1) (by decide) rfl)
 replace HR:=hid (HR.out.below HL.out hb)
 replace HB:=hid (HB.out.trans (hb.mono (Nat.le_of_lt (lt_of_succ_lt HL.out))))
 clear hb
 generalize (((V55).setCell ⟨b,11,none⟩ (.int .i32 x.m1)).setCell ⟨b,12,none⟩ (.int .i64 x.s1)).setCell ⟨b,13,none⟩ (.int .i8 x.z1)=V56 at *
 refine hK.out _ _ hS2 (fun hHeld=>?_)
 clear hK Kq hS2
 try simp only [Tk.put]
 refine Tk.x 8 rfl ?_
 try simp only [Tk.put]
 refine Tk.s 9 rfl (fun Kq hK=>?_)
 have c17:=HP.out.1.at 17 _ rfl
 have f17:=HP.out.fr 17 (by decide)
 go_simp
 clear c17 f17
 have hS2:=hHeld.below (lt_of_succ_lt HL.out) ((Below.refl b V56).setCell (p:=⟨b,17,none⟩) (le_refl _) (.int .i8 x.lo))
 clear hHeld
 have hb:=((Below.refl b V56).setCell (p:=⟨b,17,none⟩) (le_refl _) (.int .i8 x.lo))
 replace HP:=hid (NdBox.set (y:=⟨7,x.na,0,0,0,0,0,0,0,none,0,0,none,0,0,x.m1,x.s1,x.z1,0,0,0,x.lo,0⟩) HP.out 17 (.int .i8 x.lo) (by decide) rfl)
 replace HR:=hid (HR.out.below HL.out hb)
 replace HB:=hid (HB.out.trans (hb.mono (Nat.le_of_lt (lt_of_succ_lt HL.out))))
 clear hb
 generalize (V56).setCell ⟨b,17,none⟩ (.int .i8 x.lo)=V57 at *
 refine hK.out _ _ hS2 (fun hHeld=>?_)
 clear hK Kq hS2
 try simp only [Tk.put]
 refine Tk.x 10 rfl ?_
 try simp only [Tk.put]
 refine Tk.s 11 rfl (fun Kq hK=>?_)
 have c18:=HP.out.1.at 18 _ rfl
 have f18:=HP.out.fr 18 (by decide)
 go_simp
 clear c18 f18
 have hS2:=hHeld.below (lt_of_succ_lt HL.out) ((Below.refl b V57).setCell (p:=⟨b,18,none⟩) (le_refl _) (.int .i8 x.hi))
 clear hHeld
 have hb:=((Below.refl b V57).setCell (p:=⟨b,18,none⟩) (le_refl _) (.int .i8 x.hi))
 replace HP:=hid (NdBox.set (y:=⟨7,x.na,0,0,0,0,0,0,0,none,0,0,none,0,0,x.m1,x.s1,x.z1,0,0,0,x.lo,x.hi⟩) HP.out 18 (.int .i8 x.hi) (by decide) rfl)
 replace HR:=hid (HR.out.below HL.out hb)
 replace HB:=hid (HB.out.trans (hb.mono (Nat.le_of_lt (lt_of_succ_lt HL.out))))
 clear hb
 generalize (V57).setCell ⟨b,18,none⟩ (.int .i8 x.hi)=V58 at *
 refine hK.out _ _ hS2 (fun hHeld=>?_)
 clear hK Kq hS2
 try simp only [Tk.put]
 refine wpAnyH_done (by kernel_rfl) ?_ _
 have TN:=hid hHeld
 clear hHeld
 have q0:V58.cell? ⟨w.heap.size,0,none⟩=some (.int .i64 7):=TN.out.at 0 _ (by show some (Value.int .i64 x.kd)=_;rw [HK.out])
 have q7:=TN.out.at 7 (.int .i8 x.Z) rfl
 have c7:=HP.out.1.at 7 _ rfl
 have f7:=HP.out.fr 7 (by decide)
 go_upto_region 24 with fail
 clear q0 q7 c7 f7
 have hb:=((Below.refl b V58).setCell (p:=⟨b,7,none⟩) (le_refl _) (.int .i8 x.Z))
 replace HP:=hid (NdBox.set (y:=⟨7,x.na,0,0,0,0,0,x.Z,0,none,0,0,none,0,0,x.m1,x.s1,x.z1,0,0,0,x.lo,x.hi⟩) HP.out 7 (.int .i8 x.Z) (by decide) rfl)
 replace TN:=hid (TN.out.below (lt_of_succ_lt HL.out) hb)
 replace HR:=hid (HR.out.below HL.out hb)
 replace HB:=hid (HB.out.trans (hb.mono (Nat.le_of_lt (lt_of_succ_lt HL.out))))
 clear hb
 generalize (V58).setCell ⟨b,7,none⟩ (.int .i8 x.Z)=V59 at *
 go_wp2_with (first | (refine zac rfl (.tmp 3) rfl b ⟨7,x.na,0,0,0,0,0,x.Z,0,none,0,0,none,0,0,x.m1,x.s1,x.z1,0,0,0,x.lo,x.hi⟩ rfl HP.out.1 ?_) | (refine zaq rfl (.tmp 2) (.tmp 78) rfl (w.heap.size+1) Nd.zero ⟨7,x.na,0,0,0,0,0,x.Z,0,none,0,0,none,0,0,x.m1,x.s1,x.z1,0,0,0,x.lo,x.hi⟩ rfl rfl HR.out ?_;rintro W2 hp hb1 hs1))
 refine bodyPost_ret (za1 rfl _ _ (w.heap.size+1) ⟨7,x.na,0,0,0,0,0,x.Z,0,none,0,0,none,0,0,x.m1,x.s1,x.z1,0,0,0,x.lo,x.hi⟩ rfl hp.1) rfl ?_
 exact⟨rfl,HB.out.trans (hb1.mono (Nat.le_succ _))⟩
theorem own_9 (x:Nd) (hk:x.kd=9) (w:World) :
  Calls Tryz.prog 160 #[.agg x.val] w fun e w'=>e=.returned (.agg (x.ownK 9).val)∧Below w.heap.size w w':=by
 have TN:=hid (NdAt.new x 54 w)
 have HK:=hid hk
 clear hk
 go_enter Tryz.func160,Tryz.ntmps160
 go_upto_region 1 with fail
 have HR:Hid (NdBox (w.heap.size+1) Nd.zero ((w.alloc (.cells x.val 54)).alloc (.cells Nd.zero.val 54))):=hid (by have:=NdBox.new Nd.zero 54 (w.alloc (.cells x.val 54));rwa [World.size_alloc] at this)
 replace TN:=hid (TN.out.below (B:=w.heap.size+1) (lt_succ_self _) ((Below.refl _ _).alloc (by simp) (.cells Nd.zero.val 54)))
 have HB:=hid (((Below.refl w.heap.size w).alloc (le_refl _) (.cells x.val 54)).alloc (by simp) (.cells Nd.zero.val 54))
 have HS:Hid (((w.alloc (.cells x.val 54)).alloc (.cells Nd.zero.val 54)).heap.size=w.heap.size+2):=hid (by simp)
 generalize h:(w.alloc (.cells x.val 54)).alloc (.cells Nd.zero.val 54)=W0 at TN HR HB HS
 rw [show (w.alloc (Obj.cells x.val 54)).alloc (Obj.cells #[.int .i64 0,.int .i64 0,.int .i64 0,.int .i64 0,.int .i64 0,.int .i64 0,.int .i64 0,.int .i8 0,.int .i8 0,.slice none 0 0,.slice none 0 0,.int .i32 0,.int .i64 0,.int .i8 0,.int .i32 0,.int .i64 0,.int .i8 0,.int .i8 0,.int .i8 0] 54)=W0 from h]
 clear h
 have q0:W0.cell? ⟨w.heap.size,0,none⟩=some (.int .i64 9):=TN.out.at 0 _ (by show some (Value.int .i64 x.kd)=_;rw [HK.out])
 have q1:=TN.out.at 1 (.int .i64 x.na) rfl
 go_upto_region 2 with (refine zaq rfl (.tmp 3) (.tmp 8) rfl _ Nd.zero ⟨9,x.na,0,0,0,0,0,0,0,none,0,0,none,0,0,0,0,0,0,0,0,0,0⟩ rfl rfl (NdBox.new Nd.zero _ _) ?_;rintro W1 hp hb1 hs1)
 replace TN:=hid (TN.out.below (by rw [HS.out];omega) (((Below.refl _ _).alloc (le_refl _) _).trans hb1))
 replace HR:=hid (HR.out.below (by rw [HS.out];omega) (((Below.refl _ _).alloc (le_refl _) _).trans hb1))
 replace HB:=hid (HB.out.trans ((((Below.refl _ _).alloc (le_refl _) _).trans hb1).mono (by rw [HS.out];omega)))
 have HP:=hid hp
 have HL:Hid (w.heap.size+1 < W0.heap.size):=hid (by rw [HS.out];omega)
 clear hp hb1 hs1 HS q0 q1
 generalize W0.heap.size=b at *
 clear W0
 have q0:W1.cell? ⟨w.heap.size,0,none⟩=some (.int .i64 9):=TN.out.at 0 _ (by show some (Value.int .i64 x.kd)=_;rw [HK.out])
 go_wp2_with (first | (refine zac rfl (.tmp 3) rfl b ⟨9,x.na,0,0,0,0,0,0,0,none,0,0,none,0,0,0,0,0,0,0,0,0,0⟩ rfl HP.out.1 ?_) | (refine zaq rfl (.tmp 2) (.tmp 78) rfl (w.heap.size+1) Nd.zero ⟨9,x.na,0,0,0,0,0,0,0,none,0,0,none,0,0,0,0,0,0,0,0,0,0⟩ rfl rfl HR.out ?_;rintro W2 hp hb1 hs1))
 refine bodyPost_ret (za1 rfl _ _ (w.heap.size+1) ⟨9,x.na,0,0,0,0,0,0,0,none,0,0,none,0,0,0,0,0,0,0,0,0,0⟩ rfl hp.1) rfl ?_
 exact⟨rfl,HB.out.trans (hb1.mono (Nat.le_succ _))⟩
end CKind
end
end Go.Proofs.YtfgdfignoakkaaaGreatDoor
