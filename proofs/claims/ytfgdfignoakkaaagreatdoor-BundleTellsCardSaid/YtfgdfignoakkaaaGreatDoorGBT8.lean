/- -/
import Derived.Test.YtfgdfignoakkaaaGreatDoorGBT7
open Go.Lib (hid)
open Nat (le_refl lt_of_succ_lt lt_succ_self)
set_option linter.unusedVariables false
set_option linter.unusedSimpArgs false
set_option maxRecDepth 100000
set_option maxHeartbeats 16000000
namespace Go.Proofs.YtfgdfignoakkaaaGreatDoor
namespace CConv
end CConv
namespace CSat
end CSat
namespace CShape
end CShape
namespace CTensor
end CTensor
open Go Go.ChangeShapes Go.WideShapes Go.ChangeAt Go.RowKit Go.Deep
section
namespace CKind
open Plain CSat CShape CTensor CConv
theorem own_1 (x:Nd) (hk:x.kd=1) (w:World) :
  Calls Tryz.prog 160 #[.agg x.val] w fun e w'=>e=.returned (.agg (x.ownK 1).val)∧Below w.heap.size w w':=by
 have TN:=hid (NdAt.new x 54 w)
 have HK:=hid hk
 clear hk
 go_enter Tryz.func160,Tryz.ntmps160
 go_upto_region 1 with fail
 have HR:Hid (NdBox (w.heap.size+1) Nd.zero ((w.alloc (.cells x.val 54)).alloc (.cells Nd.zero.val 54))):=hid (by have:=NdBox.new Nd.zero 54 (w.alloc (.cells x.val 54));rwa [World.size_alloc] at this)
 replace TN:=hid (TN.out.below (B:=w.heap.size+1) (lt_succ_self _) ((Below.refl _ _).alloc (by simp) (.cells Nd.zero.val 54)))
 have HB:=hid (((Below.refl w.heap.size w).alloc (le_refl _) (.cells x.val 54)).alloc (by simp) (.cells Nd.zero.val 54))
 have HS:Hid (((w.alloc (.cells x.val 54)).alloc (.cells Nd.zero.val 54)).heap.size=w.heap.size+2):=hid (by simp)
 generalize h:(w.alloc (.cells x.val 54)).alloc (.cells Nd.zero.val 54)=W0 at TN HR HB HS
 rw [show (w.alloc (Obj.cells x.val 54)).alloc (Obj.cells #[.int .i64 0,.int .i64 0,.int .i64 0,.int .i64 0,.int .i64 0,.int .i64 0,.int .i64 0,.int .i8 0,.int .i8 0,.slice none 0 0,.slice none 0 0,.int .i32 0,.int .i64 0,.int .i8 0,.int .i32 0,.int .i64 0,.int .i8 0,.int .i8 0,.int .i8 0] 54)=W0 from h]
 clear h
 have q0:W0.cell? ⟨w.heap.size,0,none⟩=some (.int .i64 1):=TN.out.at 0 _ (by show some (Value.int .i64 x.kd)=_;rw [HK.out])
 have q1:=TN.out.at 1 (.int .i64 x.na) rfl
 go_upto_region 2 with (refine zaq rfl (.tmp 3) (.tmp 8) rfl _ Nd.zero ⟨1,x.na,0,0,0,0,0,0,0,none,0,0,none,0,0,0,0,0,0,0,0,0,0⟩ rfl rfl (NdBox.new Nd.zero _ _) ?_;rintro W1 hp hb1 hs1)
 replace TN:=hid (TN.out.below (by rw [HS.out];omega) (((Below.refl _ _).alloc (le_refl _) _).trans hb1))
 replace HR:=hid (HR.out.below (by rw [HS.out];omega) (((Below.refl _ _).alloc (le_refl _) _).trans hb1))
 replace HB:=hid (HB.out.trans ((((Below.refl _ _).alloc (le_refl _) _).trans hb1).mono (by rw [HS.out];omega)))
 have HP:=hid hp
 have HL:Hid (w.heap.size+1 < W0.heap.size):=hid (by rw [HS.out];omega)
 clear hp hb1 hs1 HS q0 q1
 generalize W0.heap.size=b at *
 clear W0
 have q0:W1.cell? ⟨w.heap.size,0,none⟩=some (.int .i64 1):=TN.out.at 0 _ (by show some (Value.int .i64 x.kd)=_;rw [HK.out])
 have q6:=TN.out.at 6 (.int .i64 x.O) rfl
 have c6:=HP.out.1.at 6 _ rfl
 have f6:=HP.out.fr 6 (by decide)
 go_upto_region 10 with fail
 clear q0 q6 c6 f6
 have hb:=((Below.refl b W1).setCell (p:=⟨b,6,none⟩) (le_refl _) (.int .i64 x.O))
 replace HP:=hid (NdBox.set (y:=⟨1,x.na,0,0,0,0,x.O,0,0,none,0,0,none,0,0,0,0,0,0,0,0,0,0⟩) HP.out 6 (.int .i64 x.O) (by decide) rfl)
 replace TN:=hid (TN.out.below (lt_of_succ_lt HL.out) hb)
 replace HR:=hid (HR.out.below HL.out hb)
 replace HB:=hid (HB.out.trans (hb.mono (Nat.le_of_lt (lt_of_succ_lt HL.out))))
 clear hb
 generalize (W1).setCell ⟨b,6,none⟩ (.int .i64 x.O)=V1 at *
 have hb:=(Below.refl b V1).drew
 replace HP:=hid (HP.out.below (lt_succ_self b) (Below.refl (b+1) V1).drew)
 replace HR:=hid (HR.out.below HL.out hb)
 replace HB:=hid (HB.out.trans (hb.mono (Nat.le_of_lt (lt_of_succ_lt HL.out))))
 refine wp_region_held_drew (S:=NdAt w.heap.size x) (by kernel_rfl) (TN.out.below (lt_of_succ_lt HL.out) hb) (fun hHeld=>?_)
 clear hb TN
 generalize V1.drew=V2 at *
 refine Tk.x 0 rfl ?_
 try simp only [Tk.put]
 refine Tk.y 1 (v:=(.slice x.WA x.nW x.cW)) rfl ?_ ?_
 ·intro wS hSw
  have q:=hSw.at 9 (.slice x.WA x.nW x.cW) rfl
  first | (go_simp;done) | (go_simp;with_reducible rfl)
 try simp only [Tk.put]
 refine Tk.x 2 rfl ?_
 try simp only [Tk.put]
 refine Tk.y 3 (v:=(.slice x.BA x.nB x.cB)) rfl ?_ ?_
 ·intro wS hSw
  have q:=hSw.at 10 (.slice x.BA x.nB x.cB) rfl
  first | (go_simp;done) | (go_simp;with_reducible rfl)
 try simp only [Tk.put]
 refine Tk.x 4 rfl ?_
 try simp only [Tk.put]
 refine Tk.s 5 rfl (fun Kq hK=>?_)
 have c9:=HP.out.1.at 9 _ rfl
 have f9:=HP.out.fr 9 (by decide)
 go_simp
 clear c9 f9
 have hS2:=hHeld.below (lt_of_succ_lt HL.out) ((Below.refl b V2).setCell (p:=⟨b,9,none⟩) (le_refl _) (.slice x.WA x.nW x.cW))
 clear hHeld
 have hb:=((Below.refl b V2).setCell (p:=⟨b,9,none⟩) (le_refl _) (.slice x.WA x.nW x.cW))
 replace HP:=hid (NdBox.set (y:=⟨1,x.na,0,0,0,0,x.O,0,0,x.WA,x.nW,x.cW,none,0,0,0,0,0,0,0,0,0,0⟩) HP.out 9 (.slice x.WA x.nW x.cW) (by decide) rfl)
 replace HR:=hid (HR.out.below HL.out hb)
 replace HB:=hid (HB.out.trans (hb.mono (Nat.le_of_lt (lt_of_succ_lt HL.out))))
 clear hb
 generalize (V2).setCell ⟨b,9,none⟩ (.slice x.WA x.nW x.cW)=V3 at *
 refine hK.out _ _ hS2 (fun hHeld=>?_)
 clear hK Kq hS2
 try simp only [Tk.put]
 refine Tk.x 6 rfl ?_
 try simp only [Tk.put]
 refine Tk.s 7 rfl (fun Kq hK=>?_)
 have c10:=HP.out.1.at 10 _ rfl
 have f10:=HP.out.fr 10 (by decide)
 go_simp
 clear c10 f10
 have hS2:=hHeld.below (lt_of_succ_lt HL.out) ((Below.refl b V3).setCell (p:=⟨b,10,none⟩) (le_refl _) (.slice x.BA x.nB x.cB))
 clear hHeld
 have hb:=((Below.refl b V3).setCell (p:=⟨b,10,none⟩) (le_refl _) (.slice x.BA x.nB x.cB))
 replace HP:=hid (NdBox.set (y:=⟨1,x.na,0,0,0,0,x.O,0,0,x.WA,x.nW,x.cW,x.BA,x.nB,x.cB,0,0,0,0,0,0,0,0⟩) HP.out 10 (.slice x.BA x.nB x.cB) (by decide) rfl)
 replace HR:=hid (HR.out.below HL.out hb)
 replace HB:=hid (HB.out.trans (hb.mono (Nat.le_of_lt (lt_of_succ_lt HL.out))))
 clear hb
 generalize (V3).setCell ⟨b,10,none⟩ (.slice x.BA x.nB x.cB)=V4 at *
 refine hK.out _ _ hS2 (fun hHeld=>?_)
 clear hK Kq hS2
 try simp only [Tk.put]
 refine wpAnyH_done (by kernel_rfl) ?_ _
 have TN:=hid hHeld
 clear hHeld
 have q0:V4.cell? ⟨w.heap.size,0,none⟩=some (.int .i64 1):=TN.out.at 0 _ (by show some (Value.int .i64 x.kd)=_;rw [HK.out])
 go_upto_region 11 with fail
 clear q0
 have hb:=(Below.refl b V4).drew
 replace HP:=hid (HP.out.below (lt_succ_self b) (Below.refl (b+1) V4).drew)
 replace HR:=hid (HR.out.below HL.out hb)
 replace HB:=hid (HB.out.trans (hb.mono (Nat.le_of_lt (lt_of_succ_lt HL.out))))
 refine wp_region_held_drew (S:=NdAt w.heap.size x) (by kernel_rfl) (TN.out.below (lt_of_succ_lt HL.out) hb) (fun hHeld=>?_)
 clear hb TN
 generalize V4.drew=V5 at *
 refine Tk.x 0 rfl ?_
 try simp only [Tk.put]
 refine Tk.y 1 (v:=.agg #[.int .i32 x.m1,.int .i64 x.s1,.int .i8 x.z1]) rfl ?_ ?_
 ·intro wS hSw
  have q:=hSw.at 11 (.int .i32 x.m1) rfl
  have q2:=hSw.at 12 (.int .i64 x.s1) rfl
  have q3:=hSw.at 13 (.int .i8 x.z1) rfl
  first | (go_simp;done) | (go_simp;with_reducible rfl)
 try simp only [Tk.put]
 refine Tk.x 2 rfl ?_
 try simp only [Tk.put]
 refine Tk.y 3 (v:=(.int .i8 x.lo)) rfl ?_ ?_
 ·intro wS hSw
  have q:=hSw.at 17 (.int .i8 x.lo) rfl
  first | (go_simp;done) | (go_simp;with_reducible rfl)
 try simp only [Tk.put]
 refine Tk.x 4 rfl ?_
 try simp only [Tk.put]
 refine Tk.y 5 (v:=(.int .i8 x.hi)) rfl ?_ ?_
 ·intro wS hSw
  have q:=hSw.at 18 (.int .i8 x.hi) rfl
  first | (go_simp;done) | (go_simp;with_reducible rfl)
 try simp only [Tk.put]
 refine Tk.x 6 rfl ?_
 try simp only [Tk.put]
 refine Tk.s 7 rfl (fun Kq hK=>?_)
 have c11:=HP.out.1.at 11 _ rfl
 have f11:=HP.out.fr 11 (by decide)
 have c12:=HP.out.1.at 12 _ rfl
 have f12:=HP.out.fr 12 (by decide)
 have c13:=HP.out.1.at 13 _ rfl
 have f13:=HP.out.fr 13 (by decide)
 go_simp
 clear c11 f11 c12 f12 c13 f13
 have hS2:=hHeld.below (lt_of_succ_lt HL.out) ((((Below.refl b V5).setCell (p:=⟨b,11,none⟩) (le_refl _) (.int .i32 x.m1)).setCell (p:=⟨b,12,none⟩) (le_refl _) (.int .i64 x.s1)).setCell (p:=⟨b,13,none⟩) (le_refl _) (.int .i8 x.z1))
 clear hHeld
 have hb:=((((Below.refl b V5).setCell (p:=⟨b,11,none⟩) (le_refl _) (.int .i32 x.m1)).setCell (p:=⟨b,12,none⟩) (le_refl _) (.int .i64 x.s1)).setCell (p:=⟨b,13,none⟩) (le_refl _) (.int .i8 x.z1))
 replace HP:=hid (NdBox.set (y:=⟨1,x.na,0,0,0,0,x.O,0,0,x.WA,x.nW,x.cW,x.BA,x.nB,x.cB,x.m1,x.s1,x.z1,0,0,0,0,0⟩) (NdBox.set (y:=⟨1,x.na,0,0,0,0,x.O,0,0,x.WA,x.nW,x.cW,x.BA,x.nB,x.cB,x.m1,x.s1,0,0,0,0,0,0⟩) (NdBox.set (y:=⟨1,x.na,0,0,0,0,x.O,0,0,x.WA,x.nW,x.cW,x.BA,x.nB,x.cB,x.m1,0,0,0,0,0,0,0⟩) HP.out 11 (.int .i32 x.m1) (by decide) rfl) 12 (.int .i64 x.s1) (by decide) rfl) 13 (.int .i8 x.z1) (by decide) rfl)
 replace HR:=hid (HR.out.below HL.out hb)
 replace HB:=hid (HB.out.trans (hb.mono (Nat.le_of_lt (lt_of_succ_lt HL.out))))
 clear hb
 generalize (((V5).setCell ⟨b,11,none⟩ (.int .i32 x.m1)).setCell ⟨b,12,none⟩ (.int .i64 x.s1)).setCell ⟨b,13,none⟩ (.int .i8 x.z1)=V6 at *
 refine hK.out _ _ hS2 (fun hHeld=>?_)
 clear hK Kq hS2
 try simp only [Tk.put]
 refine Tk.x 8 rfl ?_
 try simp only [Tk.put]
 refine Tk.s 9 rfl (fun Kq hK=>?_)
 have c17:=HP.out.1.at 17 _ rfl
 have f17:=HP.out.fr 17 (by decide)
 go_simp
 clear c17 f17
 have hS2:=hHeld.below (lt_of_succ_lt HL.out) ((Below.refl b V6).setCell (p:=⟨b,17,none⟩) (le_refl _) (.int .i8 x.lo))
 clear hHeld
 have hb:=((Below.refl b V6).setCell (p:=⟨b,17,none⟩) (le_refl _) (.int .i8 x.lo))
 replace HP:=hid (NdBox.set (y:=⟨1,x.na,0,0,0,0,x.O,0,0,x.WA,x.nW,x.cW,x.BA,x.nB,x.cB,x.m1,x.s1,x.z1,0,0,0,x.lo,0⟩) HP.out 17 (.int .i8 x.lo) (by decide) rfl)
 replace HR:=hid (HR.out.below HL.out hb)
 replace HB:=hid (HB.out.trans (hb.mono (Nat.le_of_lt (lt_of_succ_lt HL.out))))
 clear hb
 generalize (V6).setCell ⟨b,17,none⟩ (.int .i8 x.lo)=V7 at *
 refine hK.out _ _ hS2 (fun hHeld=>?_)
 clear hK Kq hS2
 try simp only [Tk.put]
 refine Tk.x 10 rfl ?_
 try simp only [Tk.put]
 refine Tk.s 11 rfl (fun Kq hK=>?_)
 have c18:=HP.out.1.at 18 _ rfl
 have f18:=HP.out.fr 18 (by decide)
 go_simp
 clear c18 f18
 have hS2:=hHeld.below (lt_of_succ_lt HL.out) ((Below.refl b V7).setCell (p:=⟨b,18,none⟩) (le_refl _) (.int .i8 x.hi))
 clear hHeld
 have hb:=((Below.refl b V7).setCell (p:=⟨b,18,none⟩) (le_refl _) (.int .i8 x.hi))
 replace HP:=hid (NdBox.set (y:=⟨1,x.na,0,0,0,0,x.O,0,0,x.WA,x.nW,x.cW,x.BA,x.nB,x.cB,x.m1,x.s1,x.z1,0,0,0,x.lo,x.hi⟩) HP.out 18 (.int .i8 x.hi) (by decide) rfl)
 replace HR:=hid (HR.out.below HL.out hb)
 replace HB:=hid (HB.out.trans (hb.mono (Nat.le_of_lt (lt_of_succ_lt HL.out))))
 clear hb
 generalize (V7).setCell ⟨b,18,none⟩ (.int .i8 x.hi)=V8 at *
 refine hK.out _ _ hS2 (fun hHeld=>?_)
 clear hK Kq hS2
 try simp only [Tk.put]
 refine wpAnyH_done (by kernel_rfl) ?_ _
 have TN:=hid hHeld
 clear hHeld
 have q0:V8.cell? ⟨w.heap.size,0,none⟩=some (.int .i64 1):=TN.out.at 0 _ (by show some (Value.int .i64 x.kd)=_;rw [HK.out])
 have q7:=TN.out.at 7 (.int .i8 x.Z) rfl
 have c7:=HP.out.1.at 7 _ rfl
 have f7:=HP.out.fr 7 (by decide)
 go_upto_region 22 with fail
 clear q0 q7 c7 f7
 have hb:=((Below.refl b V8).setCell (p:=⟨b,7,none⟩) (le_refl _) (.int .i8 x.Z))
 replace HP:=hid (NdBox.set (y:=⟨1,x.na,0,0,0,0,x.O,x.Z,0,x.WA,x.nW,x.cW,x.BA,x.nB,x.cB,x.m1,x.s1,x.z1,0,0,0,x.lo,x.hi⟩) HP.out 7 (.int .i8 x.Z) (by decide) rfl)
 replace TN:=hid (TN.out.below (lt_of_succ_lt HL.out) hb)
 replace HR:=hid (HR.out.below HL.out hb)
 replace HB:=hid (HB.out.trans (hb.mono (Nat.le_of_lt (lt_of_succ_lt HL.out))))
 clear hb
 generalize (V8).setCell ⟨b,7,none⟩ (.int .i8 x.Z)=V9 at *
 have hb:=(Below.refl b V9).drew
 replace HP:=hid (HP.out.below (lt_succ_self b) (Below.refl (b+1) V9).drew)
 replace HR:=hid (HR.out.below HL.out hb)
 replace HB:=hid (HB.out.trans (hb.mono (Nat.le_of_lt (lt_of_succ_lt HL.out))))
 refine wp_region_held_drew (S:=NdAt w.heap.size x) (by kernel_rfl) (TN.out.below (lt_of_succ_lt HL.out) hb) (fun hHeld=>?_)
 clear hb TN
 generalize V9.drew=V10 at *
 refine Tk.x 0 rfl ?_
 try simp only [Tk.put]
 refine Tk.y 1 (v:=(.int .i64 x.K)) rfl ?_ ?_
 ·intro wS hSw
  have q:=hSw.at 3 (.int .i64 x.K) rfl
  first | (go_simp;done) | (go_simp;with_reducible rfl)
 try simp only [Tk.put]
 refine Tk.x 2 rfl ?_
 try simp only [Tk.put]
 refine Tk.y 3 (v:=(.int .i64 x.S)) rfl ?_ ?_
 ·intro wS hSw
  have q:=hSw.at 4 (.int .i64 x.S) rfl
  first | (go_simp;done) | (go_simp;with_reducible rfl)
 try simp only [Tk.put]
 refine Tk.x 4 rfl ?_
 try simp only [Tk.put]
 refine Tk.s 5 rfl (fun Kq hK=>?_)
 have c3:=HP.out.1.at 3 _ rfl
 have f3:=HP.out.fr 3 (by decide)
 go_simp
 clear c3 f3
 have hS2:=hHeld.below (lt_of_succ_lt HL.out) ((Below.refl b V10).setCell (p:=⟨b,3,none⟩) (le_refl _) (.int .i64 x.K))
 clear hHeld
 have hb:=((Below.refl b V10).setCell (p:=⟨b,3,none⟩) (le_refl _) (.int .i64 x.K))
 replace HP:=hid (NdBox.set (y:=⟨1,x.na,0,x.K,0,0,x.O,x.Z,0,x.WA,x.nW,x.cW,x.BA,x.nB,x.cB,x.m1,x.s1,x.z1,0,0,0,x.lo,x.hi⟩) HP.out 3 (.int .i64 x.K) (by decide) rfl)
 replace HR:=hid (HR.out.below HL.out hb)
 replace HB:=hid (HB.out.trans (hb.mono (Nat.le_of_lt (lt_of_succ_lt HL.out))))
 clear hb
 generalize (V10).setCell ⟨b,3,none⟩ (.int .i64 x.K)=V11 at *
 refine hK.out _ _ hS2 (fun hHeld=>?_)
 clear hK Kq hS2
 try simp only [Tk.put]
 refine Tk.x 6 rfl ?_
 try simp only [Tk.put]
 refine Tk.s 7 rfl (fun Kq hK=>?_)
 have c4:=HP.out.1.at 4 _ rfl
 have f4:=HP.out.fr 4 (by decide)
 go_simp
 clear c4 f4
 have hS2:=hHeld.below (lt_of_succ_lt HL.out) ((Below.refl b V11).setCell (p:=⟨b,4,none⟩) (le_refl _) (.int .i64 x.S))
 clear hHeld
 have hb:=((Below.refl b V11).setCell (p:=⟨b,4,none⟩) (le_refl _) (.int .i64 x.S))
 replace HP:=hid (NdBox.set (y:=⟨1,x.na,0,x.K,x.S,0,x.O,x.Z,0,x.WA,x.nW,x.cW,x.BA,x.nB,x.cB,x.m1,x.s1,x.z1,0,0,0,x.lo,x.hi⟩) HP.out 4 (.int .i64 x.S) (by decide) rfl)
 replace HR:=hid (HR.out.below HL.out hb)
 replace HB:=hid (HB.out.trans (hb.mono (Nat.le_of_lt (lt_of_succ_lt HL.out))))
 clear hb
 generalize (V11).setCell ⟨b,4,none⟩ (.int .i64 x.S)=V12 at *
 refine hK.out _ _ hS2 (fun hHeld=>?_)
 clear hK Kq hS2
 try simp only [Tk.put]
 refine wpAnyH_done (by kernel_rfl) ?_ _
 have TN:=hid hHeld
 clear hHeld
 have q0:V12.cell? ⟨w.heap.size,0,none⟩=some (.int .i64 1):=TN.out.at 0 _ (by show some (Value.int .i64 x.kd)=_;rw [HK.out])
 have q5:=TN.out.at 5 (.int .i64 x.P) rfl
 have c5:=HP.out.1.at 5 _ rfl
 have f5:=HP.out.fr 5 (by decide)
 go_upto_region 24 with fail
 clear q0 q5 c5 f5
 have hb:=((Below.refl b V12).setCell (p:=⟨b,5,none⟩) (le_refl _) (.int .i64 x.P))
 replace HP:=hid (NdBox.set (y:=⟨1,x.na,0,x.K,x.S,x.P,x.O,x.Z,0,x.WA,x.nW,x.cW,x.BA,x.nB,x.cB,x.m1,x.s1,x.z1,0,0,0,x.lo,x.hi⟩) HP.out 5 (.int .i64 x.P) (by decide) rfl)
 replace TN:=hid (TN.out.below (lt_of_succ_lt HL.out) hb)
 replace HR:=hid (HR.out.below HL.out hb)
 replace HB:=hid (HB.out.trans (hb.mono (Nat.le_of_lt (lt_of_succ_lt HL.out))))
 clear hb
 generalize (V12).setCell ⟨b,5,none⟩ (.int .i64 x.P)=V13 at *
 go_wp2_with (first | (refine zac rfl (.tmp 3) rfl b ⟨1,x.na,0,x.K,x.S,x.P,x.O,x.Z,0,x.WA,x.nW,x.cW,x.BA,x.nB,x.cB,x.m1,x.s1,x.z1,0,0,0,x.lo,x.hi⟩ rfl HP.out.1 ?_) | (refine zaq rfl (.tmp 2) (.tmp 78) rfl (w.heap.size+1) Nd.zero ⟨1,x.na,0,x.K,x.S,x.P,x.O,x.Z,0,x.WA,x.nW,x.cW,x.BA,x.nB,x.cB,x.m1,x.s1,x.z1,0,0,0,x.lo,x.hi⟩ rfl rfl HR.out ?_;rintro W2 hp hb1 hs1))
 refine bodyPost_ret (za1 rfl _ _ (w.heap.size+1) ⟨1,x.na,0,x.K,x.S,x.P,x.O,x.Z,0,x.WA,x.nW,x.cW,x.BA,x.nB,x.cB,x.m1,x.s1,x.z1,0,0,0,x.lo,x.hi⟩ rfl hp.1) rfl ?_
 exact⟨rfl,HB.out.trans (hb1.mono (Nat.le_succ _))⟩
theorem own_4 (x:Nd) (hk:x.kd=4) (w:World) :
  Calls Tryz.prog 160 #[.agg x.val] w fun e w'=>e=.returned (.agg (x.ownK 4).val)∧Below w.heap.size w w':=by
 have TN:=hid (NdAt.new x 54 w)
 have HK:=hid hk
 clear hk
 go_enter Tryz.func160,Tryz.ntmps160
 go_upto_region 1 with fail
 have HR:Hid (NdBox (w.heap.size+1) Nd.zero ((w.alloc (.cells x.val 54)).alloc (.cells Nd.zero.val 54))):=hid (by have:=NdBox.new Nd.zero 54 (w.alloc (.cells x.val 54));rwa [World.size_alloc] at this)
 replace TN:=hid (TN.out.below (B:=w.heap.size+1) (lt_succ_self _) ((Below.refl _ _).alloc (by simp) (.cells Nd.zero.val 54)))
 have HB:=hid (((Below.refl w.heap.size w).alloc (le_refl _) (.cells x.val 54)).alloc (by simp) (.cells Nd.zero.val 54))
 have HS:Hid (((w.alloc (.cells x.val 54)).alloc (.cells Nd.zero.val 54)).heap.size=w.heap.size+2):=hid (by simp)
 generalize h:(w.alloc (.cells x.val 54)).alloc (.cells Nd.zero.val 54)=W0 at TN HR HB HS
 rw [show (w.alloc (Obj.cells x.val 54)).alloc (Obj.cells #[.int .i64 0,.int .i64 0,.int .i64 0,.int .i64 0,.int .i64 0,.int .i64 0,.int .i64 0,.int .i8 0,.int .i8 0,.slice none 0 0,.slice none 0 0,.int .i32 0,.int .i64 0,.int .i8 0,.int .i32 0,.int .i64 0,.int .i8 0,.int .i8 0,.int .i8 0] 54)=W0 from h]
 clear h
 have q0:W0.cell? ⟨w.heap.size,0,none⟩=some (.int .i64 4):=TN.out.at 0 _ (by show some (Value.int .i64 x.kd)=_;rw [HK.out])
 have q1:=TN.out.at 1 (.int .i64 x.na) rfl
 go_upto_region 2 with (refine zaq rfl (.tmp 3) (.tmp 8) rfl _ Nd.zero ⟨4,x.na,0,0,0,0,0,0,0,none,0,0,none,0,0,0,0,0,0,0,0,0,0⟩ rfl rfl (NdBox.new Nd.zero _ _) ?_;rintro W1 hp hb1 hs1)
 replace TN:=hid (TN.out.below (by rw [HS.out];omega) (((Below.refl _ _).alloc (le_refl _) _).trans hb1))
 replace HR:=hid (HR.out.below (by rw [HS.out];omega) (((Below.refl _ _).alloc (le_refl _) _).trans hb1))
 replace HB:=hid (HB.out.trans ((((Below.refl _ _).alloc (le_refl _) _).trans hb1).mono (by rw [HS.out];omega)))
 have HP:=hid hp
 have HL:Hid (w.heap.size+1 < W0.heap.size):=hid (by rw [HS.out];omega)
 clear hp hb1 hs1 HS q0 q1
 generalize W0.heap.size=b at *
 clear W0
 have q0:W1.cell? ⟨w.heap.size,0,none⟩=some (.int .i64 4):=TN.out.at 0 _ (by show some (Value.int .i64 x.kd)=_;rw [HK.out])
 go_upto_region 22 with fail
 clear q0
 have hb:=(Below.refl b W1).drew
 replace HP:=hid (HP.out.below (lt_succ_self b) (Below.refl (b+1) W1).drew)
 replace HR:=hid (HR.out.below HL.out hb)
 replace HB:=hid (HB.out.trans (hb.mono (Nat.le_of_lt (lt_of_succ_lt HL.out))))
 refine wp_region_held_drew (S:=NdAt w.heap.size x) (by kernel_rfl) (TN.out.below (lt_of_succ_lt HL.out) hb) (fun hHeld=>?_)
 clear hb TN
 generalize W1.drew=V14 at *
 refine Tk.x 0 rfl ?_
 try simp only [Tk.put]
 refine Tk.y 1 (v:=(.int .i64 x.K)) rfl ?_ ?_
 ·intro wS hSw
  have q:=hSw.at 3 (.int .i64 x.K) rfl
  first | (go_simp;done) | (go_simp;with_reducible rfl)
 try simp only [Tk.put]
 refine Tk.x 2 rfl ?_
 try simp only [Tk.put]
 refine Tk.y 3 (v:=(.int .i64 x.S)) rfl ?_ ?_
 ·intro wS hSw
  have q:=hSw.at 4 (.int .i64 x.S) rfl
  first | (go_simp;done) | (go_simp;with_reducible rfl)
 try simp only [Tk.put]
 refine Tk.x 4 rfl ?_
 try simp only [Tk.put]
 refine Tk.s 5 rfl (fun Kq hK=>?_)
 have c3:=HP.out.1.at 3 _ rfl
 have f3:=HP.out.fr 3 (by decide)
 go_simp
 clear c3 f3
 have hS2:=hHeld.below (lt_of_succ_lt HL.out) ((Below.refl b V14).setCell (p:=⟨b,3,none⟩) (le_refl _) (.int .i64 x.K))
 clear hHeld
 have hb:=((Below.refl b V14).setCell (p:=⟨b,3,none⟩) (le_refl _) (.int .i64 x.K))
 replace HP:=hid (NdBox.set (y:=⟨4,x.na,0,x.K,0,0,0,0,0,none,0,0,none,0,0,0,0,0,0,0,0,0,0⟩) HP.out 3 (.int .i64 x.K) (by decide) rfl)
 replace HR:=hid (HR.out.below HL.out hb)
 replace HB:=hid (HB.out.trans (hb.mono (Nat.le_of_lt (lt_of_succ_lt HL.out))))
 clear hb
 generalize (V14).setCell ⟨b,3,none⟩ (.int .i64 x.K)=V15 at *
 refine hK.out _ _ hS2 (fun hHeld=>?_)
 clear hK Kq hS2
 try simp only [Tk.put]
 refine Tk.x 6 rfl ?_
 try simp only [Tk.put]
 refine Tk.s 7 rfl (fun Kq hK=>?_)
 have c4:=HP.out.1.at 4 _ rfl
 have f4:=HP.out.fr 4 (by decide)
 go_simp
 clear c4 f4
 have hS2:=hHeld.below (lt_of_succ_lt HL.out) ((Below.refl b V15).setCell (p:=⟨b,4,none⟩) (le_refl _) (.int .i64 x.S))
 clear hHeld
 have hb:=((Below.refl b V15).setCell (p:=⟨b,4,none⟩) (le_refl _) (.int .i64 x.S))
 replace HP:=hid (NdBox.set (y:=⟨4,x.na,0,x.K,x.S,0,0,0,0,none,0,0,none,0,0,0,0,0,0,0,0,0,0⟩) HP.out 4 (.int .i64 x.S) (by decide) rfl)
 replace HR:=hid (HR.out.below HL.out hb)
 replace HB:=hid (HB.out.trans (hb.mono (Nat.le_of_lt (lt_of_succ_lt HL.out))))
 clear hb
 generalize (V15).setCell ⟨b,4,none⟩ (.int .i64 x.S)=V16 at *
 refine hK.out _ _ hS2 (fun hHeld=>?_)
 clear hK Kq hS2
 try simp only [Tk.put]
 refine wpAnyH_done (by kernel_rfl) ?_ _
 have TN:=hid hHeld
 clear hHeld
 have q0:V16.cell? ⟨w.heap.size,0,none⟩=some (.int .i64 4):=TN.out.at 0 _ (by show some (Value.int .i64 x.kd)=_;rw [HK.out])
 have q5:=TN.out.at 5 (.int .i64 x.P) rfl
 have c5:=HP.out.1.at 5 _ rfl
 have f5:=HP.out.fr 5 (by decide)
 go_upto_region 24 with fail
 clear q0 q5 c5 f5
 have hb:=((Below.refl b V16).setCell (p:=⟨b,5,none⟩) (le_refl _) (.int .i64 x.P))
 replace HP:=hid (NdBox.set (y:=⟨4,x.na,0,x.K,x.S,x.P,0,0,0,none,0,0,none,0,0,0,0,0,0,0,0,0,0⟩) HP.out 5 (.int .i64 x.P) (by decide) rfl)
 replace TN:=hid (TN.out.below (lt_of_succ_lt HL.out) hb)
 replace HR:=hid (HR.out.below HL.out hb)
 replace HB:=hid (HB.out.trans (hb.mono (Nat.le_of_lt (lt_of_succ_lt HL.out))))
 clear hb
 generalize (V16).setCell ⟨b,5,none⟩ (.int .i64 x.P)=V17 at *
 go_wp2_with (first | (refine zac rfl (.tmp 3) rfl b ⟨4,x.na,0,x.K,x.S,x.P,0,0,0,none,0,0,none,0,0,0,0,0,0,0,0,0,0⟩ rfl HP.out.1 ?_) | (refine zaq rfl (.tmp 2) (.tmp 78) rfl (w.heap.size+1) Nd.zero ⟨4,x.na,0,x.K,x.S,x.P,0,0,0,none,0,0,none,0,0,0,0,0,0,0,0,0,0⟩ rfl rfl HR.out ?_;rintro W2 hp hb1 hs1))
 refine bodyPost_ret (za1 rfl _ _ (w.heap.size+1) ⟨4,x.na,0,x.K,x.S,x.P,0,0,0,none,0,0,none,0,0,0,0,0,0,0,0,0,0⟩ rfl hp.1) rfl ?_
 exact⟨rfl,HB.out.trans (hb1.mono (Nat.le_succ _))⟩
theorem own_6 (x:Nd) (hk:x.kd=6) (w:World) :
  Calls Tryz.prog 160 #[.agg x.val] w fun e w'=>e=.returned (.agg (x.ownK 6).val)∧Below w.heap.size w w':=by
 have TN:=hid (NdAt.new x 54 w)
 have HK:=hid hk
 clear hk
 go_enter Tryz.func160,Tryz.ntmps160
 go_upto_region 1 with fail
 have HR:Hid (NdBox (w.heap.size+1) Nd.zero ((w.alloc (.cells x.val 54)).alloc (.cells Nd.zero.val 54))):=hid (by have:=NdBox.new Nd.zero 54 (w.alloc (.cells x.val 54));rwa [World.size_alloc] at this)
 replace TN:=hid (TN.out.below (B:=w.heap.size+1) (lt_succ_self _) ((Below.refl _ _).alloc (by simp) (.cells Nd.zero.val 54)))
 have HB:=hid (((Below.refl w.heap.size w).alloc (le_refl _) (.cells x.val 54)).alloc (by simp) (.cells Nd.zero.val 54))
 have HS:Hid (((w.alloc (.cells x.val 54)).alloc (.cells Nd.zero.val 54)).heap.size=w.heap.size+2):=hid (by simp)
 generalize h:(w.alloc (.cells x.val 54)).alloc (.cells Nd.zero.val 54)=W0 at TN HR HB HS
 rw [show (w.alloc (Obj.cells x.val 54)).alloc (Obj.cells #[.int .i64 0,.int .i64 0,.int .i64 0,.int .i64 0,.int .i64 0,.int .i64 0,.int .i64 0,.int .i8 0,.int .i8 0,.slice none 0 0,.slice none 0 0,.int .i32 0,.int .i64 0,.int .i8 0,.int .i32 0,.int .i64 0,.int .i8 0,.int .i8 0,.int .i8 0] 54)=W0 from h]
 clear h
 have q0:W0.cell? ⟨w.heap.size,0,none⟩=some (.int .i64 6):=TN.out.at 0 _ (by show some (Value.int .i64 x.kd)=_;rw [HK.out])
 have q1:=TN.out.at 1 (.int .i64 x.na) rfl
 go_upto_region 2 with (refine zaq rfl (.tmp 3) (.tmp 8) rfl _ Nd.zero ⟨6,x.na,0,0,0,0,0,0,0,none,0,0,none,0,0,0,0,0,0,0,0,0,0⟩ rfl rfl (NdBox.new Nd.zero _ _) ?_;rintro W1 hp hb1 hs1)
 replace TN:=hid (TN.out.below (by rw [HS.out];omega) (((Below.refl _ _).alloc (le_refl _) _).trans hb1))
 replace HR:=hid (HR.out.below (by rw [HS.out];omega) (((Below.refl _ _).alloc (le_refl _) _).trans hb1))
 replace HB:=hid (HB.out.trans ((((Below.refl _ _).alloc (le_refl _) _).trans hb1).mono (by rw [HS.out];omega)))
 have HP:=hid hp
 have HL:Hid (w.heap.size+1 < W0.heap.size):=hid (by rw [HS.out];omega)
 clear hp hb1 hs1 HS q0 q1
 generalize W0.heap.size=b at *
 clear W0
 have q0:W1.cell? ⟨w.heap.size,0,none⟩=some (.int .i64 6):=TN.out.at 0 _ (by show some (Value.int .i64 x.kd)=_;rw [HK.out])
 go_upto_region 11 with fail
 clear q0
 have hb:=(Below.refl b W1).drew
 replace HP:=hid (HP.out.below (lt_succ_self b) (Below.refl (b+1) W1).drew)
 replace HR:=hid (HR.out.below HL.out hb)
 replace HB:=hid (HB.out.trans (hb.mono (Nat.le_of_lt (lt_of_succ_lt HL.out))))
 refine wp_region_held_drew (S:=NdAt w.heap.size x) (by kernel_rfl) (TN.out.below (lt_of_succ_lt HL.out) hb) (fun hHeld=>?_)
 clear hb TN
 generalize W1.drew=V18 at *
 refine Tk.x 0 rfl ?_
 try simp only [Tk.put]
 refine Tk.y 1 (v:=.agg #[.int .i32 x.m1,.int .i64 x.s1,.int .i8 x.z1]) rfl ?_ ?_
 ·intro wS hSw
  have q:=hSw.at 11 (.int .i32 x.m1) rfl
  have q2:=hSw.at 12 (.int .i64 x.s1) rfl
  have q3:=hSw.at 13 (.int .i8 x.z1) rfl
  first | (go_simp;done) | (go_simp;with_reducible rfl)
 try simp only [Tk.put]
 refine Tk.x 2 rfl ?_
 try simp only [Tk.put]
 refine Tk.y 3 (v:=(.int .i8 x.lo)) rfl ?_ ?_
 ·intro wS hSw
  have q:=hSw.at 17 (.int .i8 x.lo) rfl
  first | (go_simp;done) | (go_simp;with_reducible rfl)
 try simp only [Tk.put]
 refine Tk.x 4 rfl ?_
 try simp only [Tk.put]
 refine Tk.y 5 (v:=(.int .i8 x.hi)) rfl ?_ ?_
 ·intro wS hSw
  have q:=hSw.at 18 (.int .i8 x.hi) rfl
  first | (go_simp;done) | (go_simp;with_reducible rfl)
 try simp only [Tk.put]
 refine Tk.x 6 rfl ?_
 try simp only [Tk.put]
 refine Tk.s 7 rfl (fun Kq hK=>?_)
 have c11:=HP.out.1.at 11 _ rfl
 have f11:=HP.out.fr 11 (by decide)
 have c12:=HP.out.1.at 12 _ rfl
 have f12:=HP.out.fr 12 (by decide)
 have c13:=HP.out.1.at 13 _ rfl
 have f13:=HP.out.fr 13 (by decide)
 go_simp
 clear c11 f11 c12 f12 c13 f13
 have hS2:=hHeld.below (lt_of_succ_lt HL.out) ((((Below.refl b V18).setCell (p:=⟨b,11,none⟩) (le_refl _) (.int .i32 x.m1)).setCell (p:=⟨b,12,none⟩) (le_refl _) (.int .i64 x.s1)).setCell (p:=⟨b,13,none⟩) (le_refl _) (.int .i8 x.z1))
 clear hHeld
 have hb:=((((Below.refl b V18).setCell (p:=⟨b,11,none⟩) (le_refl _) (.int .i32 x.m1)).setCell (p:=⟨b,12,none⟩) (le_refl _) (.int .i64 x.s1)).setCell (p:=⟨b,13,none⟩) (le_refl _) (.int .i8 x.z1))
 replace HP:=hid (NdBox.set (y:=⟨6,x.na,0,0,0,0,0,0,0,none,0,0,none,0,0,x.m1,x.s1,x.z1,0,0,0,0,0⟩) (NdBox.set (y:=⟨6,x.na,0,0,0,0,0,0,0,none,0,0,none,0,0,x.m1,x.s1,0,0,0,0,0,0⟩) (NdBox.set (y:=⟨6,x.na,0,0,0,0,0,0,0,none,0,0,none,0,0,x.m1,0,0,0,0,0,0,0⟩) HP.out 11 (.int .i32 x.m1) (by decide) rfl) 12 (.int .i64 x.s1) (by decide) rfl) 13 (.int .i8 x.z1) (by decide) rfl)
 replace HR:=hid (HR.out.below HL.out hb)
 replace HB:=hid (HB.out.trans (hb.mono (Nat.le_of_lt (lt_of_succ_lt HL.out))))
 clear hb
 generalize (((V18).setCell ⟨b,11,none⟩ (.int .i32 x.m1)).setCell ⟨b,12,none⟩ (.int .i64 x.s1)).setCell ⟨b,13,none⟩ (.int .i8 x.z1)=V19 at *
 refine hK.out _ _ hS2 (fun hHeld=>?_)
 clear hK Kq hS2
 try simp only [Tk.put]
 refine Tk.x 8 rfl ?_
 try simp only [Tk.put]
 refine Tk.s 9 rfl (fun Kq hK=>?_)
 have c17:=HP.out.1.at 17 _ rfl
 have f17:=HP.out.fr 17 (by decide)
 go_simp
 clear c17 f17
 have hS2:=hHeld.below (lt_of_succ_lt HL.out) ((Below.refl b V19).setCell (p:=⟨b,17,none⟩) (le_refl _) (.int .i8 x.lo))
 clear hHeld
 have hb:=((Below.refl b V19).setCell (p:=⟨b,17,none⟩) (le_refl _) (.int .i8 x.lo))
 replace HP:=hid (NdBox.set (y:=⟨6,x.na,0,0,0,0,0,0,0,none,0,0,none,0,0,x.m1,x.s1,x.z1,0,0,0,x.lo,0⟩) HP.out 17 (.int .i8 x.lo) (by decide) rfl)
 replace HR:=hid (HR.out.below HL.out hb)
 replace HB:=hid (HB.out.trans (hb.mono (Nat.le_of_lt (lt_of_succ_lt HL.out))))
 clear hb
 generalize (V19).setCell ⟨b,17,none⟩ (.int .i8 x.lo)=V20 at *
 refine hK.out _ _ hS2 (fun hHeld=>?_)
 clear hK Kq hS2
 try simp only [Tk.put]
 refine Tk.x 10 rfl ?_
 try simp only [Tk.put]
 refine Tk.s 11 rfl (fun Kq hK=>?_)
 have c18:=HP.out.1.at 18 _ rfl
 have f18:=HP.out.fr 18 (by decide)
 go_simp
 clear c18 f18
 have hS2:=hHeld.below (lt_of_succ_lt HL.out) ((Below.refl b V20).setCell (p:=⟨b,18,none⟩) (le_refl _) (.int .i8 x.hi))
 clear hHeld
 have hb:=((Below.refl b V20).setCell (p:=⟨b,18,none⟩) (le_refl _) (.int .i8 x.hi))
 replace HP:=hid (NdBox.set (y:=⟨6,x.na,0,0,0,0,0,0,0,none,0,0,none,0,0,x.m1,x.s1,x.z1,0,0,0,x.lo,x.hi⟩) HP.out 18 (.int .i8 x.hi) (by decide) rfl)
 replace HR:=hid (HR.out.below HL.out hb)
 replace HB:=hid (HB.out.trans (hb.mono (Nat.le_of_lt (lt_of_succ_lt HL.out))))
 clear hb
 generalize (V20).setCell ⟨b,18,none⟩ (.int .i8 x.hi)=V21 at *
 refine hK.out _ _ hS2 (fun hHeld=>?_)
 clear hK Kq hS2
 try simp only [Tk.put]
 refine wpAnyH_done (by kernel_rfl) ?_ _
 have TN:=hid hHeld
 clear hHeld
 have q0:V21.cell? ⟨w.heap.size,0,none⟩=some (.int .i64 6):=TN.out.at 0 _ (by show some (Value.int .i64 x.kd)=_;rw [HK.out])
 have q7:=TN.out.at 7 (.int .i8 x.Z) rfl
 have c7:=HP.out.1.at 7 _ rfl
 have f7:=HP.out.fr 7 (by decide)
 go_upto_region 20 with fail
 clear q0 q7 c7 f7
 have hb:=((Below.refl b V21).setCell (p:=⟨b,7,none⟩) (le_refl _) (.int .i8 x.Z))
 replace HP:=hid (NdBox.set (y:=⟨6,x.na,0,0,0,0,0,x.Z,0,none,0,0,none,0,0,x.m1,x.s1,x.z1,0,0,0,x.lo,x.hi⟩) HP.out 7 (.int .i8 x.Z) (by decide) rfl)
 replace TN:=hid (TN.out.below (lt_of_succ_lt HL.out) hb)
 replace HR:=hid (HR.out.below HL.out hb)
 replace HB:=hid (HB.out.trans (hb.mono (Nat.le_of_lt (lt_of_succ_lt HL.out))))
 clear hb
 generalize (V21).setCell ⟨b,7,none⟩ (.int .i8 x.Z)=V22 at *
 have hb:=(Below.refl b V22).drew
 replace HP:=hid (HP.out.below (lt_succ_self b) (Below.refl (b+1) V22).drew)
 replace HR:=hid (HR.out.below HL.out hb)
 replace HB:=hid (HB.out.trans (hb.mono (Nat.le_of_lt (lt_of_succ_lt HL.out))))
 refine wp_region_held_drew (S:=NdAt w.heap.size x) (by kernel_rfl) (TN.out.below (lt_of_succ_lt HL.out) hb) (fun hHeld=>?_)
 clear hb TN
 generalize V22.drew=V23 at *
 refine Tk.x 0 rfl ?_
 try simp only [Tk.put]
 refine Tk.y 1 (v:=(.int .i64 x.nb)) rfl ?_ ?_
 ·intro wS hSw
  have q:=hSw.at 2 (.int .i64 x.nb) rfl
  first | (go_simp;done) | (go_simp;with_reducible rfl)
 try simp only [Tk.put]
 refine Tk.x 2 rfl ?_
 try simp only [Tk.put]
 refine Tk.y 3 (v:=(.int .i8 x.Y)) rfl ?_ ?_
 ·intro wS hSw
  have q:=hSw.at 8 (.int .i8 x.Y) rfl
  first | (go_simp;done) | (go_simp;with_reducible rfl)
 try simp only [Tk.put]
 refine Tk.x 4 rfl ?_
 try simp only [Tk.put]
 refine Tk.s 5 rfl (fun Kq hK=>?_)
 have c2:=HP.out.1.at 2 _ rfl
 have f2:=HP.out.fr 2 (by decide)
 go_simp
 clear c2 f2
 have hS2:=hHeld.below (lt_of_succ_lt HL.out) ((Below.refl b V23).setCell (p:=⟨b,2,none⟩) (le_refl _) (.int .i64 x.nb))
 clear hHeld
 have hb:=((Below.refl b V23).setCell (p:=⟨b,2,none⟩) (le_refl _) (.int .i64 x.nb))
 replace HP:=hid (NdBox.set (y:=⟨6,x.na,x.nb,0,0,0,0,x.Z,0,none,0,0,none,0,0,x.m1,x.s1,x.z1,0,0,0,x.lo,x.hi⟩) HP.out 2 (.int .i64 x.nb) (by decide) rfl)
 replace HR:=hid (HR.out.below HL.out hb)
 replace HB:=hid (HB.out.trans (hb.mono (Nat.le_of_lt (lt_of_succ_lt HL.out))))
 clear hb
 generalize (V23).setCell ⟨b,2,none⟩ (.int .i64 x.nb)=V24 at *
 refine hK.out _ _ hS2 (fun hHeld=>?_)
 clear hK Kq hS2
 try simp only [Tk.put]
 refine Tk.x 6 rfl ?_
 try simp only [Tk.put]
 refine Tk.s 7 rfl (fun Kq hK=>?_)
 have c8:=HP.out.1.at 8 _ rfl
 have f8:=HP.out.fr 8 (by decide)
 go_simp
 clear c8 f8
 have hS2:=hHeld.below (lt_of_succ_lt HL.out) ((Below.refl b V24).setCell (p:=⟨b,8,none⟩) (le_refl _) (.int .i8 x.Y))
 clear hHeld
 have hb:=((Below.refl b V24).setCell (p:=⟨b,8,none⟩) (le_refl _) (.int .i8 x.Y))
 replace HP:=hid (NdBox.set (y:=⟨6,x.na,x.nb,0,0,0,0,x.Z,x.Y,none,0,0,none,0,0,x.m1,x.s1,x.z1,0,0,0,x.lo,x.hi⟩) HP.out 8 (.int .i8 x.Y) (by decide) rfl)
 replace HR:=hid (HR.out.below HL.out hb)
 replace HB:=hid (HB.out.trans (hb.mono (Nat.le_of_lt (lt_of_succ_lt HL.out))))
 clear hb
 generalize (V24).setCell ⟨b,8,none⟩ (.int .i8 x.Y)=V25 at *
 refine hK.out _ _ hS2 (fun hHeld=>?_)
 clear hK Kq hS2
 try simp only [Tk.put]
 refine wpAnyH_done (by kernel_rfl) ?_ _
 have TN:=hid hHeld
 clear hHeld
 have q0:V25.cell? ⟨w.heap.size,0,none⟩=some (.int .i64 6):=TN.out.at 0 _ (by show some (Value.int .i64 x.kd)=_;rw [HK.out])
 go_upto_region 21 with fail
 clear q0
 have hb:=(Below.refl b V25).drew
 replace HP:=hid (HP.out.below (lt_succ_self b) (Below.refl (b+1) V25).drew)
 replace HR:=hid (HR.out.below HL.out hb)
 replace HB:=hid (HB.out.trans (hb.mono (Nat.le_of_lt (lt_of_succ_lt HL.out))))
 refine wp_region_held_drew (S:=NdAt w.heap.size x) (by kernel_rfl) (TN.out.below (lt_of_succ_lt HL.out) hb) (fun hHeld=>?_)
 clear hb TN
 generalize V25.drew=V26 at *
 refine Tk.x 0 rfl ?_
 try simp only [Tk.put]
 refine Tk.x 1 rfl ?_
 try simp only [Tk.put]
 refine Tk.y 2 (v:=(.int .i32 x.m2)) rfl ?_ ?_
 ·intro wS hSw
  have q:=hSw.at 14 (.int .i32 x.m2) rfl
  first | (go_simp;done) | (go_simp;with_reducible rfl)
 try simp only [Tk.put]
 refine Tk.x 3 rfl ?_
 try simp only [Tk.put]
 refine Tk.x 4 rfl ?_
 try simp only [Tk.put]
 refine Tk.y 5 (v:=(.int .i64 x.s2)) rfl ?_ ?_
 ·intro wS hSw
  have q:=hSw.at 15 (.int .i64 x.s2) rfl
  first | (go_simp;done) | (go_simp;with_reducible rfl)
 try simp only [Tk.put]
 refine Tk.x 6 rfl ?_
 try simp only [Tk.put]
 refine Tk.x 7 rfl ?_
 try simp only [Tk.put]
 refine Tk.s 8 rfl (fun Kq hK=>?_)
 have c14:=HP.out.1.at 14 _ rfl
 have f14:=HP.out.fr 14 (by decide)
 go_simp
 clear c14 f14
 have hS2:=hHeld.below (lt_of_succ_lt HL.out) ((Below.refl b V26).setCell (p:=⟨b,14,none⟩) (le_refl _) (.int .i32 x.m2))
 clear hHeld
 have hb:=((Below.refl b V26).setCell (p:=⟨b,14,none⟩) (le_refl _) (.int .i32 x.m2))
 replace HP:=hid (NdBox.set (y:=⟨6,x.na,x.nb,0,0,0,0,x.Z,x.Y,none,0,0,none,0,0,x.m1,x.s1,x.z1,x.m2,0,0,x.lo,x.hi⟩) HP.out 14 (.int .i32 x.m2) (by decide) rfl)
 replace HR:=hid (HR.out.below HL.out hb)
 replace HB:=hid (HB.out.trans (hb.mono (Nat.le_of_lt (lt_of_succ_lt HL.out))))
 clear hb
 generalize (V26).setCell ⟨b,14,none⟩ (.int .i32 x.m2)=V27 at *
 refine hK.out _ _ hS2 (fun hHeld=>?_)
 clear hK Kq hS2
 try simp only [Tk.put]
 refine Tk.x 9 rfl ?_
 try simp only [Tk.put]
 refine Tk.x 10 rfl ?_
 try simp only [Tk.put]
 refine Tk.s 11 rfl (fun Kq hK=>?_)
 have c15:=HP.out.1.at 15 _ rfl
 have f15:=HP.out.fr 15 (by decide)
 go_simp
 clear c15 f15
 have hS2:=hHeld.below (lt_of_succ_lt HL.out) ((Below.refl b V27).setCell (p:=⟨b,15,none⟩) (le_refl _) (.int .i64 x.s2))
 clear hHeld
 have hb:=((Below.refl b V27).setCell (p:=⟨b,15,none⟩) (le_refl _) (.int .i64 x.s2))
 replace HP:=hid (NdBox.set (y:=⟨6,x.na,x.nb,0,0,0,0,x.Z,x.Y,none,0,0,none,0,0,x.m1,x.s1,x.z1,x.m2,x.s2,0,x.lo,x.hi⟩) HP.out 15 (.int .i64 x.s2) (by decide) rfl)
 replace HR:=hid (HR.out.below HL.out hb)
 replace HB:=hid (HB.out.trans (hb.mono (Nat.le_of_lt (lt_of_succ_lt HL.out))))
 clear hb
 generalize (V27).setCell ⟨b,15,none⟩ (.int .i64 x.s2)=V28 at *
 refine hK.out _ _ hS2 (fun hHeld=>?_)
 clear hK Kq hS2
 try simp only [Tk.put]
 refine wpAnyH_done (by kernel_rfl) ?_ _
 have TN:=hid hHeld
 clear hHeld
 have q0:V28.cell? ⟨w.heap.size,0,none⟩=some (.int .i64 6):=TN.out.at 0 _ (by show some (Value.int .i64 x.kd)=_;rw [HK.out])
 go_wp2_with (first | (refine zac rfl (.tmp 3) rfl b ⟨6,x.na,x.nb,0,0,0,0,x.Z,x.Y,none,0,0,none,0,0,x.m1,x.s1,x.z1,x.m2,x.s2,0,x.lo,x.hi⟩ rfl HP.out.1 ?_) | (refine zaq rfl (.tmp 2) (.tmp 78) rfl (w.heap.size+1) Nd.zero ⟨6,x.na,x.nb,0,0,0,0,x.Z,x.Y,none,0,0,none,0,0,x.m1,x.s1,x.z1,x.m2,x.s2,0,x.lo,x.hi⟩ rfl rfl HR.out ?_;rintro W2 hp hb1 hs1))
 refine bodyPost_ret (za1 rfl _ _ (w.heap.size+1) ⟨6,x.na,x.nb,0,0,0,0,x.Z,x.Y,none,0,0,none,0,0,x.m1,x.s1,x.z1,x.m2,x.s2,0,x.lo,x.hi⟩ rfl hp.1) rfl ?_
 exact⟨rfl,HB.out.trans (hb1.mono (Nat.le_succ _))⟩
theorem own_8 (x:Nd) (hk:x.kd=8) (w:World) :
  Calls Tryz.prog 160 #[.agg x.val] w fun e w'=>e=.returned (.agg (x.ownK 8).val)∧Below w.heap.size w w':=by
 have TN:=hid (NdAt.new x 54 w)
 have HK:=hid hk
 clear hk
 go_enter Tryz.func160,Tryz.ntmps160
 go_upto_region 1 with fail
 have HR:Hid (NdBox (w.heap.size+1) Nd.zero ((w.alloc (.cells x.val 54)).alloc (.cells Nd.zero.val 54))):=hid (by have:=NdBox.new Nd.zero 54 (w.alloc (.cells x.val 54));rwa [World.size_alloc] at this)
 replace TN:=hid (TN.out.below (B:=w.heap.size+1) (lt_succ_self _) ((Below.refl _ _).alloc (by simp) (.cells Nd.zero.val 54)))
 have HB:=hid (((Below.refl w.heap.size w).alloc (le_refl _) (.cells x.val 54)).alloc (by simp) (.cells Nd.zero.val 54))
 have HS:Hid (((w.alloc (.cells x.val 54)).alloc (.cells Nd.zero.val 54)).heap.size=w.heap.size+2):=hid (by simp)
 generalize h:(w.alloc (.cells x.val 54)).alloc (.cells Nd.zero.val 54)=W0 at TN HR HB HS
 rw [show (w.alloc (Obj.cells x.val 54)).alloc (Obj.cells #[.int .i64 0,.int .i64 0,.int .i64 0,.int .i64 0,.int .i64 0,.int .i64 0,.int .i64 0,.int .i8 0,.int .i8 0,.slice none 0 0,.slice none 0 0,.int .i32 0,.int .i64 0,.int .i8 0,.int .i32 0,.int .i64 0,.int .i8 0,.int .i8 0,.int .i8 0] 54)=W0 from h]
 clear h
 have q0:W0.cell? ⟨w.heap.size,0,none⟩=some (.int .i64 8):=TN.out.at 0 _ (by show some (Value.int .i64 x.kd)=_;rw [HK.out])
 have q1:=TN.out.at 1 (.int .i64 x.na) rfl
 go_upto_region 2 with (refine zaq rfl (.tmp 3) (.tmp 8) rfl _ Nd.zero ⟨8,x.na,0,0,0,0,0,0,0,none,0,0,none,0,0,0,0,0,0,0,0,0,0⟩ rfl rfl (NdBox.new Nd.zero _ _) ?_;rintro W1 hp hb1 hs1)
 replace TN:=hid (TN.out.below (by rw [HS.out];omega) (((Below.refl _ _).alloc (le_refl _) _).trans hb1))
 replace HR:=hid (HR.out.below (by rw [HS.out];omega) (((Below.refl _ _).alloc (le_refl _) _).trans hb1))
 replace HB:=hid (HB.out.trans ((((Below.refl _ _).alloc (le_refl _) _).trans hb1).mono (by rw [HS.out];omega)))
 have HP:=hid hp
 have HL:Hid (w.heap.size+1 < W0.heap.size):=hid (by rw [HS.out];omega)
 clear hp hb1 hs1 HS q0 q1
 generalize W0.heap.size=b at *
 clear W0
 have q0:W1.cell? ⟨w.heap.size,0,none⟩=some (.int .i64 8):=TN.out.at 0 _ (by show some (Value.int .i64 x.kd)=_;rw [HK.out])
 have q7:=TN.out.at 7 (.int .i8 x.Z) rfl
 have c7:=HP.out.1.at 7 _ rfl
 have f7:=HP.out.fr 7 (by decide)
 have q5:=TN.out.at 5 (.int .i64 x.P) rfl
 have c5:=HP.out.1.at 5 _ rfl
 have f5:=HP.out.fr 5 (by decide)
 go_upto_region 24 with fail
 clear q0 q7 c7 f7 q5 c5 f5
 have hb:=(((Below.refl b W1).setCell (p:=⟨b,7,none⟩) (le_refl _) (.int .i8 x.Z)).setCell (p:=⟨b,5,none⟩) (le_refl _) (.int .i64 x.P))
 replace HP:=hid (NdBox.set (y:=⟨8,x.na,0,0,0,x.P,0,x.Z,0,none,0,0,none,0,0,0,0,0,0,0,0,0,0⟩) (NdBox.set (y:=⟨8,x.na,0,0,0,0,0,x.Z,0,none,0,0,none,0,0,0,0,0,0,0,0,0,0⟩) HP.out 7 (.int .i8 x.Z) (by decide) rfl) 5 (.int .i64 x.P) (by decide) rfl)
 replace TN:=hid (TN.out.below (lt_of_succ_lt HL.out) hb)
 replace HR:=hid (HR.out.below HL.out hb)
 replace HB:=hid (HB.out.trans (hb.mono (Nat.le_of_lt (lt_of_succ_lt HL.out))))
 clear hb
 generalize ((W1).setCell ⟨b,7,none⟩ (.int .i8 x.Z)).setCell ⟨b,5,none⟩ (.int .i64 x.P)=V29 at *
 go_wp2_with (first | (refine zac rfl (.tmp 3) rfl b ⟨8,x.na,0,0,0,x.P,0,x.Z,0,none,0,0,none,0,0,0,0,0,0,0,0,0,0⟩ rfl HP.out.1 ?_) | (refine zaq rfl (.tmp 2) (.tmp 78) rfl (w.heap.size+1) Nd.zero ⟨8,x.na,0,0,0,x.P,0,x.Z,0,none,0,0,none,0,0,0,0,0,0,0,0,0,0⟩ rfl rfl HR.out ?_;rintro W2 hp hb1 hs1))
 refine bodyPost_ret (za1 rfl _ _ (w.heap.size+1) ⟨8,x.na,0,0,0,x.P,0,x.Z,0,none,0,0,none,0,0,0,0,0,0,0,0,0,0⟩ rfl hp.1) rfl ?_
 exact⟨rfl,HB.out.trans (hb1.mono (Nat.le_succ _))⟩
end CKind
end
end Go.Proofs.YtfgdfignoakkaaaGreatDoor
