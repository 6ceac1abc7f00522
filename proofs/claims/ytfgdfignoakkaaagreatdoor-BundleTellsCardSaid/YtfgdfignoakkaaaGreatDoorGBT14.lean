/- -/
import Derived.Test.YtfgdfignoakkaaaGreatDoorGBT13
open Go.Lib (hid)
open Nat (le_refl lt_of_succ_lt lt_succ_self)
set_option linter.unusedVariables false
set_option linter.unusedSimpArgs false
set_option maxRecDepth 100000
set_option maxHeartbeats 16000000
namespace Go.Proofs.YtfgdfignoakkaaaGreatDoor
namespace CConv
end CConv
namespace CSat
end CSat
namespace CShape
end CShape
namespace CTensor
end CTensor
open Go Go.ChangeShapes Go.WideShapes Go.ChangeAt Go.RowKit Go.Deep
section
namespace CKind
open Plain CSat CShape CTensor CConv
theorem zav {ops:Array Oper} {S:World→Prop} {oi:Oper} {a:Act} (x:Operand) (ho:oi.op=.load 54 x) (hw:Region.wanted oi (yielded ops a.tmps)=true) (b:Nat) (u:Nd) (hx:a.eval x=.pointer (some ⟨b,0,none⟩)) (hS:∀ w,S w→NdAt b u w) :
  YieldsIf Tryz.prog ops S oi (.agg u.val) a :=
 yieldsIf_load_mid hw 54 x ho b 0 hx u.val.toList _ hS Tryz.underlying54 rfl (by kernel_rfl)
theorem csame_0 (x y:Nd) (hx:x.Small) (hy:y.Small) (h0:(x.nW == y.nW)=false) (w:World) :
  Calls Tryz.prog 159 #[.agg x.val,.agg y.val] w fun e w'=>e=.returned (.bool false)∧Below w.heap.size w w':=by
 have TN:=hid ((NdAt.new x 54 w).below (B:=w.heap.size+1) (by omega) ((Below.refl _ _).alloc (by simp) (.cells y.val 54)))
 have TM:Hid (NdAt (w.heap.size+1) y ((w.alloc (.cells x.val 54)).alloc (.cells y.val 54))):=hid (by have:=NdAt.new y 54 (w.alloc (.cells x.val 54));rwa [World.size_alloc] at this)
 have HB:=hid (((Below.refl w.heap.size w).alloc (le_refl _) (.cells x.val 54)).alloc (by simp) (.cells y.val 54))
 have HL:Hid (w.heap.size+1 < ((w.alloc (.cells x.val 54)).alloc (.cells y.val 54)).heap.size):=hid (by simp)
 have hgq:=Tryz.eqGuardType52
 have HX:=hid hx
 have HY:=hid hy
 clear hx hy
 have G0:Hid (((x.nW:Int) == (y.nW:Int))=false):=hid (by simp at h0 ⊢;omega)
 clear h0
 go_enter Tryz.func159,Tryz.ntmps159
 go_upto_region 1 with fail
 generalize (w.alloc (.cells x.val 54)).alloc (.cells y.val 54)=W0 at TN TM HB HL ⊢
 refine wp_region_held_drew (S:=fun w'=>NdAt w.heap.size x w'∧NdAt (w.heap.size+1) y w') (by kernel_rfl) ⟨TN.out.below (lt_of_succ_lt HL.out) (Below.refl _ _).drew,TM.out.below HL.out (Below.refl _ _).drew⟩ (fun hHeld=>?_)
 replace HB:=hid (HB.out.trans (Below.refl _ W0).drew)
 replace HL:Hid (w.heap.size+1 < W0.drew.heap.size):=hid HL.out
 clear TN TM
 generalize W0.drew=W1 at *
 clear W0
 refine Tk.x 0 rfl ?_
 try simp only [Tk.put]
 refine Tk.y 1 (v:=.slice x.WA x.nW x.cW) rfl ?_ ?_
 ·intro wS hSw
  have q:=hSw.1.at 9 (.slice x.WA x.nW x.cW) rfl
  first | (go_simp;done) | (go_simp;with_reducible rfl)
 try simp only [Tk.put]
 refine Tk.x 2 rfl ?_
 try simp only [Tk.put]
 refine Tk.x 3 rfl ?_
 try simp only [Tk.put]
 refine Tk.y 4 (v:=.slice y.WA y.nW y.cW) rfl ?_ ?_
 ·intro wS hSw
  have q:=hSw.2.at 9 (.slice y.WA y.nW y.cW) rfl
  first | (go_simp;done) | (go_simp;with_reducible rfl)
 try simp only [Tk.put]
 refine Tk.x 5 rfl ?_
 try simp only [Tk.put]
 refine Tk.y 6 (v:=.bool false) rfl ?_ ?_
 ·intro wS hSw
  have g:=G0.out
  first | (go_simp;done) | (go_simp;with_reducible rfl) | (simp [g];done)
 try simp only [Tk.put]
 refine Tk.x 7 rfl ?_
 try simp only [Tk.put]
 refine Tk.t 8 (v:=undef) rfl (Or.inr ⟨by rfl,by rfl⟩) (by assumption) ?_
 try simp only [Tk.put]
 refine Tk.t 9 (v:=undef) rfl (Or.inr ⟨by rfl,by rfl⟩) (by assumption) ?_
 try simp only [Tk.put]
 refine Tk.t 10 (v:=undef) rfl (Or.inr ⟨by rfl,by rfl⟩) (by assumption) ?_
 try simp only [Tk.put]
 refine Tk.t 11 (v:=undef) rfl (Or.inr ⟨by rfl,by rfl⟩) (by assumption) ?_
 try simp only [Tk.put]
 refine Tk.t 12 (v:=undef) rfl (Or.inr ⟨by rfl,by rfl⟩) (by assumption) ?_
 try simp only [Tk.put]
 refine Tk.t 13 (v:=undef) rfl (Or.inr ⟨by rfl,by rfl⟩) (by assumption) ?_
 try simp only [Tk.put]
 refine Tk.t 14 (v:=undef) rfl (Or.inr ⟨by rfl,by rfl⟩) (by assumption) ?_
 try simp only [Tk.put]
 refine Tk.x 15 rfl ?_
 try simp only [Tk.put]
 refine Tk.x 16 rfl ?_
 try simp only [Tk.put]
 refine Tk.t 17 (v:=undef) rfl (Or.inr ⟨by rfl,by rfl⟩) (by assumption) ?_
 try simp only [Tk.put]
 refine Tk.t 18 (v:=undef) rfl (Or.inr ⟨by rfl,by rfl⟩) (by assumption) ?_
 try simp only [Tk.put]
 refine Tk.t 19 (v:=undef) rfl (Or.inr ⟨by rfl,by rfl⟩) (by assumption) ?_
 try simp only [Tk.put]
 refine Tk.t 20 (v:=undef) rfl (Or.inr ⟨by rfl,by rfl⟩) (by assumption) ?_
 try simp only [Tk.put]
 refine Tk.t 21 (v:=undef) rfl (Or.inr ⟨by rfl,by rfl⟩) (by assumption) ?_
 try simp only [Tk.put]
 refine Tk.x 22 rfl ?_
 try simp only [Tk.put]
 refine Tk.x 23 rfl ?_
 try simp only [Tk.put]
 refine Tk.t 24 (v:=undef) rfl (Or.inr ⟨by rfl,by rfl⟩) (by assumption) ?_
 try simp only [Tk.put]
 refine Tk.t 25 (v:=undef) rfl (Or.inr ⟨by rfl,by rfl⟩) (by assumption) ?_
 try simp only [Tk.put]
 refine Tk.t 26 (v:=undef) rfl (Or.inr ⟨by rfl,by rfl⟩) (by assumption) ?_
 try simp only [Tk.put]
 refine Tk.t 27 (v:=undef) rfl (Or.inr ⟨by rfl,by rfl⟩) (by assumption) ?_
 try simp only [Tk.put]
 refine Tk.t 28 (v:=undef) rfl (Or.inr ⟨by rfl,by rfl⟩) (by assumption) ?_
 try simp only [Tk.put]
 refine Tk.x 29 rfl ?_
 try simp only [Tk.put]
 refine Tk.x 30 rfl ?_
 try simp only [Tk.put]
 refine Tk.t 31 (v:=undef) rfl (Or.inr ⟨by rfl,by rfl⟩) (by assumption) ?_
 try simp only [Tk.put]
 refine Tk.t 32 (v:=undef) rfl (Or.inr ⟨by rfl,by rfl⟩) (by assumption) ?_
 try simp only [Tk.put]
 refine Tk.t 33 (v:=undef) rfl (Or.inr ⟨by rfl,by rfl⟩) (by assumption) ?_
 try simp only [Tk.put]
 refine Tk.t 34 (v:=undef) rfl (Or.inr ⟨by rfl,by rfl⟩) (by assumption) ?_
 try simp only [Tk.put]
 refine Tk.t 35 (v:=undef) rfl (Or.inr ⟨by rfl,by rfl⟩) (by assumption) ?_
 try simp only [Tk.put]
 refine Tk.x 36 rfl ?_
 try simp only [Tk.put]
 refine Tk.x 37 rfl ?_
 try simp only [Tk.put]
 refine wpAnyH_done (by kernel_rfl) ?_ _
 go_wp2_with fail
 go_ret
 exact⟨rfl,HB.out⟩
theorem csame_1 (x y:Nd) (hx:x.Small) (hy:y.Small) (h0:(x.nW == y.nW)=true) (h1:(x.nB == y.nB)=false) (w:World) :
  Calls Tryz.prog 159 #[.agg x.val,.agg y.val] w fun e w'=>e=.returned (.bool false)∧Below w.heap.size w w':=by
 have TN:=hid ((NdAt.new x 54 w).below (B:=w.heap.size+1) (by omega) ((Below.refl _ _).alloc (by simp) (.cells y.val 54)))
 have TM:Hid (NdAt (w.heap.size+1) y ((w.alloc (.cells x.val 54)).alloc (.cells y.val 54))):=hid (by have:=NdAt.new y 54 (w.alloc (.cells x.val 54));rwa [World.size_alloc] at this)
 have HB:=hid (((Below.refl w.heap.size w).alloc (le_refl _) (.cells x.val 54)).alloc (by simp) (.cells y.val 54))
 have HL:Hid (w.heap.size+1 < ((w.alloc (.cells x.val 54)).alloc (.cells y.val 54)).heap.size):=hid (by simp)
 have hgq:=Tryz.eqGuardType52
 have HX:=hid hx
 have HY:=hid hy
 clear hx hy
 have G0:Hid (((x.nW:Int) == (y.nW:Int))=true):=hid (by simp at h0 ⊢;omega)
 clear h0
 have G1:Hid (((x.nB:Int) == (y.nB:Int))=false):=hid (by simp at h1 ⊢;omega)
 clear h1
 go_enter Tryz.func159,Tryz.ntmps159
 go_upto_region 1 with fail
 generalize (w.alloc (.cells x.val 54)).alloc (.cells y.val 54)=W0 at TN TM HB HL ⊢
 refine wp_region_held_drew (S:=fun w'=>NdAt w.heap.size x w'∧NdAt (w.heap.size+1) y w') (by kernel_rfl) ⟨TN.out.below (lt_of_succ_lt HL.out) (Below.refl _ _).drew,TM.out.below HL.out (Below.refl _ _).drew⟩ (fun hHeld=>?_)
 replace HB:=hid (HB.out.trans (Below.refl _ W0).drew)
 replace HL:Hid (w.heap.size+1 < W0.drew.heap.size):=hid HL.out
 clear TN TM
 generalize W0.drew=W1 at *
 clear W0
 refine Tk.x 0 rfl ?_
 try simp only [Tk.put]
 refine Tk.y 1 (v:=.slice x.WA x.nW x.cW) rfl ?_ ?_
 ·intro wS hSw
  have q:=hSw.1.at 9 (.slice x.WA x.nW x.cW) rfl
  first | (go_simp;done) | (go_simp;with_reducible rfl)
 try simp only [Tk.put]
 refine Tk.x 2 rfl ?_
 try simp only [Tk.put]
 refine Tk.x 3 rfl ?_
 try simp only [Tk.put]
 refine Tk.y 4 (v:=.slice y.WA y.nW y.cW) rfl ?_ ?_
 ·intro wS hSw
  have q:=hSw.2.at 9 (.slice y.WA y.nW y.cW) rfl
  first | (go_simp;done) | (go_simp;with_reducible rfl)
 try simp only [Tk.put]
 refine Tk.x 5 rfl ?_
 try simp only [Tk.put]
 refine Tk.y 6 (v:=.bool true) rfl ?_ ?_
 ·intro wS hSw
  have g:=G0.out
  first | (go_simp;done) | (go_simp;with_reducible rfl) | (simp [g];done)
 try simp only [Tk.put]
 refine Tk.x 7 rfl ?_
 try simp only [Tk.put]
 refine Tk.x 8 rfl ?_
 try simp only [Tk.put]
 refine Tk.y 9 (v:=.slice x.BA x.nB x.cB) rfl ?_ ?_
 ·intro wS hSw
  have q:=hSw.1.at 10 (.slice x.BA x.nB x.cB) rfl
  first | (go_simp;done) | (go_simp;with_reducible rfl)
 try simp only [Tk.put]
 refine Tk.x 10 rfl ?_
 try simp only [Tk.put]
 refine Tk.x 11 rfl ?_
 try simp only [Tk.put]
 refine Tk.y 12 (v:=.slice y.BA y.nB y.cB) rfl ?_ ?_
 ·intro wS hSw
  have q:=hSw.2.at 10 (.slice y.BA y.nB y.cB) rfl
  first | (go_simp;done) | (go_simp;with_reducible rfl)
 try simp only [Tk.put]
 refine Tk.x 13 rfl ?_
 try simp only [Tk.put]
 refine Tk.y 14 (v:=.bool false) rfl ?_ ?_
 ·intro wS hSw
  have g:=G1.out
  first | (go_simp;done) | (go_simp;with_reducible rfl) | (simp [g];done)
 try simp only [Tk.put]
 refine Tk.x 15 rfl ?_
 try simp only [Tk.put]
 refine Tk.x 16 rfl ?_
 try simp only [Tk.put]
 refine Tk.t 17 (v:=undef) rfl (Or.inr ⟨by rfl,by rfl⟩) (by assumption) ?_
 try simp only [Tk.put]
 refine Tk.t 18 (v:=undef) rfl (Or.inr ⟨by rfl,by rfl⟩) (by assumption) ?_
 try simp only [Tk.put]
 refine Tk.t 19 (v:=undef) rfl (Or.inr ⟨by rfl,by rfl⟩) (by assumption) ?_
 try simp only [Tk.put]
 refine Tk.t 20 (v:=undef) rfl (Or.inr ⟨by rfl,by rfl⟩) (by assumption) ?_
 try simp only [Tk.put]
 refine Tk.t 21 (v:=undef) rfl (Or.inr ⟨by rfl,by rfl⟩) (by assumption) ?_
 try simp only [Tk.put]
 refine Tk.x 22 rfl ?_
 try simp only [Tk.put]
 refine Tk.x 23 rfl ?_
 try simp only [Tk.put]
 refine Tk.t 24 (v:=undef) rfl (Or.inr ⟨by rfl,by rfl⟩) (by assumption) ?_
 try simp only [Tk.put]
 refine Tk.t 25 (v:=undef) rfl (Or.inr ⟨by rfl,by rfl⟩) (by assumption) ?_
 try simp only [Tk.put]
 refine Tk.t 26 (v:=undef) rfl (Or.inr ⟨by rfl,by rfl⟩) (by assumption) ?_
 try simp only [Tk.put]
 refine Tk.t 27 (v:=undef) rfl (Or.inr ⟨by rfl,by rfl⟩) (by assumption) ?_
 try simp only [Tk.put]
 refine Tk.t 28 (v:=undef) rfl (Or.inr ⟨by rfl,by rfl⟩) (by assumption) ?_
 try simp only [Tk.put]
 refine Tk.x 29 rfl ?_
 try simp only [Tk.put]
 refine Tk.x 30 rfl ?_
 try simp only [Tk.put]
 refine Tk.t 31 (v:=undef) rfl (Or.inr ⟨by rfl,by rfl⟩) (by assumption) ?_
 try simp only [Tk.put]
 refine Tk.t 32 (v:=undef) rfl (Or.inr ⟨by rfl,by rfl⟩) (by assumption) ?_
 try simp only [Tk.put]
 refine Tk.t 33 (v:=undef) rfl (Or.inr ⟨by rfl,by rfl⟩) (by assumption) ?_
 try simp only [Tk.put]
 refine Tk.t 34 (v:=undef) rfl (Or.inr ⟨by rfl,by rfl⟩) (by assumption) ?_
 try simp only [Tk.put]
 refine Tk.t 35 (v:=undef) rfl (Or.inr ⟨by rfl,by rfl⟩) (by assumption) ?_
 try simp only [Tk.put]
 refine Tk.x 36 rfl ?_
 try simp only [Tk.put]
 refine Tk.x 37 rfl ?_
 try simp only [Tk.put]
 refine wpAnyH_done (by kernel_rfl) ?_ _
 go_wp2_with fail
 go_ret
 exact⟨rfl,HB.out⟩
theorem csame_2 (x y:Nd) (hx:x.Small) (hy:y.Small) (h0:(x.nW == y.nW)=true) (h1:(x.nB == y.nB)=true) (h2:(x.m1 == y.m1 && (x.s1 == y.s1 && x.z1 == y.z1))=false) (w:World) :
  Calls Tryz.prog 159 #[.agg x.val,.agg y.val] w fun e w'=>e=.returned (.bool false)∧Below w.heap.size w w':=by
 have TN:=hid ((NdAt.new x 54 w).below (B:=w.heap.size+1) (by omega) ((Below.refl _ _).alloc (by simp) (.cells y.val 54)))
 have TM:Hid (NdAt (w.heap.size+1) y ((w.alloc (.cells x.val 54)).alloc (.cells y.val 54))):=hid (by have:=NdAt.new y 54 (w.alloc (.cells x.val 54));rwa [World.size_alloc] at this)
 have HB:=hid (((Below.refl w.heap.size w).alloc (le_refl _) (.cells x.val 54)).alloc (by simp) (.cells y.val 54))
 have HL:Hid (w.heap.size+1 < ((w.alloc (.cells x.val 54)).alloc (.cells y.val 54)).heap.size):=hid (by simp)
 have hgq:=Tryz.eqGuardType52
 have HX:=hid hx
 have HY:=hid hy
 clear hx hy
 have G0:Hid (((x.nW:Int) == (y.nW:Int))=true):=hid (by simp at h0 ⊢;omega)
 clear h0
 have G1:Hid (((x.nB:Int) == (y.nB:Int))=true):=hid (by simp at h1 ⊢;omega)
 clear h1
 have G2:=hid (zbs x.m1 x.s1 x.z1 y.m1 y.s1 y.z1)
 rw [h2] at G2
 clear h2
 go_enter Tryz.func159,Tryz.ntmps159
 go_upto_region 1 with fail
 generalize (w.alloc (.cells x.val 54)).alloc (.cells y.val 54)=W0 at TN TM HB HL ⊢
 refine wp_region_held_drew (S:=fun w'=>NdAt w.heap.size x w'∧NdAt (w.heap.size+1) y w') (by kernel_rfl) ⟨TN.out.below (lt_of_succ_lt HL.out) (Below.refl _ _).drew,TM.out.below HL.out (Below.refl _ _).drew⟩ (fun hHeld=>?_)
 replace HB:=hid (HB.out.trans (Below.refl _ W0).drew)
 replace HL:Hid (w.heap.size+1 < W0.drew.heap.size):=hid HL.out
 clear TN TM
 generalize W0.drew=W1 at *
 clear W0
 refine Tk.x 0 rfl ?_
 try simp only [Tk.put]
 refine Tk.y 1 (v:=.slice x.WA x.nW x.cW) rfl ?_ ?_
 ·intro wS hSw
  have q:=hSw.1.at 9 (.slice x.WA x.nW x.cW) rfl
  first | (go_simp;done) | (go_simp;with_reducible rfl)
 try simp only [Tk.put]
 refine Tk.x 2 rfl ?_
 try simp only [Tk.put]
 refine Tk.x 3 rfl ?_
 try simp only [Tk.put]
 refine Tk.y 4 (v:=.slice y.WA y.nW y.cW) rfl ?_ ?_
 ·intro wS hSw
  have q:=hSw.2.at 9 (.slice y.WA y.nW y.cW) rfl
  first | (go_simp;done) | (go_simp;with_reducible rfl)
 try simp only [Tk.put]
 refine Tk.x 5 rfl ?_
 try simp only [Tk.put]
 refine Tk.y 6 (v:=.bool true) rfl ?_ ?_
 ·intro wS hSw
  have g:=G0.out
  first | (go_simp;done) | (go_simp;with_reducible rfl) | (simp [g];done)
 try simp only [Tk.put]
 refine Tk.x 7 rfl ?_
 try simp only [Tk.put]
 refine Tk.x 8 rfl ?_
 try simp only [Tk.put]
 refine Tk.y 9 (v:=.slice x.BA x.nB x.cB) rfl ?_ ?_
 ·intro wS hSw
  have q:=hSw.1.at 10 (.slice x.BA x.nB x.cB) rfl
  first | (go_simp;done) | (go_simp;with_reducible rfl)
 try simp only [Tk.put]
 refine Tk.x 10 rfl ?_
 try simp only [Tk.put]
 refine Tk.x 11 rfl ?_
 try simp only [Tk.put]
 refine Tk.y 12 (v:=.slice y.BA y.nB y.cB) rfl ?_ ?_
 ·intro wS hSw
  have q:=hSw.2.at 10 (.slice y.BA y.nB y.cB) rfl
  first | (go_simp;done) | (go_simp;with_reducible rfl)
 try simp only [Tk.put]
 refine Tk.x 13 rfl ?_
 try simp only [Tk.put]
 refine Tk.y 14 (v:=.bool true) rfl ?_ ?_
 ·intro wS hSw
  have g:=G1.out
  first | (go_simp;done) | (go_simp;with_reducible rfl) | (simp [g];done)
 try simp only [Tk.put]
 refine Tk.x 15 rfl ?_
 try simp only [Tk.put]
 refine Tk.x 16 rfl ?_
 try simp only [Tk.put]
 refine Tk.x 17 rfl ?_
 try simp only [Tk.put]
 refine Tk.y 18 (v:=.agg #[.int .i32 x.m1,.int .i64 x.s1,.int .i8 x.z1]) rfl ?_ ?_
 ·intro wS hSw
  have q11:=hSw.1.at 11 (.int .i32 x.m1) rfl
  have q12:=hSw.1.at 12 (.int .i64 x.s1) rfl
  have q13:=hSw.1.at 13 (.int .i8 x.z1) rfl
  first | (go_simp;done) | (go_simp;with_reducible rfl)
 try simp only [Tk.put]
 refine Tk.x 19 rfl ?_
 try simp only [Tk.put]
 refine Tk.y 20 (v:=.agg #[.int .i32 y.m1,.int .i64 y.s1,.int .i8 y.z1]) rfl ?_ ?_
 ·intro wS hSw
  have q11:=hSw.2.at 11 (.int .i32 y.m1) rfl
  have q12:=hSw.2.at 12 (.int .i64 y.s1) rfl
  have q13:=hSw.2.at 13 (.int .i8 y.z1) rfl
  first | (go_simp;done) | (go_simp;with_reducible rfl)
 try simp only [Tk.put]
 refine Tk.y 21 (v:=.bool false) rfl ?_ ?_
 ·intro wS hSw
  have g:=G2.out
  first | (go_simp;done) | (go_simp;with_reducible rfl) | (simp [g];done)
 try simp only [Tk.put]
 refine Tk.x 22 rfl ?_
 try simp only [Tk.put]
 refine Tk.x 23 rfl ?_
 try simp only [Tk.put]
 refine Tk.t 24 (v:=undef) rfl (Or.inr ⟨by rfl,by rfl⟩) (by assumption) ?_
 try simp only [Tk.put]
 refine Tk.t 25 (v:=undef) rfl (Or.inr ⟨by rfl,by rfl⟩) (by assumption) ?_
 try simp only [Tk.put]
 refine Tk.t 26 (v:=undef) rfl (Or.inr ⟨by rfl,by rfl⟩) (by assumption) ?_
 try simp only [Tk.put]
 refine Tk.t 27 (v:=undef) rfl (Or.inr ⟨by rfl,by rfl⟩) (by assumption) ?_
 try simp only [Tk.put]
 refine Tk.t 28 (v:=undef) rfl (Or.inr ⟨by rfl,by rfl⟩) (by assumption) ?_
 try simp only [Tk.put]
 refine Tk.x 29 rfl ?_
 try simp only [Tk.put]
 refine Tk.x 30 rfl ?_
 try simp only [Tk.put]
 refine Tk.t 31 (v:=undef) rfl (Or.inr ⟨by rfl,by rfl⟩) (by assumption) ?_
 try simp only [Tk.put]
 refine Tk.t 32 (v:=undef) rfl (Or.inr ⟨by rfl,by rfl⟩) (by assumption) ?_
 try simp only [Tk.put]
 refine Tk.t 33 (v:=undef) rfl (Or.inr ⟨by rfl,by rfl⟩) (by assumption) ?_
 try simp only [Tk.put]
 refine Tk.t 34 (v:=undef) rfl (Or.inr ⟨by rfl,by rfl⟩) (by assumption) ?_
 try simp only [Tk.put]
 refine Tk.t 35 (v:=undef) rfl (Or.inr ⟨by rfl,by rfl⟩) (by assumption) ?_
 try simp only [Tk.put]
 refine Tk.x 36 rfl ?_
 try simp only [Tk.put]
 refine Tk.x 37 rfl ?_
 try simp only [Tk.put]
 refine wpAnyH_done (by kernel_rfl) ?_ _
 go_wp2_with fail
 go_ret
 exact⟨rfl,HB.out⟩
theorem csame_3 (x y:Nd) (hx:x.Small) (hy:y.Small) (h0:(x.nW == y.nW)=true) (h1:(x.nB == y.nB)=true) (h2:(x.m1 == y.m1 && (x.s1 == y.s1 && x.z1 == y.z1))=true) (h3:(x.m2 == y.m2 && (x.s2 == y.s2 && x.z2 == y.z2))=false) (w:World) :
  Calls Tryz.prog 159 #[.agg x.val,.agg y.val] w fun e w'=>e=.returned (.bool false)∧Below w.heap.size w w':=by
 have TN:=hid ((NdAt.new x 54 w).below (B:=w.heap.size+1) (by omega) ((Below.refl _ _).alloc (by simp) (.cells y.val 54)))
 have TM:Hid (NdAt (w.heap.size+1) y ((w.alloc (.cells x.val 54)).alloc (.cells y.val 54))):=hid (by have:=NdAt.new y 54 (w.alloc (.cells x.val 54));rwa [World.size_alloc] at this)
 have HB:=hid (((Below.refl w.heap.size w).alloc (le_refl _) (.cells x.val 54)).alloc (by simp) (.cells y.val 54))
 have HL:Hid (w.heap.size+1 < ((w.alloc (.cells x.val 54)).alloc (.cells y.val 54)).heap.size):=hid (by simp)
 have hgq:=Tryz.eqGuardType52
 have HX:=hid hx
 have HY:=hid hy
 clear hx hy
 have G0:Hid (((x.nW:Int) == (y.nW:Int))=true):=hid (by simp at h0 ⊢;omega)
 clear h0
 have G1:Hid (((x.nB:Int) == (y.nB:Int))=true):=hid (by simp at h1 ⊢;omega)
 clear h1
 have G2:=hid (zbs x.m1 x.s1 x.z1 y.m1 y.s1 y.z1)
 rw [h2] at G2
 clear h2
 have G3:=hid (zbs x.m2 x.s2 x.z2 y.m2 y.s2 y.z2)
 rw [h3] at G3
 clear h3
 go_enter Tryz.func159,Tryz.ntmps159
 go_upto_region 1 with fail
 generalize (w.alloc (.cells x.val 54)).alloc (.cells y.val 54)=W0 at TN TM HB HL ⊢
 refine wp_region_held_drew (S:=fun w'=>NdAt w.heap.size x w'∧NdAt (w.heap.size+1) y w') (by kernel_rfl) ⟨TN.out.below (lt_of_succ_lt HL.out) (Below.refl _ _).drew,TM.out.below HL.out (Below.refl _ _).drew⟩ (fun hHeld=>?_)
 replace HB:=hid (HB.out.trans (Below.refl _ W0).drew)
 replace HL:Hid (w.heap.size+1 < W0.drew.heap.size):=hid HL.out
 clear TN TM
 generalize W0.drew=W1 at *
 clear W0
 refine Tk.x 0 rfl ?_
 try simp only [Tk.put]
 refine Tk.y 1 (v:=.slice x.WA x.nW x.cW) rfl ?_ ?_
 ·intro wS hSw
  have q:=hSw.1.at 9 (.slice x.WA x.nW x.cW) rfl
  first | (go_simp;done) | (go_simp;with_reducible rfl)
 try simp only [Tk.put]
 refine Tk.x 2 rfl ?_
 try simp only [Tk.put]
 refine Tk.x 3 rfl ?_
 try simp only [Tk.put]
 refine Tk.y 4 (v:=.slice y.WA y.nW y.cW) rfl ?_ ?_
 ·intro wS hSw
  have q:=hSw.2.at 9 (.slice y.WA y.nW y.cW) rfl
  first | (go_simp;done) | (go_simp;with_reducible rfl)
 try simp only [Tk.put]
 refine Tk.x 5 rfl ?_
 try simp only [Tk.put]
 refine Tk.y 6 (v:=.bool true) rfl ?_ ?_
 ·intro wS hSw
  have g:=G0.out
  first | (go_simp;done) | (go_simp;with_reducible rfl) | (simp [g];done)
 try simp only [Tk.put]
 refine Tk.x 7 rfl ?_
 try simp only [Tk.put]
 refine Tk.x 8 rfl ?_
 try simp only [Tk.put]
 refine Tk.y 9 (v:=.slice x.BA x.nB x.cB) rfl ?_ ?_
 ·intro wS hSw
  have q:=hSw.1.at 10 (.slice x.BA x.nB x.cB) rfl
  first | (go_simp;done) | (go_simp;with_reducible rfl)
 try simp only [Tk.put]
 refine Tk.x 10 rfl ?_
 try simp only [Tk.put]
 refine Tk.x 11 rfl ?_
 try simp only [Tk.put]
 refine Tk.y 12 (v:=.slice y.BA y.nB y.cB) rfl ?_ ?_
 ·intro wS hSw
  have q:=hSw.2.at 10 (.slice y.BA y.nB y.cB) rfl
  first | (go_simp;done) | (go_simp;with_reducible rfl)
 try simp only [Tk.put]
 refine Tk.x 13 rfl ?_
 try simp only [Tk.put]
 refine Tk.y 14 (v:=.bool true) rfl ?_ ?_
 ·intro wS hSw
  have g:=G1.out
  first | (go_simp;done) | (go_simp;with_reducible rfl) | (simp [g];done)
 try simp only [Tk.put]
 refine Tk.x 15 rfl ?_
 try simp only [Tk.put]
 refine Tk.x 16 rfl ?_
 try simp only [Tk.put]
 refine Tk.x 17 rfl ?_
 try simp only [Tk.put]
 refine Tk.y 18 (v:=.agg #[.int .i32 x.m1,.int .i64 x.s1,.int .i8 x.z1]) rfl ?_ ?_
 ·intro wS hSw
  have q11:=hSw.1.at 11 (.int .i32 x.m1) rfl
  have q12:=hSw.1.at 12 (.int .i64 x.s1) rfl
  have q13:=hSw.1.at 13 (.int .i8 x.z1) rfl
  first | (go_simp;done) | (go_simp;with_reducible rfl)
 try simp only [Tk.put]
 refine Tk.x 19 rfl ?_
 try simp only [Tk.put]
 refine Tk.y 20 (v:=.agg #[.int .i32 y.m1,.int .i64 y.s1,.int .i8 y.z1]) rfl ?_ ?_
 ·intro wS hSw
  have q11:=hSw.2.at 11 (.int .i32 y.m1) rfl
  have q12:=hSw.2.at 12 (.int .i64 y.s1) rfl
  have q13:=hSw.2.at 13 (.int .i8 y.z1) rfl
  first | (go_simp;done) | (go_simp;with_reducible rfl)
 try simp only [Tk.put]
 refine Tk.y 21 (v:=.bool true) rfl ?_ ?_
 ·intro wS hSw
  have g:=G2.out
  first | (go_simp;done) | (go_simp;with_reducible rfl) | (simp [g];done)
 try simp only [Tk.put]
 refine Tk.x 22 rfl ?_
 try simp only [Tk.put]
 refine Tk.x 23 rfl ?_
 try simp only [Tk.put]
 refine Tk.x 24 rfl ?_
 try simp only [Tk.put]
 refine Tk.y 25 (v:=.agg #[.int .i32 x.m2,.int .i64 x.s2,.int .i8 x.z2]) rfl ?_ ?_
 ·intro wS hSw
  have q14:=hSw.1.at 14 (.int .i32 x.m2) rfl
  have q15:=hSw.1.at 15 (.int .i64 x.s2) rfl
  have q16:=hSw.1.at 16 (.int .i8 x.z2) rfl
  first | (go_simp;done) | (go_simp;with_reducible rfl)
 try simp only [Tk.put]
 refine Tk.x 26 rfl ?_
 try simp only [Tk.put]
 refine Tk.y 27 (v:=.agg #[.int .i32 y.m2,.int .i64 y.s2,.int .i8 y.z2]) rfl ?_ ?_
 ·intro wS hSw
  have q14:=hSw.2.at 14 (.int .i32 y.m2) rfl
  have q15:=hSw.2.at 15 (.int .i64 y.s2) rfl
  have q16:=hSw.2.at 16 (.int .i8 y.z2) rfl
  first | (go_simp;done) | (go_simp;with_reducible rfl)
 try simp only [Tk.put]
 refine Tk.y 28 (v:=.bool false) rfl ?_ ?_
 ·intro wS hSw
  have g:=G3.out
  first | (go_simp;done) | (go_simp;with_reducible rfl) | (simp [g];done)
 try simp only [Tk.put]
 refine Tk.x 29 rfl ?_
 try simp only [Tk.put]
 refine Tk.x 30 rfl ?_
 try simp only [Tk.put]
 refine Tk.t 31 (v:=undef) rfl (Or.inr ⟨by rfl,by rfl⟩) (by assumption) ?_
 try simp only [Tk.put]
 refine Tk.t 32 (v:=undef) rfl (Or.inr ⟨by rfl,by rfl⟩) (by assumption) ?_
 try simp only [Tk.put]
 refine Tk.t 33 (v:=undef) rfl (Or.inr ⟨by rfl,by rfl⟩) (by assumption) ?_
 try simp only [Tk.put]
 refine Tk.t 34 (v:=undef) rfl (Or.inr ⟨by rfl,by rfl⟩) (by assumption) ?_
 try simp only [Tk.put]
 refine Tk.t 35 (v:=undef) rfl (Or.inr ⟨by rfl,by rfl⟩) (by assumption) ?_
 try simp only [Tk.put]
 refine Tk.x 36 rfl ?_
 try simp only [Tk.put]
 refine Tk.x 37 rfl ?_
 try simp only [Tk.put]
 refine wpAnyH_done (by kernel_rfl) ?_ _
 go_wp2_with fail
 go_ret
 exact⟨rfl,HB.out⟩
theorem csame_4 (x y:Nd) (hx:x.Small) (hy:y.Small) (h0:(x.nW == y.nW)=true) (h1:(x.nB == y.nB)=true) (h2:(x.m1 == y.m1 && (x.s1 == y.s1 && x.z1 == y.z1))=true) (h3:(x.m2 == y.m2 && (x.s2 == y.s2 && x.z2 == y.z2))=true) (h4:nineB x y=false) (w:World) :
  Calls Tryz.prog 159 #[.agg x.val,.agg y.val] w fun e w'=>e=.returned (.bool false)∧Below w.heap.size w w':=by
 have TN:=hid ((NdAt.new x 54 w).below (B:=w.heap.size+1) (by omega) ((Below.refl _ _).alloc (by simp) (.cells y.val 54)))
 have TM:Hid (NdAt (w.heap.size+1) y ((w.alloc (.cells x.val 54)).alloc (.cells y.val 54))):=hid (by have:=NdAt.new y 54 (w.alloc (.cells x.val 54));rwa [World.size_alloc] at this)
 have HB:=hid (((Below.refl w.heap.size w).alloc (le_refl _) (.cells x.val 54)).alloc (by simp) (.cells y.val 54))
 have HL:Hid (w.heap.size+1 < ((w.alloc (.cells x.val 54)).alloc (.cells y.val 54)).heap.size):=hid (by simp)
 have hgq:=Tryz.eqGuardType52
 have HX:=hid hx
 have HY:=hid hy
 clear hx hy
 have G0:Hid (((x.nW:Int) == (y.nW:Int))=true):=hid (by simp at h0 ⊢;omega)
 clear h0
 have G1:Hid (((x.nB:Int) == (y.nB:Int))=true):=hid (by simp at h1 ⊢;omega)
 clear h1
 have G2:=hid (zbs x.m1 x.s1 x.z1 y.m1 y.s1 y.z1)
 rw [h2] at G2
 clear h2
 have G3:=hid (zbs x.m2 x.s2 x.z2 y.m2 y.s2 y.z2)
 rw [h3] at G3
 clear h3
 have G4:=hid (eqNine x y _ h4)
 clear h4
 go_enter Tryz.func159,Tryz.ntmps159
 go_upto_region 1 with fail
 generalize (w.alloc (.cells x.val 54)).alloc (.cells y.val 54)=W0 at TN TM HB HL ⊢
 refine wp_region_held_drew (S:=fun w'=>NdAt w.heap.size x w'∧NdAt (w.heap.size+1) y w') (by kernel_rfl) ⟨TN.out.below (lt_of_succ_lt HL.out) (Below.refl _ _).drew,TM.out.below HL.out (Below.refl _ _).drew⟩ (fun hHeld=>?_)
 replace HB:=hid (HB.out.trans (Below.refl _ W0).drew)
 replace HL:Hid (w.heap.size+1 < W0.drew.heap.size):=hid HL.out
 clear TN TM
 generalize W0.drew=W1 at *
 clear W0
 refine Tk.x 0 rfl ?_
 try simp only [Tk.put]
 refine Tk.y 1 (v:=.slice x.WA x.nW x.cW) rfl ?_ ?_
 ·intro wS hSw
  have q:=hSw.1.at 9 (.slice x.WA x.nW x.cW) rfl
  first | (go_simp;done) | (go_simp;with_reducible rfl)
 try simp only [Tk.put]
 refine Tk.x 2 rfl ?_
 try simp only [Tk.put]
 refine Tk.x 3 rfl ?_
 try simp only [Tk.put]
 refine Tk.y 4 (v:=.slice y.WA y.nW y.cW) rfl ?_ ?_
 ·intro wS hSw
  have q:=hSw.2.at 9 (.slice y.WA y.nW y.cW) rfl
  first | (go_simp;done) | (go_simp;with_reducible rfl)
 try simp only [Tk.put]
 refine Tk.x 5 rfl ?_
 try simp only [Tk.put]
 refine Tk.y 6 (v:=.bool true) rfl ?_ ?_
 ·intro wS hSw
  have g:=G0.out
  first | (go_simp;done) | (go_simp;with_reducible rfl) | (simp [g];done)
 try simp only [Tk.put]
 refine Tk.x 7 rfl ?_
 try simp only [Tk.put]
 refine Tk.x 8 rfl ?_
 try simp only [Tk.put]
 refine Tk.y 9 (v:=.slice x.BA x.nB x.cB) rfl ?_ ?_
 ·intro wS hSw
  have q:=hSw.1.at 10 (.slice x.BA x.nB x.cB) rfl
  first | (go_simp;done) | (go_simp;with_reducible rfl)
 try simp only [Tk.put]
 refine Tk.x 10 rfl ?_
 try simp only [Tk.put]
 refine Tk.x 11 rfl ?_
 try simp only [Tk.put]
 refine Tk.y 12 (v:=.slice y.BA y.nB y.cB) rfl ?_ ?_
 ·intro wS hSw
  have q:=hSw.2.at 10 (.slice y.BA y.nB y.cB) rfl
  first | (go_simp;done) | (go_simp;with_reducible rfl)
 try simp only [Tk.put]
 refine Tk.x 13 rfl ?_
 try simp only [Tk.put]
 refine Tk.y 14 (v:=.bool true) rfl ?_ ?_
 ·intro wS hSw
  have g:=G1.out
  first | (go_simp;done) | (go_simp;with_reducible rfl) | (simp [g];done)
 try simp only [Tk.put]
 refine Tk.x 15 rfl ?_
 try simp only [Tk.put]
 refine Tk.x 16 rfl ?_
 try simp only [Tk.put]
 refine Tk.x 17 rfl ?_
 try simp only [Tk.put]
 refine Tk.y 18 (v:=.agg #[.int .i32 x.m1,.int .i64 x.s1,.int .i8 x.z1]) rfl ?_ ?_
 ·intro wS hSw
  have q11:=hSw.1.at 11 (.int .i32 x.m1) rfl
  have q12:=hSw.1.at 12 (.int .i64 x.s1) rfl
  have q13:=hSw.1.at 13 (.int .i8 x.z1) rfl
  first | (go_simp;done) | (go_simp;with_reducible rfl)
 try simp only [Tk.put]
 refine Tk.x 19 rfl ?_
 try simp only [Tk.put]
 refine Tk.y 20 (v:=.agg #[.int .i32 y.m1,.int .i64 y.s1,.int .i8 y.z1]) rfl ?_ ?_
 ·intro wS hSw
  have q11:=hSw.2.at 11 (.int .i32 y.m1) rfl
  have q12:=hSw.2.at 12 (.int .i64 y.s1) rfl
  have q13:=hSw.2.at 13 (.int .i8 y.z1) rfl
  first | (go_simp;done) | (go_simp;with_reducible rfl)
 try simp only [Tk.put]
 refine Tk.y 21 (v:=.bool true) rfl ?_ ?_
 ·intro wS hSw
  have g:=G2.out
  first | (go_simp;done) | (go_simp;with_reducible rfl) | (simp [g];done)
 try simp only [Tk.put]
 refine Tk.x 22 rfl ?_
 try simp only [Tk.put]
 refine Tk.x 23 rfl ?_
 try simp only [Tk.put]
 refine Tk.x 24 rfl ?_
 try simp only [Tk.put]
 refine Tk.y 25 (v:=.agg #[.int .i32 x.m2,.int .i64 x.s2,.int .i8 x.z2]) rfl ?_ ?_
 ·intro wS hSw
  have q14:=hSw.1.at 14 (.int .i32 x.m2) rfl
  have q15:=hSw.1.at 15 (.int .i64 x.s2) rfl
  have q16:=hSw.1.at 16 (.int .i8 x.z2) rfl
  first | (go_simp;done) | (go_simp;with_reducible rfl)
 try simp only [Tk.put]
 refine Tk.x 26 rfl ?_
 try simp only [Tk.put]
 refine Tk.y 27 (v:=.agg #[.int .i32 y.m2,.int .i64 y.s2,.int .i8 y.z2]) rfl ?_ ?_
 ·intro wS hSw
  have q14:=hSw.2.at 14 (.int .i32 y.m2) rfl
  have q15:=hSw.2.at 15 (.int .i64 y.s2) rfl
  have q16:=hSw.2.at 16 (.int .i8 y.z2) rfl
  first | (go_simp;done) | (go_simp;with_reducible rfl)
 try simp only [Tk.put]
 refine Tk.y 28 (v:=.bool true) rfl ?_ ?_
 ·intro wS hSw
  have g:=G3.out
  first | (go_simp;done) | (go_simp;with_reducible rfl) | (simp [g];done)
 try simp only [Tk.put]
 refine Tk.x 29 rfl ?_
 try simp only [Tk.put]
 refine Tk.x 30 rfl ?_
 try simp only [Tk.put]
 refine Tk.t 31 (v:=.agg x.val) rfl (zav _ rfl (by rfl) _ x rfl (fun _ h=>h.1)) (by assumption) ?_
 try simp only [Tk.put]
 refine Tk.t 33 (v:=.agg y.val) rfl (zav _ rfl (by rfl) _ y rfl (fun _ h=>h.2)) (by assumption) ?_
 try simp only [Tk.put]
 refine Tk.s 32 rfl (fun Kq hK=>?_)
 go_simp
 go_at_call 174
 with_reducible refine (zbx x HX.out _).mono ?_
 rintro e w1 ⟨rfl,hb⟩
 replace HB:=hid (HB.out.trans (hb.mono HB.out.size))
 have hS2:NdAt w.heap.size x w1∧NdAt (w.heap.size+1) y w1:=⟨hHeld.1.below (lt_of_succ_lt HL.out) hb,hHeld.2.below HL.out hb⟩
 replace HL:Hid (w.heap.size+1 < w1.heap.size):=hid (Nat.lt_of_lt_of_le HL.out hb.size)
 clear hb hHeld
 refine hK.out _ _ hS2 (fun hHeld=>?_)
 clear hK Kq hS2
 try simp only [Tk.put]
 refine Tk.s 34 rfl (fun Kq hK=>?_)
 go_simp
 go_at_call 174
 with_reducible refine (zbx y HY.out _).mono ?_
 rintro e w1 ⟨rfl,hb⟩
 replace HB:=hid (HB.out.trans (hb.mono HB.out.size))
 have hS2:NdAt w.heap.size x w1∧NdAt (w.heap.size+1) y w1:=⟨hHeld.1.below (lt_of_succ_lt HL.out) hb,hHeld.2.below HL.out hb⟩
 replace HL:Hid (w.heap.size+1 < w1.heap.size):=hid (Nat.lt_of_lt_of_le HL.out hb.size)
 clear hb hHeld
 refine hK.out _ _ hS2 (fun hHeld=>?_)
 clear hK Kq hS2
 try simp only [Tk.put]
 have hg9:=Tryz.eqGuardType266
 refine Tk.y 35 (v:=.bool false) rfl ?_ ?_
 ·intro wS hSw
  have g:=G4.out
  first | (go_simp;done) | (go_simp;with_reducible rfl) | (simp [g];done)
 try simp only [Tk.put]
 refine Tk.x 36 rfl ?_
 try simp only [Tk.put]
 refine Tk.x 37 rfl ?_
 try simp only [Tk.put]
 refine wpAnyH_done (by kernel_rfl) ?_ _
 go_wp2_with fail
 go_ret
 exact⟨rfl,HB.out⟩
theorem csame_5 (x y:Nd) (hx:x.Small) (hy:y.Small) (h0:(x.nW == y.nW)=true) (h1:(x.nB == y.nB)=true) (h2:(x.m1 == y.m1 && (x.s1 == y.s1 && x.z1 == y.z1))=true) (h3:(x.m2 == y.m2 && (x.s2 == y.s2 && x.z2 == y.z2))=true) (h4:nineB x y=true) (w:World) :
  Calls Tryz.prog 159 #[.agg x.val,.agg y.val] w fun e w'=>e=.returned (.bool true)∧Below w.heap.size w w':=by
 have TN:=hid ((NdAt.new x 54 w).below (B:=w.heap.size+1) (by omega) ((Below.refl _ _).alloc (by simp) (.cells y.val 54)))
 have TM:Hid (NdAt (w.heap.size+1) y ((w.alloc (.cells x.val 54)).alloc (.cells y.val 54))):=hid (by have:=NdAt.new y 54 (w.alloc (.cells x.val 54));rwa [World.size_alloc] at this)
 have HB:=hid (((Below.refl w.heap.size w).alloc (le_refl _) (.cells x.val 54)).alloc (by simp) (.cells y.val 54))
 have HL:Hid (w.heap.size+1 < ((w.alloc (.cells x.val 54)).alloc (.cells y.val 54)).heap.size):=hid (by simp)
 have hgq:=Tryz.eqGuardType52
 have HX:=hid hx
 have HY:=hid hy
 clear hx hy
 have G0:Hid (((x.nW:Int) == (y.nW:Int))=true):=hid (by simp at h0 ⊢;omega)
 clear h0
 have G1:Hid (((x.nB:Int) == (y.nB:Int))=true):=hid (by simp at h1 ⊢;omega)
 clear h1
 have G2:=hid (zbs x.m1 x.s1 x.z1 y.m1 y.s1 y.z1)
 rw [h2] at G2
 clear h2
 have G3:=hid (zbs x.m2 x.s2 x.z2 y.m2 y.s2 y.z2)
 rw [h3] at G3
 clear h3
 have G4:=hid (eqNine x y _ h4)
 clear h4
 go_enter Tryz.func159,Tryz.ntmps159
 go_upto_region 1 with fail
 generalize (w.alloc (.cells x.val 54)).alloc (.cells y.val 54)=W0 at TN TM HB HL ⊢
 refine wp_region_held_drew (S:=fun w'=>NdAt w.heap.size x w'∧NdAt (w.heap.size+1) y w') (by kernel_rfl) ⟨TN.out.below (lt_of_succ_lt HL.out) (Below.refl _ _).drew,TM.out.below HL.out (Below.refl _ _).drew⟩ (fun hHeld=>?_)
 replace HB:=hid (HB.out.trans (Below.refl _ W0).drew)
 replace HL:Hid (w.heap.size+1 < W0.drew.heap.size):=hid HL.out
 clear TN TM
 generalize W0.drew=W1 at *
 clear W0
 refine Tk.x 0 rfl ?_
 try simp only [Tk.put]
 refine Tk.y 1 (v:=.slice x.WA x.nW x.cW) rfl ?_ ?_
 ·intro wS hSw
  have q:=hSw.1.at 9 (.slice x.WA x.nW x.cW) rfl
  first | (go_simp;done) | (go_simp;with_reducible rfl)
 try simp only [Tk.put]
 refine Tk.x 2 rfl ?_
 try simp only [Tk.put]
 refine Tk.x 3 rfl ?_
 try simp only [Tk.put]
 refine Tk.y 4 (v:=.slice y.WA y.nW y.cW) rfl ?_ ?_
 ·intro wS hSw
  have q:=hSw.2.at 9 (.slice y.WA y.nW y.cW) rfl
  first | (go_simp;done) | (go_simp;with_reducible rfl)
 try simp only [Tk.put]
 refine Tk.x 5 rfl ?_
 try simp only [Tk.put]
 refine Tk.y 6 (v:=.bool true) rfl ?_ ?_
 ·intro wS hSw
  have g:=G0.out
  first | (go_simp;done) | (go_simp;with_reducible rfl) | (simp [g];done)
 try simp only [Tk.put]
 refine Tk.x 7 rfl ?_
 try simp only [Tk.put]
 refine Tk.x 8 rfl ?_
 try simp only [Tk.put]
 refine Tk.y 9 (v:=.slice x.BA x.nB x.cB) rfl ?_ ?_
 ·intro wS hSw
  have q:=hSw.1.at 10 (.slice x.BA x.nB x.cB) rfl
  first | (go_simp;done) | (go_simp;with_reducible rfl)
 try simp only [Tk.put]
 refine Tk.x 10 rfl ?_
 try simp only [Tk.put]
 refine Tk.x 11 rfl ?_
 try simp only [Tk.put]
 refine Tk.y 12 (v:=.slice y.BA y.nB y.cB) rfl ?_ ?_
 ·intro wS hSw
  have q:=hSw.2.at 10 (.slice y.BA y.nB y.cB) rfl
  first | (go_simp;done) | (go_simp;with_reducible rfl)
 try simp only [Tk.put]
 refine Tk.x 13 rfl ?_
 try simp only [Tk.put]
 refine Tk.y 14 (v:=.bool true) rfl ?_ ?_
 ·intro wS hSw
  have g:=G1.out
  first | (go_simp;done) | (go_simp;with_reducible rfl) | (simp [g];done)
 try simp only [Tk.put]
 refine Tk.x 15 rfl ?_
 try simp only [Tk.put]
 refine Tk.x 16 rfl ?_
 try simp only [Tk.put]
 refine Tk.x 17 rfl ?_
 try simp only [Tk.put]
 refine Tk.y 18 (v:=.agg #[.int .i32 x.m1,.int .i64 x.s1,.int .i8 x.z1]) rfl ?_ ?_
 ·intro wS hSw
  have q11:=hSw.1.at 11 (.int .i32 x.m1) rfl
  have q12:=hSw.1.at 12 (.int .i64 x.s1) rfl
  have q13:=hSw.1.at 13 (.int .i8 x.z1) rfl
  first | (go_simp;done) | (go_simp;with_reducible rfl)
 try simp only [Tk.put]
 refine Tk.x 19 rfl ?_
 try simp only [Tk.put]
 refine Tk.y 20 (v:=.agg #[.int .i32 y.m1,.int .i64 y.s1,.int .i8 y.z1]) rfl ?_ ?_
 ·intro wS hSw
  have q11:=hSw.2.at 11 (.int .i32 y.m1) rfl
  have q12:=hSw.2.at 12 (.int .i64 y.s1) rfl
  have q13:=hSw.2.at 13 (.int .i8 y.z1) rfl
  first | (go_simp;done) | (go_simp;with_reducible rfl)
 try simp only [Tk.put]
 refine Tk.y 21 (v:=.bool true) rfl ?_ ?_
 ·intro wS hSw
  have g:=G2.out
  first | (go_simp;done) | (go_simp;with_reducible rfl) | (simp [g];done)
 try simp only [Tk.put]
 refine Tk.x 22 rfl ?_
 try simp only [Tk.put]
 refine Tk.x 23 rfl ?_
 try simp only [Tk.put]
 refine Tk.x 24 rfl ?_
 try simp only [Tk.put]
 refine Tk.y 25 (v:=.agg #[.int .i32 x.m2,.int .i64 x.s2,.int .i8 x.z2]) rfl ?_ ?_
 ·intro wS hSw
  have q14:=hSw.1.at 14 (.int .i32 x.m2) rfl
  have q15:=hSw.1.at 15 (.int .i64 x.s2) rfl
  have q16:=hSw.1.at 16 (.int .i8 x.z2) rfl
  first | (go_simp;done) | (go_simp;with_reducible rfl)
 try simp only [Tk.put]
 refine Tk.x 26 rfl ?_
 try simp only [Tk.put]
 refine Tk.y 27 (v:=.agg #[.int .i32 y.m2,.int .i64 y.s2,.int .i8 y.z2]) rfl ?_ ?_
 ·intro wS hSw
  have q14:=hSw.2.at 14 (.int .i32 y.m2) rfl
  have q15:=hSw.2.at 15 (.int .i64 y.s2) rfl
  have q16:=hSw.2.at 16 (.int .i8 y.z2) rfl
  first | (go_simp;done) | (go_simp;with_reducible rfl)
 try simp only [Tk.put]
 refine Tk.y 28 (v:=.bool true) rfl ?_ ?_
 ·intro wS hSw
  have g:=G3.out
  first | (go_simp;done) | (go_simp;with_reducible rfl) | (simp [g];done)
 try simp only [Tk.put]
 refine Tk.x 29 rfl ?_
 try simp only [Tk.put]
 refine Tk.x 30 rfl ?_
 try simp only [Tk.put]
 refine Tk.t 31 (v:=.agg x.val) rfl (zav _ rfl (by rfl) _ x rfl (fun _ h=>h.1)) (by assumption) ?_
 try simp only [Tk.put]
 refine Tk.t 33 (v:=.agg y.val) rfl (zav _ rfl (by rfl) _ y rfl (fun _ h=>h.2)) (by assumption) ?_
 try simp only [Tk.put]
 refine Tk.s 32 rfl (fun Kq hK=>?_)
 go_simp
 go_at_call 174
 with_reducible refine (zbx x HX.out _).mono ?_
 rintro e w1 ⟨rfl,hb⟩
 replace HB:=hid (HB.out.trans (hb.mono HB.out.size))
 have hS2:NdAt w.heap.size x w1∧NdAt (w.heap.size+1) y w1:=⟨hHeld.1.below (lt_of_succ_lt HL.out) hb,hHeld.2.below HL.out hb⟩
 replace HL:Hid (w.heap.size+1 < w1.heap.size):=hid (Nat.lt_of_lt_of_le HL.out hb.size)
 clear hb hHeld
 refine hK.out _ _ hS2 (fun hHeld=>?_)
 clear hK Kq hS2
 try simp only [Tk.put]
 refine Tk.s 34 rfl (fun Kq hK=>?_)
 go_simp
 go_at_call 174
 with_reducible refine (zbx y HY.out _).mono ?_
 rintro e w1 ⟨rfl,hb⟩
 replace HB:=hid (HB.out.trans (hb.mono HB.out.size))
 have hS2:NdAt w.heap.size x w1∧NdAt (w.heap.size+1) y w1:=⟨hHeld.1.below (lt_of_succ_lt HL.out) hb,hHeld.2.below HL.out hb⟩
 replace HL:Hid (w.heap.size+1 < w1.heap.size):=hid (Nat.lt_of_lt_of_le HL.out hb.size)
 clear hb hHeld
 refine hK.out _ _ hS2 (fun hHeld=>?_)
 clear hK Kq hS2
 try simp only [Tk.put]
 have hg9:=Tryz.eqGuardType266
 refine Tk.y 35 (v:=.bool true) rfl ?_ ?_
 ·intro wS hSw
  have g:=G4.out
  first | (go_simp;done) | (go_simp;with_reducible rfl) | (simp [g];done)
 try simp only [Tk.put]
 refine Tk.x 36 rfl ?_
 try simp only [Tk.put]
 refine Tk.x 37 rfl ?_
 try simp only [Tk.put]
 refine wpAnyH_done (by kernel_rfl) ?_ _
 go_wp2_with fail
 go_ret
 exact⟨rfl,HB.out⟩
def Nd.alikeB (x y:Nd):Bool:=(x.nW == y.nW) && ((x.nB == y.nB) && ((x.m1 == y.m1 && (x.s1 == y.s1 && x.z1 == y.z1)) && ((x.m2 == y.m2 && (x.s2 == y.s2 && x.z2 == y.z2)) && nineB x y)))
theorem csame_to (x y:Nd) (hx:x.Small) (hy:y.Small) (b:Bool) (hb:x.alikeB y=b) (w:World) :
  Calls Tryz.prog 159 #[.agg x.val,.agg y.val] w fun e w'=>e=.returned (.bool b)∧Below w.heap.size w w':=by
 subst hb
 unfold Nd.alikeB
 cases h0:(x.nW == y.nW)
 ·exact csame_0 x y hx hy h0 w
 cases h1:(x.nB == y.nB)
 ·exact csame_1 x y hx hy h0 h1 w
 cases h2:(x.m1 == y.m1 && (x.s1 == y.s1 && x.z1 == y.z1))
 ·exact csame_2 x y hx hy h0 h1 h2 w
 cases h3:(x.m2 == y.m2 && (x.s2 == y.s2 && x.z2 == y.z2))
 ·exact csame_3 x y hx hy h0 h1 h2 h3 w
 cases h4:nineB x y
 ·exact csame_4 x y hx hy h0 h1 h2 h3 h4 w
 ·exact csame_5 x y hx hy h0 h1 h2 h3 h4 w
end CKind
end
end Go.Proofs.YtfgdfignoakkaaaGreatDoor
