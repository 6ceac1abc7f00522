/- -/
import Derived.Test.YtchpdhhpkljdhaaGreatDoorGD31
open Go.Value renaming int→Jj
open Go.IntKind renaming i64→Jq
open Go.Lib (hid)
open Nat (le_refl lt_of_succ_lt lt_succ_self)
set_option linter.unusedVariables false
set_option linter.unusedSimpArgs false
set_option maxRecDepth 100000
set_option maxHeartbeats 16000000
namespace Go.Proofs.YtchpdhhpkljdhaaGreatDoor
namespace CConv
end CConv
namespace CSat
end CSat
open Go Go.ChangeShapes Go.WideShapes Go.ChangeAt Go.RowKit Go.Deep
section
namespace CKind
open Plain CSat CShape CTensor CConv
theorem zcp {ops:Array Oper} {S:World→Prop} {oi:Oper} {a:Act} (x:Operand) (ho:oi.op=.load 28 x) (hw:Region.wanted oi (yielded ops a.tmps)=true) (b:Nat) (u:Nd) (hx:a.eval x=.pointer (some ⟨b,0,none⟩)) (hS:∀ w,S w→NdAt b u w) :
  YieldsIf Tryz.prog ops S oi (.agg u.val) a :=
 yieldsIf_load_mid hw 28 x ho b 0 hx u.val.toList _ hS Tryz.underlying28 rfl Zb5
theorem csame_0 (x y:Nd) (hx:x.Small) (hy:y.Small) (h0:(x.nW == y.nW)=false) (w:World) :
  Calls Tryz.prog 39 #[.agg x.val,.agg y.val] w fun e w'=>e=.returned (.bool false)∧Below w.heap.size w w':=by
 refine Z6h ?_;intro TN TM HB HL hgq HX HY
 clear hx hy
 have G0:Hid (((x.nW:Int) == (y.nW:Int))=false):=hid Zbl
 clear h0
 go_enter Tryz.func39,Tryz.ntmps39
 go_upto_region 1 with fail
 generalize (w.alloc (.cells x.val 28)).alloc (.cells y.val 28)=W0 at TN TM HB HL ⊢
 refine wp_region_held_drew (S:=fun w'=>NdAt w.heap.size x w'∧NdAt (w.heap.size+1) y w') Zb5 ⟨TN.out.below (lt_of_succ_lt HL.out) (Below.refl _ _).drew,TM.out.below HL.out (Below.refl _ _).drew⟩ (fun hHeld=>?_)
 refine Z8s ?_;try clear HB HL;intro HB HL
 clear TN TM
 generalize W0.drew=W1 at *
 clear W0
 refine Z8l ?_
 refine Z5y ?_
 refine Tk.y 1 (v:=.slice x.WA x.nW x.cW) rfl ?_ ?_
 ·exact Z49
 refine Z5y ?_
 refine Z8w ?_
 refine Z5y ?_
 refine Z94 ?_
 refine Z5y ?_
 refine Tk.y 4 (v:=.slice y.WA y.nW y.cW) rfl ?_ ?_
 ·exact Z4a
 refine Z5y ?_
 refine Za1 ?_
 refine Z5y ?_
 refine Tk.y 6 (v:=.bool false) rfl ?_ ?_
 ·exact Z52
 refine Z5y ?_
 refine Z9w ?_
 refine Z5y ?_
 refine Tk.t 8 (v:=undef) rfl (Or.inr ⟨by rfl,by rfl⟩) Zbd ?_
 refine Z5y ?_
 refine Tk.t 9 (v:=undef) rfl (Or.inr ⟨by rfl,by rfl⟩) Zbd ?_
 refine Z5y ?_
 refine Tk.t 10 (v:=undef) rfl (Or.inr ⟨by rfl,by rfl⟩) Zbd ?_
 refine Z5y ?_
 refine Tk.t 11 (v:=undef) rfl (Or.inr ⟨by rfl,by rfl⟩) Zbd ?_
 refine Z5y ?_
 refine Tk.t 12 (v:=undef) rfl (Or.inr ⟨by rfl,by rfl⟩) Zbd ?_
 refine Z5y ?_
 refine Tk.t 13 (v:=undef) rfl (Or.inr ⟨by rfl,by rfl⟩) Zbd ?_
 refine Z5y ?_
 refine Tk.t 14 (v:=undef) rfl (Or.inr ⟨by rfl,by rfl⟩) Zbd ?_
 refine Z5y ?_
 exact Z3o
theorem csame_1 (x y:Nd) (hx:x.Small) (hy:y.Small) (h0:(x.nW == y.nW)=true) (h1:(x.nB == y.nB)=false) (w:World) :
  Calls Tryz.prog 39 #[.agg x.val,.agg y.val] w fun e w'=>e=.returned (.bool false)∧Below w.heap.size w w':=by
 refine Z6h ?_;intro TN TM HB HL hgq HX HY
 clear hx hy
 have G0:Hid (((x.nW:Int) == (y.nW:Int))=true):=hid Zbl
 clear h0
 have G1:Hid (((x.nB:Int) == (y.nB:Int))=false):=hid Zbp
 clear h1
 go_enter Tryz.func39,Tryz.ntmps39
 go_upto_region 1 with fail
 generalize (w.alloc (.cells x.val 28)).alloc (.cells y.val 28)=W0 at TN TM HB HL ⊢
 refine wp_region_held_drew (S:=fun w'=>NdAt w.heap.size x w'∧NdAt (w.heap.size+1) y w') Zb5 ⟨TN.out.below (lt_of_succ_lt HL.out) (Below.refl _ _).drew,TM.out.below HL.out (Below.refl _ _).drew⟩ (fun hHeld=>?_)
 refine Z8s ?_;try clear HB HL;intro HB HL
 clear TN TM
 generalize W0.drew=W1 at *
 clear W0
 refine Z8l ?_
 refine Z5y ?_
 refine Tk.y 1 (v:=.slice x.WA x.nW x.cW) rfl ?_ ?_
 ·exact Z49
 refine Z5y ?_
 refine Z8w ?_
 refine Z5y ?_
 refine Z94 ?_
 refine Z5y ?_
 refine Tk.y 4 (v:=.slice y.WA y.nW y.cW) rfl ?_ ?_
 ·exact Z4a
 refine Z5y ?_
 refine Za1 ?_
 refine Z5y ?_
 refine Tk.y 6 (v:=.bool true) rfl ?_ ?_
 ·exact Z52
 refine Z5y ?_
 refine Z9w ?_
 refine Z5y ?_
 refine Z9f ?_
 refine Z5y ?_
 refine Tk.y 9 (v:=.slice x.BA x.nB x.cB) rfl ?_ ?_
 ·exact Z4k
 refine Z5y ?_
 refine Z9o ?_
 refine Z5y ?_
 refine Za5 ?_
 refine Z5y ?_
 refine Tk.y 12 (v:=.slice y.BA y.nB y.cB) rfl ?_ ?_
 ·exact Z4l
 refine Z5y ?_
 refine Za6 ?_
 refine Z5y ?_
 refine Tk.y 14 (v:=.bool false) rfl ?_ ?_
 ·exact Z5d
 refine Z5y ?_
 exact Z3o
theorem csame_2 (x y:Nd) (hx:x.Small) (hy:y.Small) (h0:(x.nW == y.nW)=true) (h1:(x.nB == y.nB)=true) (h2:(x.m1 == y.m1 && (x.s1 == y.s1 && x.z1 == y.z1))=false) (w:World) :
  Calls Tryz.prog 39 #[.agg x.val,.agg y.val] w fun e w'=>e=.returned (.bool false)∧Below w.heap.size w w':=by
 refine Z6h ?_;intro TN TM HB HL hgq HX HY
 clear hx hy
 have G0:Hid (((x.nW:Int) == (y.nW:Int))=true):=hid Zbl
 clear h0
 have G1:Hid (((x.nB:Int) == (y.nB:Int))=true):=hid Zbp
 clear h1
 have G2:=hid (zdh x.m1 x.s1 x.z1 y.m1 y.s1 y.z1)
 rw [h2] at G2
 clear h2
 go_enter Tryz.func39,Tryz.ntmps39
 go_upto_region 1 with fail
 generalize (w.alloc (.cells x.val 28)).alloc (.cells y.val 28)=W0 at TN TM HB HL ⊢
 refine wp_region_held_drew (S:=fun w'=>NdAt w.heap.size x w'∧NdAt (w.heap.size+1) y w') Zb5 ⟨TN.out.below (lt_of_succ_lt HL.out) (Below.refl _ _).drew,TM.out.below HL.out (Below.refl _ _).drew⟩ (fun hHeld=>?_)
 refine Z8s ?_;try clear HB HL;intro HB HL
 clear TN TM
 generalize W0.drew=W1 at *
 clear W0
 refine Z8l ?_
 refine Z5y ?_
 refine Tk.y 1 (v:=.slice x.WA x.nW x.cW) rfl ?_ ?_
 ·exact Z49
 refine Z5y ?_
 refine Z8w ?_
 refine Z5y ?_
 refine Z94 ?_
 refine Z5y ?_
 refine Tk.y 4 (v:=.slice y.WA y.nW y.cW) rfl ?_ ?_
 ·exact Z4a
 refine Z5y ?_
 refine Za1 ?_
 refine Z5y ?_
 refine Tk.y 6 (v:=.bool true) rfl ?_ ?_
 ·exact Z52
 refine Z5y ?_
 refine Z9w ?_
 refine Z5y ?_
 refine Z9f ?_
 refine Z5y ?_
 refine Tk.y 9 (v:=.slice x.BA x.nB x.cB) rfl ?_ ?_
 ·exact Z4k
 refine Z5y ?_
 refine Z9o ?_
 refine Z5y ?_
 refine Za5 ?_
 refine Z5y ?_
 refine Tk.y 12 (v:=.slice y.BA y.nB y.cB) rfl ?_ ?_
 ·exact Z4l
 refine Z5y ?_
 refine Za6 ?_
 refine Z5y ?_
 refine Tk.y 14 (v:=.bool true) rfl ?_ ?_
 ·exact Z5d
 refine Z5y ?_
 refine Tk.x 15 rfl ?_
 refine Z5y ?_
 refine Zak ?_
 refine Z5y ?_
 refine Tk.x 17 rfl ?_
 refine Z5y ?_
 refine Tk.y 18 (v:=.agg #[.int .i32 x.m1,Jj Jq x.s1,.int .i8 x.z1]) rfl ?_ ?_
 ·exact Z3y
 refine Z5y ?_
 refine Tk.x 19 rfl ?_
 refine Z5y ?_
 refine Tk.y 20 (v:=.agg #[.int .i32 y.m1,Jj Jq y.s1,.int .i8 y.z1]) rfl ?_ ?_
 ·exact Z3z
 refine Z5y ?_
 refine Tk.y 21 (v:=.bool false) rfl ?_ ?_
 ·intro wS hSw
  have g:=G2.out
  exact Z11
 refine Z5y ?_
 refine Tk.x 22 rfl ?_
 refine Z5y ?_
 refine Tk.x 23 rfl ?_
 refine Z5y ?_
 refine Tk.t 24 (v:=undef) rfl (Or.inr ⟨by rfl,by rfl⟩) Zbd ?_
 refine Z5y ?_
 refine Tk.t 25 (v:=undef) rfl (Or.inr ⟨by rfl,by rfl⟩) Zbd ?_
 refine Z5y ?_
 refine Tk.t 26 (v:=undef) rfl (Or.inr ⟨by rfl,by rfl⟩) Zbd ?_
 refine Z5y ?_
 refine Tk.t 27 (v:=undef) rfl (Or.inr ⟨by rfl,by rfl⟩) Zbd ?_
 refine Z5y ?_
 refine Tk.t 28 (v:=undef) rfl (Or.inr ⟨by rfl,by rfl⟩) Zbd ?_
 refine Z5y ?_
 exact Zo
theorem csame_3 (x y:Nd) (hx:x.Small) (hy:y.Small) (h0:(x.nW == y.nW)=true) (h1:(x.nB == y.nB)=true) (h2:(x.m1 == y.m1 && (x.s1 == y.s1 && x.z1 == y.z1))=true) (h3:(x.m2 == y.m2 && (x.s2 == y.s2 && x.z2 == y.z2))=false) (w:World) :
  Calls Tryz.prog 39 #[.agg x.val,.agg y.val] w fun e w'=>e=.returned (.bool false)∧Below w.heap.size w w':=by
 refine Z6h ?_;intro TN TM HB HL hgq HX HY
 clear hx hy
 have G0:Hid (((x.nW:Int) == (y.nW:Int))=true):=hid Zbl
 clear h0
 have G1:Hid (((x.nB:Int) == (y.nB:Int))=true):=hid Zbp
 refine Zaa ?_;clear h1 h2 h3;intro G2 G3
 go_enter Tryz.func39,Tryz.ntmps39
 go_upto_region 1 with fail
 generalize (w.alloc (.cells x.val 28)).alloc (.cells y.val 28)=W0 at TN TM HB HL ⊢
 refine wp_region_held_drew (S:=fun w'=>NdAt w.heap.size x w'∧NdAt (w.heap.size+1) y w') Zb5 ⟨TN.out.below (lt_of_succ_lt HL.out) (Below.refl _ _).drew,TM.out.below HL.out (Below.refl _ _).drew⟩ (fun hHeld=>?_)
 refine Z8s ?_;try clear HB HL;intro HB HL
 clear TN TM
 generalize W0.drew=W1 at *
 clear W0
 refine Z8l ?_
 refine Z5y ?_
 refine Tk.y 1 (v:=.slice x.WA x.nW x.cW) rfl ?_ ?_
 ·exact Z49
 refine Z5y ?_
 refine Z8w ?_
 refine Z5y ?_
 refine Z94 ?_
 refine Z5y ?_
 refine Tk.y 4 (v:=.slice y.WA y.nW y.cW) rfl ?_ ?_
 ·exact Z4a
 refine Z5y ?_
 refine Za1 ?_
 refine Z5y ?_
 refine Tk.y 6 (v:=.bool true) rfl ?_ ?_
 ·exact Z52
 refine Z5y ?_
 refine Z9w ?_
 refine Z5y ?_
 refine Z9f ?_
 refine Z5y ?_
 refine Tk.y 9 (v:=.slice x.BA x.nB x.cB) rfl ?_ ?_
 ·exact Z4k
 refine Z5y ?_
 refine Z9o ?_
 refine Z5y ?_
 refine Za5 ?_
 refine Z5y ?_
 refine Tk.y 12 (v:=.slice y.BA y.nB y.cB) rfl ?_ ?_
 ·exact Z4l
 refine Z5y ?_
 refine Za6 ?_
 refine Z5y ?_
 refine Tk.y 14 (v:=.bool true) rfl ?_ ?_
 ·exact Z5d
 refine Z5y ?_
 refine Tk.x 15 rfl ?_
 refine Z5y ?_
 refine Zak ?_
 refine Z5y ?_
 refine Tk.x 17 rfl ?_
 refine Z5y ?_
 refine Tk.y 18 (v:=.agg #[.int .i32 x.m1,Jj Jq x.s1,.int .i8 x.z1]) rfl ?_ ?_
 ·exact Z3y
 refine Z5y ?_
 refine Tk.x 19 rfl ?_
 refine Z5y ?_
 refine Tk.y 20 (v:=.agg #[.int .i32 y.m1,Jj Jq y.s1,.int .i8 y.z1]) rfl ?_ ?_
 ·exact Z3z
 refine Z5y ?_
 refine Tk.y 21 (v:=.bool true) rfl ?_ ?_
 ·intro wS hSw
  have g:=G2.out
  exact Z11
 refine Z5y ?_
 refine Tk.x 22 rfl ?_
 refine Z5y ?_
 refine Tk.x 23 rfl ?_
 refine Z5y ?_
 refine Tk.x 24 rfl ?_
 refine Z5y ?_
 refine Tk.y 25 (v:=.agg #[.int .i32 x.m2,Jj Jq x.s2,.int .i8 x.z2]) rfl ?_ ?_
 ·exact Z4f
 refine Z5y ?_
 refine Tk.x 26 rfl ?_
 refine Z5y ?_
 refine Tk.y 27 (v:=.agg #[.int .i32 y.m2,Jj Jq y.s2,.int .i8 y.z2]) rfl ?_ ?_
 ·exact Z4g
 refine Z5y ?_
 refine Tk.y 28 (v:=.bool false) rfl ?_ ?_
 ·intro wS hSw
  have g:=G3.out
  exact Z11
 refine Z5y ?_
 exact Zo
theorem csame_4 (x y:Nd) (hx:x.Small) (hy:y.Small) (h0:(x.nW == y.nW)=true) (h1:(x.nB == y.nB)=true) (h2:(x.m1 == y.m1 && (x.s1 == y.s1 && x.z1 == y.z1))=true) (h3:(x.m2 == y.m2 && (x.s2 == y.s2 && x.z2 == y.z2))=true) (h4:nineB x y=false) (w:World) :
  Calls Tryz.prog 39 #[.agg x.val,.agg y.val] w fun e w'=>e=.returned (.bool false)∧Below w.heap.size w w':=by
 refine Z6h ?_;intro TN TM HB HL hgq HX HY
 clear hx hy
 have G0:Hid (((x.nW:Int) == (y.nW:Int))=true):=hid Zbl
 clear h0
 have G1:Hid (((x.nB:Int) == (y.nB:Int))=true):=hid Zbp
 refine Zaa ?_;clear h1 h2 h3;intro G2 G3
 have G4:=hid (eqNine x y _ h4)
 clear h4
 go_enter Tryz.func39,Tryz.ntmps39
 go_upto_region 1 with fail
 generalize (w.alloc (.cells x.val 28)).alloc (.cells y.val 28)=W0 at TN TM HB HL ⊢
 refine wp_region_held_drew (S:=fun w'=>NdAt w.heap.size x w'∧NdAt (w.heap.size+1) y w') Zb5 ⟨TN.out.below (lt_of_succ_lt HL.out) (Below.refl _ _).drew,TM.out.below HL.out (Below.refl _ _).drew⟩ (fun hHeld=>?_)
 refine Z8s ?_;try clear HB HL;intro HB HL
 clear TN TM
 generalize W0.drew=W1 at *
 clear W0
 refine Z8l ?_
 refine Z5y ?_
 refine Tk.y 1 (v:=.slice x.WA x.nW x.cW) rfl ?_ ?_
 ·exact Z49
 refine Z5y ?_
 refine Z8w ?_
 refine Z5y ?_
 refine Z94 ?_
 refine Z5y ?_
 refine Tk.y 4 (v:=.slice y.WA y.nW y.cW) rfl ?_ ?_
 ·exact Z4a
 refine Z5y ?_
 refine Za1 ?_
 refine Z5y ?_
 refine Tk.y 6 (v:=.bool true) rfl ?_ ?_
 ·exact Z52
 refine Z5y ?_
 refine Z9w ?_
 refine Z5y ?_
 refine Z9f ?_
 refine Z5y ?_
 refine Tk.y 9 (v:=.slice x.BA x.nB x.cB) rfl ?_ ?_
 ·exact Z4k
 refine Z5y ?_
 refine Z9o ?_
 refine Z5y ?_
 refine Za5 ?_
 refine Z5y ?_
 refine Tk.y 12 (v:=.slice y.BA y.nB y.cB) rfl ?_ ?_
 ·exact Z4l
 refine Z5y ?_
 refine Za6 ?_
 refine Z5y ?_
 refine Tk.y 14 (v:=.bool true) rfl ?_ ?_
 ·exact Z5d
 refine Z5y ?_
 refine Tk.x 15 rfl ?_
 refine Z5y ?_
 refine Zak ?_
 refine Z5y ?_
 refine Tk.x 17 rfl ?_
 refine Z5y ?_
 refine Tk.y 18 (v:=.agg #[.int .i32 x.m1,Jj Jq x.s1,.int .i8 x.z1]) rfl ?_ ?_
 ·exact Z3y
 refine Z5y ?_
 refine Tk.x 19 rfl ?_
 refine Z5y ?_
 refine Tk.y 20 (v:=.agg #[.int .i32 y.m1,Jj Jq y.s1,.int .i8 y.z1]) rfl ?_ ?_
 ·exact Z3z
 refine Z5y ?_
 refine Tk.y 21 (v:=.bool true) rfl ?_ ?_
 ·intro wS hSw
  have g:=G2.out
  exact Z11
 refine Z5y ?_
 refine Tk.x 22 rfl ?_
 refine Z5y ?_
 refine Tk.x 23 rfl ?_
 refine Z5y ?_
 refine Tk.x 24 rfl ?_
 refine Z5y ?_
 refine Tk.y 25 (v:=.agg #[.int .i32 x.m2,Jj Jq x.s2,.int .i8 x.z2]) rfl ?_ ?_
 ·exact Z4f
 refine Z5y ?_
 refine Tk.x 26 rfl ?_
 refine Z5y ?_
 refine Tk.y 27 (v:=.agg #[.int .i32 y.m2,Jj Jq y.s2,.int .i8 y.z2]) rfl ?_ ?_
 ·exact Z4g
 refine Z5y ?_
 refine Tk.y 28 (v:=.bool true) rfl ?_ ?_
 ·intro wS hSw
  have g:=G3.out
  exact Z11
 refine Z5y ?_
 refine Tk.x 29 rfl ?_
 refine Z5y ?_
 refine Tk.x 30 rfl ?_
 refine Z5y ?_
 refine Tk.t 31 (v:=.agg x.val) rfl (zcp _ rfl Zbu _ x rfl (fun _ h=>h.1)) Zbd ?_
 refine Z5y ?_
 refine Tk.t 33 (v:=.agg y.val) rfl (zcp _ rfl Zbu _ y rfl (fun _ h=>h.2)) Zbd ?_
 refine Z5y ?_
 refine Tk.s 32 rfl (fun Kq hK=>?_)
 go_simp
 go_at_call 93
 with_reducible refine (numbers_to x HX.out _).mono ?_
 rintro e w1 ⟨rfl,hb⟩
 refine Z7t ?_;try clear HB HL;intro HB hS2 HL
 clear hb hHeld
 refine Z8a ?_;intro hHeld
 clear hK Kq hS2
 refine Z5y ?_
 refine Tk.s 34 rfl (fun Kq hK=>?_)
 go_simp
 go_at_call 93
 with_reducible refine (numbers_to y HY.out _).mono ?_
 rintro e w1 ⟨rfl,hb⟩
 refine Z7t ?_;try clear HB HL;intro HB hS2 HL
 clear hb hHeld
 refine Z8a ?_;intro hHeld
 clear hK Kq hS2
 refine Z5y ?_
 have hg9:=Tryz.eqGuardType127
 refine Tk.y 35 (v:=.bool false) rfl ?_ ?_
 ·intro wS hSw
  have g:=G4.out
  exact Z11
 refine Z5y ?_
 exact Z16
theorem csame_5 (x y:Nd) (hx:x.Small) (hy:y.Small) (h0:(x.nW == y.nW)=true) (h1:(x.nB == y.nB)=true) (h2:(x.m1 == y.m1 && (x.s1 == y.s1 && x.z1 == y.z1))=true) (h3:(x.m2 == y.m2 && (x.s2 == y.s2 && x.z2 == y.z2))=true) (h4:nineB x y=true) (w:World) :
  Calls Tryz.prog 39 #[.agg x.val,.agg y.val] w fun e w'=>e=.returned (.bool true)∧Below w.heap.size w w':=by
 refine Z6h ?_;intro TN TM HB HL hgq HX HY
 clear hx hy
 have G0:Hid (((x.nW:Int) == (y.nW:Int))=true):=hid Zbl
 clear h0
 have G1:Hid (((x.nB:Int) == (y.nB:Int))=true):=hid Zbp
 refine Zaa ?_;clear h1 h2 h3;intro G2 G3
 have G4:=hid (eqNine x y _ h4)
 clear h4
 go_enter Tryz.func39,Tryz.ntmps39
 go_upto_region 1 with fail
 generalize (w.alloc (.cells x.val 28)).alloc (.cells y.val 28)=W0 at TN TM HB HL ⊢
 refine wp_region_held_drew (S:=fun w'=>NdAt w.heap.size x w'∧NdAt (w.heap.size+1) y w') Zb5 ⟨TN.out.below (lt_of_succ_lt HL.out) (Below.refl _ _).drew,TM.out.below HL.out (Below.refl _ _).drew⟩ (fun hHeld=>?_)
 refine Z8s ?_;try clear HB HL;intro HB HL
 clear TN TM
 generalize W0.drew=W1 at *
 clear W0
 refine Z8l ?_
 refine Z5y ?_
 refine Tk.y 1 (v:=.slice x.WA x.nW x.cW) rfl ?_ ?_
 ·exact Z49
 refine Z5y ?_
 refine Z8w ?_
 refine Z5y ?_
 refine Z94 ?_
 refine Z5y ?_
 refine Tk.y 4 (v:=.slice y.WA y.nW y.cW) rfl ?_ ?_
 ·exact Z4a
 refine Z5y ?_
 refine Za1 ?_
 refine Z5y ?_
 refine Tk.y 6 (v:=.bool true) rfl ?_ ?_
 ·exact Z52
 refine Z5y ?_
 refine Z9w ?_
 refine Z5y ?_
 refine Z9f ?_
 refine Z5y ?_
 refine Tk.y 9 (v:=.slice x.BA x.nB x.cB) rfl ?_ ?_
 ·exact Z4k
 refine Z5y ?_
 refine Z9o ?_
 refine Z5y ?_
 refine Za5 ?_
 refine Z5y ?_
 refine Tk.y 12 (v:=.slice y.BA y.nB y.cB) rfl ?_ ?_
 ·exact Z4l
 refine Z5y ?_
 refine Za6 ?_
 refine Z5y ?_
 refine Tk.y 14 (v:=.bool true) rfl ?_ ?_
 ·exact Z5d
 refine Z5y ?_
 refine Tk.x 15 rfl ?_
 refine Z5y ?_
 refine Zak ?_
 refine Z5y ?_
 refine Tk.x 17 rfl ?_
 refine Z5y ?_
 refine Tk.y 18 (v:=.agg #[.int .i32 x.m1,Jj Jq x.s1,.int .i8 x.z1]) rfl ?_ ?_
 ·exact Z3y
 refine Z5y ?_
 refine Tk.x 19 rfl ?_
 refine Z5y ?_
 refine Tk.y 20 (v:=.agg #[.int .i32 y.m1,Jj Jq y.s1,.int .i8 y.z1]) rfl ?_ ?_
 ·exact Z3z
 refine Z5y ?_
 refine Tk.y 21 (v:=.bool true) rfl ?_ ?_
 ·intro wS hSw
  have g:=G2.out
  exact Z11
 refine Z5y ?_
 refine Tk.x 22 rfl ?_
 refine Z5y ?_
 refine Tk.x 23 rfl ?_
 refine Z5y ?_
 refine Tk.x 24 rfl ?_
 refine Z5y ?_
 refine Tk.y 25 (v:=.agg #[.int .i32 x.m2,Jj Jq x.s2,.int .i8 x.z2]) rfl ?_ ?_
 ·exact Z4f
 refine Z5y ?_
 refine Tk.x 26 rfl ?_
 refine Z5y ?_
 refine Tk.y 27 (v:=.agg #[.int .i32 y.m2,Jj Jq y.s2,.int .i8 y.z2]) rfl ?_ ?_
 ·exact Z4g
 refine Z5y ?_
 refine Tk.y 28 (v:=.bool true) rfl ?_ ?_
 ·intro wS hSw
  have g:=G3.out
  exact Z11
 refine Z5y ?_
 refine Tk.x 29 rfl ?_
 refine Z5y ?_
 refine Tk.x 30 rfl ?_
 refine Z5y ?_
 refine Tk.t 31 (v:=.agg x.val) rfl (zcp _ rfl Zbu _ x rfl (fun _ h=>h.1)) Zbd ?_
 refine Z5y ?_
 refine Tk.t 33 (v:=.agg y.val) rfl (zcp _ rfl Zbu _ y rfl (fun _ h=>h.2)) Zbd ?_
 refine Z5y ?_
 refine Tk.s 32 rfl (fun Kq hK=>?_)
 go_simp
 go_at_call 93
 with_reducible refine (numbers_to x HX.out _).mono ?_
 rintro e w1 ⟨rfl,hb⟩
 refine Z7t ?_;try clear HB HL;intro HB hS2 HL
 clear hb hHeld
 refine Z8a ?_;intro hHeld
 clear hK Kq hS2
 refine Z5y ?_
 refine Tk.s 34 rfl (fun Kq hK=>?_)
 go_simp
 go_at_call 93
 with_reducible refine (numbers_to y HY.out _).mono ?_
 rintro e w1 ⟨rfl,hb⟩
 refine Z7t ?_;try clear HB HL;intro HB hS2 HL
 clear hb hHeld
 refine Z8a ?_;intro hHeld
 clear hK Kq hS2
 refine Z5y ?_
 have hg9:=Tryz.eqGuardType127
 refine Tk.y 35 (v:=.bool true) rfl ?_ ?_
 ·intro wS hSw
  have g:=G4.out
  exact Z11
 refine Z5y ?_
 exact Z16
def Nd.alikeB (x y:Nd):Bool:=(x.nW == y.nW) && ((x.nB == y.nB) && ((x.m1 == y.m1 && (x.s1 == y.s1 && x.z1 == y.z1)) && ((x.m2 == y.m2 && (x.s2 == y.s2 && x.z2 == y.z2)) && nineB x y)))
theorem csame_to (x y:Nd) (hx:x.Small) (hy:y.Small) (b:Bool) (hb:x.alikeB y=b) (w:World) :
  Calls Tryz.prog 39 #[.agg x.val,.agg y.val] w fun e w'=>e=.returned (.bool b)∧Below w.heap.size w w':=by
 subst hb
 unfold Nd.alikeB
 cases h0:(x.nW == y.nW)
 ·exact csame_0 x y hx hy h0 w
 cases h1:(x.nB == y.nB)
 ·exact csame_1 x y hx hy h0 h1 w
 cases h2:(x.m1 == y.m1 && (x.s1 == y.s1 && x.z1 == y.z1))
 ·exact csame_2 x y hx hy h0 h1 h2 w
 cases h3:(x.m2 == y.m2 && (x.s2 == y.s2 && x.z2 == y.z2))
 ·exact csame_3 x y hx hy h0 h1 h2 h3 w
 cases h4:nineB x y
 ·exact csame_4 x y hx hy h0 h1 h2 h3 h4 w
 ·exact csame_5 x y hx hy h0 h1 h2 h3 h4 w
end CKind
end
end Go.Proofs.YtchpdhhpkljdhaaGreatDoor
