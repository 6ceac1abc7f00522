/- -/
import Derived.Test.YtfgdfignoakkaaaGreatDoorGBT21
open Go.Lib (hid)
open Nat (le_refl lt_of_succ_lt lt_succ_self)
set_option linter.unusedVariables false
set_option linter.unusedSimpArgs false
set_option maxRecDepth 100000
set_option maxHeartbeats 16000000
namespace Go.Proofs.YtfgdfignoakkaaaGreatDoor
namespace CConv
end CConv
namespace CSat
end CSat
namespace CShape
end CShape
namespace CTensor
end CTensor
open Go Go.ChangeShapes Go.WideShapes Go.ChangeAt Go.RowKit Go.Deep
section
namespace CKind
open Plain CSat CShape CTensor CConv
theorem Kit.own_setK {w:World} {base:Nat} {e:TypeId} {size n:Nat} {v:Value} {xs:List Value} (h:w.ownsRow base e size v n xs) (a:Addr) (u:Value) (ha:a.block < base):(w.setCell a u).ownsRow base e size v n xs:=by
 refine h.kept (row:=some a.block) ⟨rfl,rfl,rfl,by simp,fun k _ hk=>Below.heap_setCell _ _ _ k (fun e=>hk (by rw [e]))⟩ ?_
 cases hv:v.ownBlock with
 | none=>exact .inl rfl
 | some q=>exact .inr (fun e=>by have:=Kit.zam h q hv;cases e;omega)
theorem own_setCellsK {base g:Nat} {e:TypeId} {size n:Nat} {v:Value} {xs:List Value} (hg:g < base):∀ (vs:List Value) (o:Nat) (w:World),w.ownsRow base e size v n xs→(w.setCells g o vs).ownsRow base e size v n xs
 | [],_,_,h=>h
 | u :: vs,o,w,h=>own_setCellsK hg vs (o+1) _ (Kit.own_setK h _ _ hg)
theorem nd_store_own {ops:Array Oper} {rest:List Oper} {op:Oper} {a:Act} {w:World} {Q:Exit→Act→World→Prop} (hgd:op.guard=none) (x y:Operand) (ho:op.op=.store 54 x y)
  (b:Nat) (u v:Nd) (hx:a.eval x=.pointer (some ⟨b,0,none⟩)) (hy:a.eval y=.agg v.val) (hb:NdBox b u w)
  (h:∀ w',NdBox b v w'→Below b w w'→w'.heap.size=w.heap.size→(∀ (base:Nat) (e:TypeId) (size n:Nat) (z:Value) (xs:List Value),b < base→w.ownsRow base e size z n xs→w'.ownsRow base e size z n xs)→wpList Tryz.prog ops Q rest (a.put op.dst undef) w'):wpList Tryz.prog ops Q (op :: rest) a w:=by
 refine wpList_store_mid hgd 54 x y ho b 0 v.val hx hy hb.2 info_node (nd_one v) ?_
 have go:∀ (vs:List Value) (o:Nat) (w:World),Below b w (w.setCells b o vs)∧(w.setCells b o vs).heap.size=w.heap.size:=by
  intro vs
  induction vs with
  | nil=>intro o w;exact⟨Below.refl _ _,rfl⟩
  | cons v vs ih=>intro o w;exact⟨((Below.refl b w).setCell (p:=⟨b,o,none⟩) (le_refl _) v).trans (ih (o+1) _).1,(ih (o+1) (w.setCell ⟨b,o,none⟩ v)).2.trans (by simp [World.setCell])⟩
 exact h _ ⟨World.rangeAt_setCells_same _ _ _ _ hb.2,World.there_setCells hb.2 _ _ _⟩ (go _ _ _).1 (go _ _ _).2 (fun base e size n z xs hlt ho=>own_setCellsK hlt _ _ _ ho)
theorem plain_no (x:Nd) (hkb:zbr x.kd=false) (w:World) (hT:zad w) :
  Calls Tryz.prog 223 #[.agg x.val] w fun e w'=>e=.returned (.agg Nd.zero.val)∧Below w.heap.size w w':=by
 have TN:=hid (NdAt.new x 54 w)
 have HT:=hid hT
 clear hT
 have hkn:=fun (w:World) (h:zad w)=>known_to x.kd w h
 rw [hkb] at hkn
 have HKN:=hid hkn
 clear hkn hkb
 go_enter Tryz.func223,Tryz.ntmps223
 go_upto_region 1 with fail
 have HR:Hid (NdBox (w.heap.size+1) Nd.zero ((w.alloc (.cells x.val 54)).alloc (.cells Nd.zero.val 54))):=hid (by have:=NdBox.new Nd.zero 54 (w.alloc (.cells x.val 54));rwa [World.size_alloc] at this)
 replace TN:=hid (TN.out.below (B:=w.heap.size+1) (lt_succ_self _) ((Below.refl _ _).alloc (by simp) (.cells Nd.zero.val 54)))
 have HB:=hid (((Below.refl w.heap.size w).alloc (le_refl _) (.cells x.val 54)).alloc (by simp) (.cells Nd.zero.val 54))
 have HS:Hid (((w.alloc (.cells x.val 54)).alloc (.cells Nd.zero.val 54)).heap.size=w.heap.size+2):=hid (by simp)
 generalize h:(w.alloc (.cells x.val 54)).alloc (.cells Nd.zero.val 54)=W0 at TN HR HB HS
 rw [show (w.alloc (Obj.cells x.val 54)).alloc (Obj.cells #[.int .i64 0,.int .i64 0,.int .i64 0,.int .i64 0,.int .i64 0,.int .i64 0,.int .i64 0,.int .i8 0,.int .i8 0,.slice none 0 0,.slice none 0 0,.int .i32 0,.int .i64 0,.int .i8 0,.int .i32 0,.int .i64 0,.int .i8 0,.int .i8 0,.int .i8 0] 54)=W0 from h]
 clear h
 have q0:=TN.out.at 0 (.int .i64 x.kd) rfl
 go_wp2_with (first
  | (go_at_call 158;(with_reducible refine (HKN.out _ (HT.out.grown HB.out)).mono ?_);rintro e w1 ⟨rfl,rfl⟩)
  | (refine zaq rfl (.tmp 2) (.tmp 8) rfl (w.heap.size+1) Nd.zero Nd.zero rfl rfl HR.out ?_;rintro W2 hp hb1 hs1))
 refine bodyPost_ret (za1 rfl _ _ (w.heap.size+1) Nd.zero rfl hp.1) rfl ?_
 exact⟨rfl,HB.out.trans (hb1.mono (Nat.le_succ _))⟩
def Nd.plainV (x:Nd) (A:Option Addr) (c:Nat) (A2:Option Addr) (c2:Nat):Nd := { x.ownK x.kd with WA:=A,cW:=c,BA:=A2,cB:=c2 }
theorem plain_yes (x:Nd) (hkb:zbr x.kd=true) (zs us:List Int) (hz:zs.length=(x.ownK x.kd).nW) (hzl:(x.ownK x.kd).nW≤1000000) (hu:us.length=(x.ownK x.kd).nB) (hul:(x.ownK x.kd).nB≤1000000) (w:World) {B1 B2:Nat}
  (hr:Kit.Rd w B1 (x.ownK x.kd).WA (zs.map (.int .i8))) (hB1:B1≤w.heap.size) (hr2:Kit.Rd w B2 (x.ownK x.kd).BA (us.map (.int .i32))) (hB2:B2≤w.heap.size) (hT:zad w) :
  Calls Tryz.prog 223 #[.agg x.val] w fun e w'=>∃ A c A2 c2,e=.returned (.agg (x.plainV A c A2 c2).val)∧Below w.heap.size w w'∧Kit.Rd w' w'.heap.size A (zs.map (.int .i8))∧Kit.Rd w' w'.heap.size A2 (us.map (.int .i32)):=by
 have HRW:=hid (hr.more hB1)
 have HRU:=hid (hr2.more hB2)
 have HZ:=hid hz
 have HZL:=hid hzl
 have HU:=hid hu
 have HUL:=hid hul
 have HOW:=hid (fun w=>own_to x (by simpa [zbr] using hkb) w)
 have HPV:Hid (∀ A c A2 c2,x.plainV A c A2 c2 = { x.ownK x.kd with WA:=A,cW:=c,BA:=A2,cB:=c2 }):=hid (fun _ _ _ _=>rfl)
 clear hr hB1 hr2 hB2 hz hzl hu hul
 generalize x.ownK x.kd=y at *
 have TN:=hid (NdAt.new x 54 w)
 have HT:=hid hT
 clear hT
 have hkn:=fun (w:World) (h:zad w)=>known_to x.kd w h
 rw [hkb] at hkn
 have HKN:=hid hkn
 clear hkn hkb
 go_enter Tryz.func223,Tryz.ntmps223
 go_upto_region 1 with fail
 have HR:Hid (NdBox (w.heap.size+1) Nd.zero ((w.alloc (.cells x.val 54)).alloc (.cells Nd.zero.val 54))):=hid (by have:=NdBox.new Nd.zero 54 (w.alloc (.cells x.val 54));rwa [World.size_alloc] at this)
 replace TN:=hid (TN.out.below (B:=w.heap.size+1) (lt_succ_self _) ((Below.refl _ _).alloc (by simp) (.cells Nd.zero.val 54)))
 have HB:=hid (((Below.refl w.heap.size w).alloc (le_refl _) (.cells x.val 54)).alloc (by simp) (.cells Nd.zero.val 54))
 have HS:Hid (((w.alloc (.cells x.val 54)).alloc (.cells Nd.zero.val 54)).heap.size=w.heap.size+2):=hid (by simp)
 generalize h:(w.alloc (.cells x.val 54)).alloc (.cells Nd.zero.val 54)=W0 at TN HR HB HS
 rw [show (w.alloc (Obj.cells x.val 54)).alloc (Obj.cells #[.int .i64 0,.int .i64 0,.int .i64 0,.int .i64 0,.int .i64 0,.int .i64 0,.int .i64 0,.int .i8 0,.int .i8 0,.slice none 0 0,.slice none 0 0,.int .i32 0,.int .i64 0,.int .i8 0,.int .i32 0,.int .i64 0,.int .i8 0,.int .i8 0,.int .i8 0] 54)=W0 from h]
 clear h
 have q0:=TN.out.at 0 (.int .i64 x.kd) rfl
 go_upto_region 4 with (first
  | (go_at_call 158;(with_reducible refine (HKN.out _ (HT.out.grown HB.out)).mono ?_);rintro e w1 ⟨rfl,rfl⟩)
  | (refine zac rfl _ rfl w.heap.size x rfl TN.out ?_)
  | (go_at_call 160;(with_reducible refine (HOW.out _).mono ?_);rintro e w1 ⟨rfl,hb⟩;(replace HR:=hid (HR.out.below (by rw [HS.out];omega) hb));(replace HB:=hid (HB.out.trans (hb.mono HB.out.size)));(have HL:Hid (w.heap.size+1 < w1.heap.size):=hid (by have:=hb.size;rw [HS.out] at this;omega));clear hb)
  | (refine zaq rfl (.tmp 3) (.tmp 10) rfl _ Nd.zero y rfl rfl (NdBox.new Nd.zero _ _) ?_;rintro W2 hp hb1 hs1))
 replace HR:=hid (HR.out.below HL.out (((Below.refl _ _).alloc (le_refl _) _).trans hb1))
 replace HB:=hid (HB.out.trans ((((Below.refl _ _).alloc (le_refl _) _).trans hb1).mono (Nat.le_of_lt (lt_of_succ_lt HL.out))))
 have HP:=hid hp
 clear hp hb1 hs1 HS q0 TN HT HKN HOW
 generalize w1.heap.size=b at *
 clear w1 W0
 replace HRW:=hid (HRW.out.below HB.out)
 replace HRU:=hid (HRU.out.below HB.out)
 have HBW:=hid HB.out.size
 have HBU:=hid HB.out.size
 refine wp_region_any (by kernel_rfl) ?_
 rw [show ({ W2 with drawn:=W2.drawn+1 } : World)=W2.drew from rfl]
 replace HR:Hid (NdBox (w.heap.size+1) Nd.zero W2.drew):=hid (HR.out.below HL.out (Below.refl b W2).drew)
 replace HP:Hid (NdBox b y W2.drew):=hid (HP.out.below (lt_succ_self b) (Below.refl (b+1) W2).drew)
 replace HB:Hid (Below w.heap.size w W2.drew):=hid (HB.out.trans (Below.refl _ W2).drew)
 replace HRW:Hid (Kit.Rd W2.drew w.heap.size y.WA (zs.map (.int .i8))):=hid HRW.out.drew
 replace HRU:Hid (Kit.Rd W2.drew w.heap.size y.BA (us.map (.int .i32))):=hid HRU.out.drew
 replace HBW:Hid (w.heap.size≤W2.drew.heap.size):=hid HBW.out
 replace HBU:Hid (w.heap.size≤W2.drew.heap.size):=hid HBU.out
 generalize W2.drew=V0 at *
 clear W2
 have q9:=HP.out.1.at 9 (.slice y.WA y.nW y.cW) rfl
 have q10:=HP.out.1.at 10 (.slice y.BA y.nB y.cB) rfl
 refine Tk.z 0 rfl ?_
 try simp only [Tk.put]
 refine Tk.z 3 rfl ?_
 try simp only [Tk.put]
 refine wpAny_ready (rs:=[1,4]) (by kernel_rfl) (by simp) ?_
 refine Tk.d rfl (fun Kq hK=>?_) (Tk.d rfl (fun Kq hK=>?_) (fun j hj=>by cases hj))
 go_simp
 refine hK _ _ ?_
 clear hK Kq
 try simp only [Tk.put]
 refine wpAny_ready (rs:=[2,4]) (by kernel_rfl) (by simp) ?_
 refine Tk.d rfl (fun Kq hK=>?_) (Tk.d rfl (fun Kq hK=>?_) (fun j hj=>by cases hj))
 clear q9 q10
 go_simp
 go_at_call 60
 refine (sclone _ zs _ _ HZ.out HZL.out _ HBW.out (HRW.out)).mono ?_
 rintro e V1 ⟨v1,rfl,ho,hb⟩
 have HO1:=hid (Kit.zb3 ho (show b+1≤_ from HP.out.lt))
 replace HR:=hid (HR.out.below (lt_of_succ_lt (Nat.lt_of_lt_of_le (Nat.succ_lt_succ HL.out) HP.out.lt)) hb)
 replace HB:=hid (HB.out.trans (hb.mono HB.out.size))
 replace HRU:=hid (HRU.out.below (hb.mono HBU.out))
 replace HBU:=hid (Nat.le_trans HBU.out hb.size)
 replace HP:=hid (HP.out.below HP.out.lt hb)
 clear ho hb HRW HBW
 have q9:=HP.out.1.at 9 (.slice y.WA y.nW y.cW) rfl
 have q10:=HP.out.1.at 10 (.slice y.BA y.nB y.cB) rfl
 dsimp only
 refine hK _ _ ?_
 clear hK Kq
 try simp only [Tk.put]
 refine Tk.q 4 rfl (fun Kq hK=>?_)
 go_simp
 refine hK _ _ ?_
 clear hK Kq
 try simp only [Tk.put]
 rotate_left
 go_simp
 refine hK _ _ ?_
 clear hK Kq
 try simp only [Tk.put]
 refine Tk.q 2 rfl (fun Kq hK=>?_)
 clear q9 q10
 go_simp
 go_at_call 60
 refine (sclone _ zs _ _ HZ.out HZL.out _ HBW.out (HRW.out)).mono ?_
 rintro e V1 ⟨v1,rfl,ho,hb⟩
 have HO1:=hid (Kit.zb3 ho (show b+1≤_ from HP.out.lt))
 replace HR:=hid (HR.out.below (lt_of_succ_lt (Nat.lt_of_lt_of_le (Nat.succ_lt_succ HL.out) HP.out.lt)) hb)
 replace HB:=hid (HB.out.trans (hb.mono HB.out.size))
 replace HRU:=hid (HRU.out.below (hb.mono HBU.out))
 replace HBU:=hid (Nat.le_trans HBU.out hb.size)
 replace HP:=hid (HP.out.below HP.out.lt hb)
 clear ho hb HRW HBW
 have q9:=HP.out.1.at 9 (.slice y.WA y.nW y.cW) rfl
 have q10:=HP.out.1.at 10 (.slice y.BA y.nB y.cB) rfl
 dsimp only
 refine hK _ _ ?_
 clear hK Kq
 try simp only [Tk.put]
 rotate_left
 go_simp
 refine hK _ _ ?_
 clear hK Kq
 try simp only [Tk.put]
 refine Tk.q 1 rfl (fun Kq hK=>?_)
 go_simp
 refine hK _ _ ?_
 clear hK Kq
 try simp only [Tk.put]
 refine Tk.q 2 rfl (fun Kq hK=>?_)
 clear q9 q10
 go_simp
 go_at_call 60
 refine (sclone _ zs _ _ HZ.out HZL.out _ HBW.out (HRW.out)).mono ?_
 rintro e V1 ⟨v1,rfl,ho,hb⟩
 have HO1:=hid (Kit.zb3 ho (show b+1≤_ from HP.out.lt))
 replace HR:=hid (HR.out.below (lt_of_succ_lt (Nat.lt_of_lt_of_le (Nat.succ_lt_succ HL.out) HP.out.lt)) hb)
 replace HB:=hid (HB.out.trans (hb.mono HB.out.size))
 replace HRU:=hid (HRU.out.below (hb.mono HBU.out))
 replace HBU:=hid (Nat.le_trans HBU.out hb.size)
 replace HP:=hid (HP.out.below HP.out.lt hb)
 clear ho hb HRW HBW
 have q9:=HP.out.1.at 9 (.slice y.WA y.nW y.cW) rfl
 have q10:=HP.out.1.at 10 (.slice y.BA y.nB y.cB) rfl
 dsimp only
 refine hK _ _ ?_
 clear hK Kq
 try simp only [Tk.put]
 all_goals
  refine Tk.z 6 rfl ?_
  try simp only [Tk.put]
  refine Tk.q 5 rfl (fun Kq hK=>?_)
  go_simp
  go_at_call 61
  refine (kclone32 _ us _ _ HU.out HUL.out _ HBU.out (HRU.out)).mono ?_
  rintro e V2 ⟨v2,rfl,ho,hb⟩
  have HO2:=hid (Kit.zb3 ho (show b+1≤_ from HP.out.lt))
  replace HO1:=hid (Kit.own_below HO1.out hb)
  replace HR:=hid (HR.out.below (lt_of_succ_lt (Nat.lt_of_lt_of_le (Nat.succ_lt_succ HL.out) HP.out.lt)) hb)
  replace HB:=hid (HB.out.trans (hb.mono HB.out.size))
  replace HP:=hid (HP.out.below HP.out.lt hb)
  clear ho hb HRU HBU q9 q10
  obtain⟨A5,k5,rfl, -, -, -⟩:=Kit.za2 HO1.out
  obtain⟨A6,k6,rfl, -, -, -⟩:=Kit.za2 HO2.out
  have q9:=HP.out.1.at 9 (.slice y.WA y.nW y.cW) rfl
  have f9:=HP.out.fr 9 (by decide)
  dsimp only
  refine hK _ _ ?_
  clear hK Kq
  try simp only [Tk.put]
  refine Tk.q 7 rfl (fun Kq hK=>?_)
  go_simp
  refine hK _ _ ?_
  clear hK Kq q9 f9
  try simp only [Tk.put]
  replace HP:Hid (NdBox b { y with WA:=A5,cW:=k5 } _):=hid (HP.out.set 9 (.slice A5 y.nW k5) (by decide) rfl)
  replace HR:=hid (HR.out.below HL.out ((Below.refl b V2).setCell (p:=⟨b,9,none⟩) (le_refl _) (.slice A5 y.nW k5)))
  replace HB:=hid (HB.out.setCell (p:=⟨b,9,none⟩) (Nat.le_of_lt (lt_of_succ_lt HL.out)) (.slice A5 y.nW k5))
  replace HO1:=hid (Kit.own_setK HO1.out ⟨b,9,none⟩ (.slice A5 y.nW k5) (lt_succ_self b))
  replace HO2:=hid (Kit.own_setK HO2.out ⟨b,9,none⟩ (.slice A5 y.nW k5) (lt_succ_self b))
  generalize V2.setCell ⟨b,9,none⟩ (.slice A5 y.nW k5)=V3 at *
  have q10:=HP.out.1.at 10 (.slice y.BA y.nB y.cB) rfl
  have f10:=HP.out.fr 10 (by decide)
  refine Tk.z 8 rfl ?_
  try simp only [Tk.put]
  refine Tk.q 9 rfl (fun Kq hK=>?_)
  go_simp
  refine hK _ _ ?_
  clear hK Kq q10 f10
  try simp only [Tk.put]
  replace HP:Hid (NdBox b { y with WA:=A5,cW:=k5,BA:=A6,cB:=k6 } _):=hid (HP.out.set 10 (.slice A6 y.nB k6) (by decide) rfl)
  replace HR:=hid (HR.out.below HL.out ((Below.refl b V3).setCell (p:=⟨b,10,none⟩) (le_refl _) (.slice A6 y.nB k6)))
  replace HB:=hid (HB.out.setCell (p:=⟨b,10,none⟩) (Nat.le_of_lt (lt_of_succ_lt HL.out)) (.slice A6 y.nB k6))
  replace HO1:=hid (Kit.own_setK HO1.out ⟨b,10,none⟩ (.slice A6 y.nB k6) (lt_succ_self b))
  replace HO2:=hid (Kit.own_setK HO2.out ⟨b,10,none⟩ (.slice A6 y.nB k6) (lt_succ_self b))
  generalize V3.setCell ⟨b,10,none⟩ (.slice A6 y.nB k6)=V4 at *
  refine wpAny_done (by kernel_rfl) ?_ _
  go_wp2_with (first
   | (refine zac rfl (.tmp 3) rfl b { y with WA:=A5,cW:=k5,BA:=A6,cB:=k6 } rfl HP.out.1 ?_)
   | (refine nd_store_own rfl (.tmp 2) (.tmp 19) rfl (w.heap.size+1) Nd.zero { y with WA:=A5,cW:=k5,BA:=A6,cB:=k6 } rfl rfl HR.out ?_;rintro W5 hp hb1 hs1 hown))
  refine bodyPost_ret (za1 rfl _ _ (w.heap.size+1) { y with WA:=A5,cW:=k5,BA:=A6,cB:=k6 } rfl hp.1) rfl ?_
  have o1:=hown _ _ _ _ _ _ (Nat.lt_succ_of_lt HL.out) HO1.out
  have o2:=hown _ _ _ _ _ _ (Nat.lt_succ_of_lt HL.out) HO2.out
  obtain⟨A7,k7,e7, -, -,r7⟩:=Kit.za2 o1
  obtain⟨A8,k8,e8, -, -,r8⟩:=Kit.za2 o2
  cases e7
  cases e8
  exact⟨A5,k5,A6,k6,by rw [HPV.out],HB.out.trans (hb1.mono (Nat.le_succ _)),r7,r8⟩
end CKind
end
end Go.Proofs.YtfgdfignoakkaaaGreatDoor
