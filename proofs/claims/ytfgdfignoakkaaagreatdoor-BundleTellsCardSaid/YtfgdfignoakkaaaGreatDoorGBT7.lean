/- -/
import Derived.Test.YtfgdfignoakkaaaGreatDoorGBT6
open Go.Lib (hid)
open Nat (le_refl lt_of_succ_lt lt_succ_self)
set_option linter.unusedVariables false
set_option linter.unusedSimpArgs false
set_option maxRecDepth 100000
set_option maxHeartbeats 16000000
namespace Go.Proofs.YtfgdfignoakkaaaGreatDoor
namespace CConv
end CConv
namespace CFix
end CFix
namespace CSat
end CSat
namespace CShape
end CShape
namespace CTensor
end CTensor
open Go Go.ChangeShapes Go.WideShapes Go.ChangeAt Go.RowKit Go.Deep
section
namespace CKind
open Plain CSat CFix CShape CTensor CConv
def Nd.checkZ (x:Nd):Int :=
 if x.kd < 1∨9 < x.kd then 6 else if x.moreB=true then 2 else if ((zbj x.kd && !zax x.m1 x.s1) || (x.kd == 6 && !zax x.m2 x.s2))=true then 7 else if (zbj x.kd && decide (x.hi < x.lo))=true then 2 else 0
end CKind
end
section
namespace CKind
open Plain CSat CShape CTensor CConv
theorem ksame_yes (A B:Option Addr) (zs:List Int) (n c d:Nat) (hn:n=zs.length) (hl:n≤1000000) (w:World) {B1 B2:Nat} (ha:Kit.Rd w B1 A (zs.map (.int .i8))) (hb:Kit.Rd w B2 B (zs.map (.int .i8))) :
  Calls Tryz.prog 86 #[.slice A n c,.slice B n d] w fun e w'=>e=.returned (.bool true)∧∃ m,w'=w.drewN m:=by
 subst hn
 have HA:=hid ha
 have HB:=hid hb
 clear ha hb
 go_enter Tryz.func86,Tryz.ntmps86
 go_wp2_with fail
 go_loopw [5] (fun i wr=>∃ k nq:Nat,k≤zs.length∧i=.int .i64 k∧Hid (wr=w.drewN nq)) (fun i _=>zs.length - (intOf i).toNat)
 case atStart=>exact⟨0,0,Nat.zero_le _,rfl,hid rfl⟩
 case round =>
  obtain⟨k,nq,hk,rfl,hw⟩:=hrel
  obtain rfl:=hw.out
  clear hw
  by_cases hlt:k < zs.length
  ·obtain⟨b,off,rfl,_,hx⟩:=HA.out.ints hlt
   obtain⟨b2,off2,rfl,_,hy⟩:=HB.out.ints hlt
   generalize zs[k]=x at hx hy
   have h0:(0:Int)≤(k:Int):=by omega
   have h1:(k:Int) < (zs.length:Int):=by omega
   go_wp2_with fail
   go_quiet (fail)
   go_wp2
   go_roundw
   case rel=>exact⟨k+1,_,by omega,by go_num,hid rfl⟩
   case measure=>simp [intOf];omega
  ·go_wp2_with fail
   go_ret
   exact⟨rfl,nq,rfl⟩
theorem ksame32_yes (A B:Option Addr) (zs:List Int) (n c d:Nat) (hn:n=zs.length) (hl:n≤1000000) (w:World) {B1 B2:Nat} (ha:Kit.Rd w B1 A (zs.map (.int .i32))) (hb:Kit.Rd w B2 B (zs.map (.int .i32))) :
  Calls Tryz.prog 87 #[.slice A n c,.slice B n d] w fun e w'=>e=.returned (.bool true)∧∃ m,w'=w.drewN m:=by
 subst hn
 have HA:=hid ha
 have HB:=hid hb
 clear ha hb
 go_enter Tryz.func87,Tryz.ntmps87
 go_wp2_with fail
 go_loopw [5] (fun i wr=>∃ k nq:Nat,k≤zs.length∧i=.int .i64 k∧Hid (wr=w.drewN nq)) (fun i _=>zs.length - (intOf i).toNat)
 case atStart=>exact⟨0,0,Nat.zero_le _,rfl,hid rfl⟩
 case round =>
  obtain⟨k,nq,hk,rfl,hw⟩:=hrel
  obtain rfl:=hw.out
  clear hw
  by_cases hlt:k < zs.length
  ·obtain⟨b,off,rfl,_,hx⟩:=HA.out.ints hlt
   obtain⟨b2,off2,rfl,_,hy⟩:=HB.out.ints hlt
   generalize zs[k]=x at hx hy
   have h0:(0:Int)≤(k:Int):=by omega
   have h1:(k:Int) < (zs.length:Int):=by omega
   go_wp2_with fail
   go_quiet (fail)
   go_wp2
   go_roundw
   case rel=>exact⟨k+1,_,by omega,by go_num,hid rfl⟩
   case measure=>simp [intOf];omega
  ·go_wp2_with fail
   go_ret
   exact⟨rfl,nq,rfl⟩
theorem zbs (a b c x y z:Int) (w:World):(Op.equalIn 10000 52 (.agg #[.int .i32 a,.int .i64 b,.int .i8 c]) (.agg #[.int .i32 x,.int .i64 y,.int .i8 z])).run Tryz.prog w=.ok (a == x && (b == y && c == z)) w:=by
 have u1:=Tryz.underlying21
 have a1:=Tryz.isAgg21
 have z1:=Tryz.sizeOf21
 have u2:=Tryz.underlying50
 have a2:=Tryz.isAgg50
 have z2:=Tryz.sizeOf50
 have u3:=Tryz.underlying3
 have a3:=Tryz.isAgg3
 have z3:=Tryz.sizeOf3
 have hS:Tryz.prog.underlying 52=some (.struct (Tryz.prog.fieldsOf 52)):=by kernel_rfl
 rw [show (10000:Nat)=9999+1 from rfl,run_equalIn_agg w 9999 52 _ _ hS Tryz.stoodInHeld52]
 simp only [Program.fieldsOf,Tryz.underlying52]
 go_simp
 by_cases h1:a=x <;> by_cases h2:b=y <;> by_cases h3:c=z <;> simp [h1,h2,h3]
def NdBox (b:Nat) (x:Nd) (w:World):Prop:=NdAt b x w∧w.there b 0 19
theorem NdBox.new (x:Nd) (T:TypeId) (w:World):NdBox w.heap.size x (w.alloc (.cells x.val T)):=by
 refine⟨NdAt.new x T w,fun j hj=>?_⟩
 rw [Nat.zero_add]
 constructor
 ·rw [Kit.zab]
  have:j < x.val.size:=hj
  simp [this]
 ·unfold World.frozen?;rw [heap_alloc_new];rfl
theorem NdBox.below {b B:Nat} {x:Nd} {w w':World} (h:NdBox b x w) (hB:b < B) (hb:Below B w w'):NdBox b x w' :=
 ⟨h.1.below hB hb,fun j hj=>⟨by rw [hb.cell (p:=⟨b,0+j,none⟩) hB];exact (h.2 j hj).1,by rw [hb.frozen (p:=⟨b,0+j,none⟩) hB];exact (h.2 j hj).2⟩⟩
theorem NdBox.set {b:Nat} {x y:Nd} {w:World} (h:NdBox b x w) (i:Nat) (v:Value) (hi:i < 19) (hy:x.val.toList.set i v=y.val.toList):NdBox b y (w.setCell ⟨b,i,none⟩ v):=by
 have hc:=(h.2 i hi).1
 rw [Nat.zero_add] at hc
 refine⟨fun j u hj=>?_,fun j hj=>⟨?_,?_⟩⟩
 ·rw [Nat.zero_add]
  rw [← hy,List.getElem?_set] at hj
  by_cases e:i=j
  ·subst e
   rw [if_pos rfl,if_pos (show i < x.val.toList.length from hi)] at hj
   cases hj
   exact World.cell?_setCell_same' _ _ _ hc
  ·rw [if_neg e] at hj
   rw [World.cell?_setCell_other _ _ _ _ (fun hh=>e (by injection hh))]
   have:=h.1 j u hj
   rwa [Nat.zero_add] at this
 ·rw [Nat.zero_add]
  by_cases e:i=j
  ·subst e
   rw [World.cell?_setCell_same' _ _ _ hc];rfl
  ·rw [World.cell?_setCell_other _ _ _ _ (fun hh=>e (by injection hh))]
   have:=(h.2 j hj).1
   rwa [Nat.zero_add] at this
 ·rw [World.frozen?_setCell];exact (h.2 j hj).2
theorem NdBox.fr {b:Nat} {x:Nd} {w:World} (h:NdBox b x w) (i:Nat) (hi:i < 19):w.frozen? ⟨b,i,none⟩=false:=by
 have:=(h.2 i hi).2
 rwa [Nat.zero_add] at this
theorem NdBox.lt {b:Nat} {x:Nd} {w:World} (h:NdBox b x w):b < w.heap.size:=by
 have h0:=h.1.at 0 _ rfl
 unfold World.cell? at h0
 rcases Nat.lt_or_ge b w.heap.size with hlt | hge
 ·exact hlt
 ·rw [show w.heap[(⟨b,0,none⟩:Addr).block]?=none from Array.getElem?_eq_none hge] at h0
  cases h0
theorem info_node:(Tryz.prog.info? 54).map (·.size)=some 19:=by kernel_rfl
theorem nd_one (x:Nd):x.val.all (·.oneCell')=true:=by simp [Nd.val,Value.oneCell']
theorem zaq {ops:Array Oper} {rest:List Oper} {op:Oper} {a:Act} {w:World} {Q:Exit→Act→World→Prop} (hgd:op.guard=none) (x y:Operand) (ho:op.op=.store 54 x y)
  (b:Nat) (u v:Nd) (hx:a.eval x=.pointer (some ⟨b,0,none⟩)) (hy:a.eval y=.agg v.val) (hb:NdBox b u w)
  (h:∀ w',NdBox b v w'→Below b w w'→w'.heap.size=w.heap.size→wpList Tryz.prog ops Q rest (a.put op.dst undef) w'):wpList Tryz.prog ops Q (op :: rest) a w:=by
 refine wpList_store_mid hgd 54 x y ho b 0 v.val hx hy hb.2 info_node (nd_one v) ?_
 have go:∀ (vs:List Value) (o:Nat) (w:World),Below b w (w.setCells b o vs)∧(w.setCells b o vs).heap.size=w.heap.size:=by
  intro vs
  induction vs with
  | nil=>intro o w;exact⟨Below.refl _ _,rfl⟩
  | cons v vs ih=>intro o w;exact⟨((Below.refl b w).setCell (p:=⟨b,o,none⟩) (le_refl _) v).trans (ih (o+1) _).1,(ih (o+1) (w.setCell ⟨b,o,none⟩ v)).2.trans (by simp [World.setCell])⟩
 exact h _ ⟨World.rangeAt_setCells_same _ _ _ _ hb.2,World.there_setCells hb.2 _ _ _⟩ (go _ _ _).1 (go _ _ _).2
theorem zac {ops:Array Oper} {rest:List Oper} {op:Oper} {a:Act} {w:World} {Q:Exit→Act→World→Prop} (hgd:op.guard=none) (x:Operand) (ho:op.op=.load 54 x)
  (b:Nat) (u:Nd) (hx:a.eval x=.pointer (some ⟨b,0,none⟩)) (hb:NdAt b u w)
  (h:wpList Tryz.prog ops Q rest (a.put op.dst (.agg u.val)) w):wpList Tryz.prog ops Q (op :: rest) a w :=
 wpList_load_mid hgd 54 x ho b 0 hx u.val.toList _ hb Tryz.underlying54 rfl (by kernel_rfl) h
theorem za1 {fn:Func} {p:Tmp} (h:fn.results=#[.cell p 54]) (tmps:Array Value) (w:World) (b:Nat) (x:Nd) (hp:tmps.getD p undef=.pointer (some ⟨b,0,none⟩)) (hb:NdAt b x w) :
  (results fn tmps).run Tryz.prog w=.ok (.agg x.val) w :=
 Kit.zau h tmps w b 0 x.val.toList _ hp hb Tryz.underlying54 rfl (by kernel_rfl)
def Nd.zero:Nd:=⟨0,0,0,0,0,0,0,0,0,none,0,0,none,0,0,0,0,0,0,0,0,0,0⟩
def Nd.ownK (x:Nd) (k:Int):Nd :=
 ⟨k,x.na,if k == 6 then x.nb else 0,if slidesB k then x.K else 0,if slidesB k then x.S else 0,if slidesB k || k == 8 then x.P else 0,if k == 1 || k == 3 then x.O else 0,if zbj k || k == 8 then x.Z else 0,if k == 6 then x.Y else 0,
  if sumsB k then x.WA else none,if sumsB k then x.nW else 0,if sumsB k then x.cW else 0,if sumsB k then x.BA else none,if sumsB k then x.nB else 0,if sumsB k then x.cB else 0,
  if zbj k then x.m1 else 0,if zbj k then x.s1 else 0,if zbj k then x.z1 else 0,if k == 6 then x.m2 else 0,if k == 6 then x.s2 else 0,0,if zbj k then x.lo else 0,if zbj k then x.hi else 0⟩
end CKind
end
section
namespace CFix
open Go Go.ChangeShapes Go.WideShapes Go.ChangeAt Go.RowKit
open Plain CSat
theorem scale_int (a m s t:Int) (h1:0≤s) (h2:s≤62) (ha1 : -2147483648≤a) (ha2:a≤2147483647) (hm1 : -2147483648≤m) (hm2:m≤2147483647) (ht:zbf (a * m) s.toNat=t) (w:World) :
  Calls Tryz.prog 189 #[.int .i32 a,.int .i32 m,.int .i64 s] w fun e w'=>e=.returned (.int .i64 t)∧w=w':=by
 obtain⟨n,rfl⟩:=Int.eq_ofNat_of_zero_le h1
 exact ht ▸ scale_yes a m n (by omega) ha1 ha2 hm1 hm2 w
end CFix
end
section
namespace CJoin
open Plain CSat CFix CShape CTensor CConv
def NBd (Z Y m1 z1 m2 z2 lo hi:Int):Prop:=(-128≤Z∧Z≤127)∧(-128≤Y∧Y≤127)∧(-2147483648≤m1∧m1≤2147483647)∧(-128≤z1∧z1≤127)∧(-2147483648≤m2∧m2≤2147483647)∧(-128≤z2∧z2≤127)∧(-128≤lo∧lo≤127)∧(-128≤hi∧hi≤127)
def oneZ (x y Z Y m1 s1 z1 m2 s2 lo hi:Int):Int :=
 if (zax m1 s1 && zax m2 s2)=true then zb1 (zbf ((x - Z) * m1) s1.toNat+zbf ((y - Y) * m2) s2.toNat+z1) lo hi else 0
theorem rightB_yes {m s:Int} (h:zax m s=true):0 < m∧0≤s∧s≤62:=by simpa [zax] using h
theorem jclamp_to (v lo hi r:Int) (h:zb1 v lo hi=r) (hl1 : -128≤lo) (hl2:lo≤127) (hh1 : -128≤hi) (hh2:hi≤127) (w:World) :
  Calls Tryz.prog 181 #[.int .i64 v,.int .i8 lo,.int .i8 hi] w fun e w'=>e=.returned (.int .i8 r)∧w=w':=by
 subst h
 by_cases h1:v < lo
 ·go_enter Tryz.func181,Tryz.ntmps181
  go_wp2
  go_ret
  exact⟨zbq (by exact clampZ_lo (by omega)),rfl⟩
 ·by_cases h2:v > hi
  ·go_enter Tryz.func181,Tryz.ntmps181
   go_wp2
   go_ret
   exact⟨zbq (by exact clampZ_hi (by omega) (by omega)),rfl⟩
  ·go_enter Tryz.func181,Tryz.ntmps181
   go_wp2
   go_ret
   exact⟨zbq (by exact clampZ_in (by omega) (by omega)),rfl⟩
theorem term_abs {x Z m:Int} (hx1 : -128≤x) (hx2:x≤127) (hz1 : -128≤Z) (hz2:Z≤127) (hm1:0 < m) (hm2:m≤2147483647) : -547608329985≤(x - Z) * m∧(x - Z) * m≤547608329985:=by
 have h1:(x - Z) * m≤255 * 2147483647:=by
  by_cases h:0≤x - Z
  ·exact Int.mul_le_mul (by omega) (by omega) (by omega) (by omega)
  ·exact Int.le_trans (Int.mul_nonpos_of_nonpos_of_nonneg (by omega) (by omega)) (by omega)
 have h2:(Z - x) * m≤255 * 2147483647:=by
  by_cases h:0≤Z - x
  ·exact Int.mul_le_mul (by omega) (by omega) (by omega) (by omega)
  ·exact Int.le_trans (Int.mul_nonpos_of_nonpos_of_nonneg (by omega) (by omega)) (by omega)
 have h3:(Z - x) * m = -((x - Z) * m):=by rw [← Int.neg_mul];congr 1;omega
 omega
theorem round_term {x Z m s:Int} (hx1 : -128≤x) (hx2:x≤127) (hz1 : -128≤Z) (hz2:Z≤127) (hm2:m≤2147483647) (h:zax m s=true) : -547608329985≤zbf ((x - Z) * m) s.toNat∧zbf ((x - Z) * m) s.toNat≤547608329985:=by
 obtain⟨h1,h2,h3⟩:=rightB_yes h
 obtain⟨b1,b2⟩:=term_abs hx1 hx2 hz1 hz2 h1 hm2
 have:=round_abs ((x - Z) * m) s.toNat (by omega) (by omega) (by omega)
 omega
theorem scaled_to (x Z m s z t:Int) (hx1 : -128≤x) (hx2:x≤127) (hz1 : -128≤Z) (hz2:Z≤127) (hm2:m≤2147483647) (h:zax m s=true) (ht:zbf ((x - Z) * m) s.toNat=t) (w:World) :
  Calls Tryz.prog 182 #[.int .i8 x,.int .i8 Z,.agg #[.int .i32 m,.int .i64 s,.int .i8 z]] w fun e w'=>e=.returned (.int .i64 t)∧Below w.heap.size w w':=by
 obtain⟨h1,h2,h3⟩:=rightB_yes h
 obtain⟨y,hy⟩:∃ y,x - Z=y:=⟨_,rfl⟩
 have hw:IntKind.i32.wrap (x - Z)=y:=by rw [IntWalk.i32_in _ (by omega),hy]
 have e1:IntKind.i32.wrap x=x:=IntWalk.i32_in _ (by omega)
 have e2:IntKind.i32.wrap Z=Z:=IntWalk.i32_in _ (by omega)
 have y1 : -2147483648≤y:=by omega
 have y2:y≤2147483647:=by omega
 have m1 : -2147483648≤m:=by omega
 rw [hy] at ht
 have HT:=hid ht
 clear hy ht h
 go_enter Tryz.func182,Tryz.ntmps182
 go_wp2_with (go_at_call 189;refine (scale_int y m s t h2 h3 y1 y2 m1 hm2 HT.out _).mono ?_;rintro e w' ⟨rfl,rfl⟩)
 go_ret
 exact⟨rfl,(Below.refl _ _).alloc (le_refl _) _⟩
theorem zby (m s z:Int) (w:World):Calls Tryz.prog 162 #[.agg #[.int .i32 m,.int .i64 s,.int .i8 z]] w fun e w'=>e=.returned (.bool (zax m s))∧Below w.heap.size w w':=by
 cases h:zax m s
 ·exact isRight_no m s z h w
 ·exact isRight_yes m s z h w
theorem scales_to (x0 x1 x2:Value) (K S P O Z Y:Int) (WA BA:Option Addr) (nW cW nB cB:Nat) (m1 s1 z1 m2 s2 z2 lo hi:Int) (w:World) :
  Calls Tryz.prog 180 #[.agg #[x0,x1,x2,.int .i64 K,.int .i64 S,.int .i64 P,.int .i64 O,.int .i8 Z,.int .i8 Y,.slice WA nW cW,.slice BA nB cB,.int .i32 m1,.int .i64 s1,.int .i8 z1,.int .i32 m2,.int .i64 s2,.int .i8 z2,.int .i8 lo,.int .i8 hi]] w fun e w'=>e=.returned (.bool (zax m1 s1 && zax m2 s2))∧Below w.heap.size w w':=by
 cases h1:zax m1 s1 <;> cases h2:zax m2 s2
 ·have H1:=hid h1
  have H2:=hid h2
  clear h1 h2
  go_enter Tryz.func180,Tryz.ntmps180
  go_wp2_with (first
   | (go_at_call 162
      have hal:Below w.heap.size w (w.alloc (.cells #[x0,x1,x2,.int .i64 K,.int .i64 S,.int .i64 P,.int .i64 O,.int .i8 Z,.int .i8 Y,.slice WA nW cW,.slice BA nB cB,.int .i32 m1,.int .i64 s1,.int .i8 z1,.int .i32 m2,.int .i64 s2,.int .i8 z2,.int .i8 lo,.int .i8 hi] 54)):=(Below.refl _ _).alloc (by first | exact le_refl _ | (simp;done) | (simp;omega)) _
      refine (zby _ _ _ _).mono ?_
      rintro e w1 ⟨rfl,hb⟩
      have hh:Below w.heap.size w w1:=hal.trans (hb.mono hal.size)
      have qTN:=(zat.new x0 x1 x2 (.int .i8 Y) (.int .i32 m1) (.int .i64 s1) (.int .i8 z1) (.int .i32 m2) (.int .i64 s2) (.int .i8 z2) (.int .i8 lo) (.int .i8 hi) K S P O Z WA BA nW cW nB cB 54) w
      try simp only [World.size_alloc] at qTN
      have TN:=hid (qTN.below (by first | (simp;done) | (simp;omega)) hb)
      have yTN:w.heap.size < w1.heap.size:=by have:=hb.size;simp at this;omega
      clear qTN
      have HBW:Hid (Below w.heap.size w w1):=hid hh
      rw [H1.out]
      have n14:=TN.out.at 14 _ rfl
      have n15:=TN.out.at 15 _ rfl
      have n16:=TN.out.at 16 _ rfl
      clear hb hh hal))
  go_ret
  exact⟨rfl,HBW.out⟩
 ·have H1:=hid h1
  have H2:=hid h2
  clear h1 h2
  go_enter Tryz.func180,Tryz.ntmps180
  go_wp2_with (first
   | (go_at_call 162
      have hal:Below w.heap.size w (w.alloc (.cells #[x0,x1,x2,.int .i64 K,.int .i64 S,.int .i64 P,.int .i64 O,.int .i8 Z,.int .i8 Y,.slice WA nW cW,.slice BA nB cB,.int .i32 m1,.int .i64 s1,.int .i8 z1,.int .i32 m2,.int .i64 s2,.int .i8 z2,.int .i8 lo,.int .i8 hi] 54)):=(Below.refl _ _).alloc (by first | exact le_refl _ | (simp;done) | (simp;omega)) _
      refine (zby _ _ _ _).mono ?_
      rintro e w1 ⟨rfl,hb⟩
      have hh:Below w.heap.size w w1:=hal.trans (hb.mono hal.size)
      have qTN:=(zat.new x0 x1 x2 (.int .i8 Y) (.int .i32 m1) (.int .i64 s1) (.int .i8 z1) (.int .i32 m2) (.int .i64 s2) (.int .i8 z2) (.int .i8 lo) (.int .i8 hi) K S P O Z WA BA nW cW nB cB 54) w
      try simp only [World.size_alloc] at qTN
      have TN:=hid (qTN.below (by first | (simp;done) | (simp;omega)) hb)
      have yTN:w.heap.size < w1.heap.size:=by have:=hb.size;simp at this;omega
      clear qTN
      have HBW:Hid (Below w.heap.size w w1):=hid hh
      rw [H1.out]
      have n14:=TN.out.at 14 _ rfl
      have n15:=TN.out.at 15 _ rfl
      have n16:=TN.out.at 16 _ rfl
      clear hb hh hal))
  go_ret
  exact⟨rfl,HBW.out⟩
 ·have H1:=hid h1
  have H2:=hid h2
  clear h1 h2
  go_enter Tryz.func180,Tryz.ntmps180
  go_wp2_with (first
   | (go_at_call 162
      have hal:Below w.heap.size w (w.alloc (.cells #[x0,x1,x2,.int .i64 K,.int .i64 S,.int .i64 P,.int .i64 O,.int .i8 Z,.int .i8 Y,.slice WA nW cW,.slice BA nB cB,.int .i32 m1,.int .i64 s1,.int .i8 z1,.int .i32 m2,.int .i64 s2,.int .i8 z2,.int .i8 lo,.int .i8 hi] 54)):=(Below.refl _ _).alloc (by first | exact le_refl _ | (simp;done) | (simp;omega)) _
      refine (zby _ _ _ _).mono ?_
      rintro e w1 ⟨rfl,hb⟩
      have hh:Below w.heap.size w w1:=hal.trans (hb.mono hal.size)
      have qTN:=(zat.new x0 x1 x2 (.int .i8 Y) (.int .i32 m1) (.int .i64 s1) (.int .i8 z1) (.int .i32 m2) (.int .i64 s2) (.int .i8 z2) (.int .i8 lo) (.int .i8 hi) K S P O Z WA BA nW cW nB cB 54) w
      try simp only [World.size_alloc] at qTN
      have TN:=hid (qTN.below (by first | (simp;done) | (simp;omega)) hb)
      have yTN:w.heap.size < w1.heap.size:=by have:=hb.size;simp at this;omega
      clear qTN
      have HBW:Hid (Below w.heap.size w w1):=hid hh
      rw [H1.out]
      have n14:=TN.out.at 14 _ rfl
      have n15:=TN.out.at 15 _ rfl
      have n16:=TN.out.at 16 _ rfl
      clear hb hh hal)
   | (go_at_call 162
      have hal:Below w1.heap.size w1 w1:=Below.refl _ _
      refine (zby _ _ _ _).mono ?_
      rintro e w2 ⟨rfl,hb⟩
      have hh:Below w1.heap.size w1 w2:=hal.trans (hb.mono hal.size)
      replace TN:=hid (TN.out.below yTN hh)
      replace yTN:=Nat.lt_of_lt_of_le yTN hh.size
      replace HBW:=hid (HBW.out.trans (hh.mono HBW.out.size))
      clear n14 n15 n16
      rw [H2.out]
      have n14:=TN.out.at 14 _ rfl
      have n15:=TN.out.at 15 _ rfl
      have n16:=TN.out.at 16 _ rfl
      clear hb hh hal))
  go_ret
  exact⟨rfl,HBW.out⟩
 ·have H1:=hid h1
  have H2:=hid h2
  clear h1 h2
  go_enter Tryz.func180,Tryz.ntmps180
  go_wp2_with (first
   | (go_at_call 162
      have hal:Below w.heap.size w (w.alloc (.cells #[x0,x1,x2,.int .i64 K,.int .i64 S,.int .i64 P,.int .i64 O,.int .i8 Z,.int .i8 Y,.slice WA nW cW,.slice BA nB cB,.int .i32 m1,.int .i64 s1,.int .i8 z1,.int .i32 m2,.int .i64 s2,.int .i8 z2,.int .i8 lo,.int .i8 hi] 54)):=(Below.refl _ _).alloc (by first | exact le_refl _ | (simp;done) | (simp;omega)) _
      refine (zby _ _ _ _).mono ?_
      rintro e w1 ⟨rfl,hb⟩
      have hh:Below w.heap.size w w1:=hal.trans (hb.mono hal.size)
      have qTN:=(zat.new x0 x1 x2 (.int .i8 Y) (.int .i32 m1) (.int .i64 s1) (.int .i8 z1) (.int .i32 m2) (.int .i64 s2) (.int .i8 z2) (.int .i8 lo) (.int .i8 hi) K S P O Z WA BA nW cW nB cB 54) w
      try simp only [World.size_alloc] at qTN
      have TN:=hid (qTN.below (by first | (simp;done) | (simp;omega)) hb)
      have yTN:w.heap.size < w1.heap.size:=by have:=hb.size;simp at this;omega
      clear qTN
      have HBW:Hid (Below w.heap.size w w1):=hid hh
      rw [H1.out]
      have n14:=TN.out.at 14 _ rfl
      have n15:=TN.out.at 15 _ rfl
      have n16:=TN.out.at 16 _ rfl
      clear hb hh hal)
   | (go_at_call 162
      have hal:Below w1.heap.size w1 w1:=Below.refl _ _
      refine (zby _ _ _ _).mono ?_
      rintro e w2 ⟨rfl,hb⟩
      have hh:Below w1.heap.size w1 w2:=hal.trans (hb.mono hal.size)
      replace TN:=hid (TN.out.below yTN hh)
      replace yTN:=Nat.lt_of_lt_of_le yTN hh.size
      replace HBW:=hid (HBW.out.trans (hh.mono HBW.out.size))
      clear n14 n15 n16
      rw [H2.out]
      have n14:=TN.out.at 14 _ rfl
      have n15:=TN.out.at 15 _ rfl
      have n16:=TN.out.at 16 _ rfl
      clear hb hh hal))
  go_ret
  exact⟨rfl,HBW.out⟩
end CJoin
end
end Go.Proofs.YtfgdfignoakkaaaGreatDoor
