/- -/
import Derived.Test.YtchpdhhpkljdhaaGreatDoorGD8
open Go.Value renaming int→Jj
open Go.IntKind renaming i64→Jq
open Go.Lib (hid)
open Nat (le_refl lt_of_succ_lt lt_succ_self)
set_option linter.unusedVariables false
set_option linter.unusedSimpArgs false
set_option maxRecDepth 100000
set_option maxHeartbeats 16000000
namespace Go.Proofs.YtchpdhhpkljdhaaGreatDoor
namespace CConv
end CConv
namespace CKind
end CKind
namespace CSat
end CSat
open Go Go.ChangeShapes Go.WideShapes Go.ChangeAt Go.RowKit Go.Deep
section
namespace CKind
open Plain CSat CShape CTensor CConv
def NdBox (b:Nat) (x:Nd) (w:World):Prop:=NdAt b x w∧w.there b 0 19
theorem NdBox.new (x:Nd) (T:TypeId) (w:World):NdBox w.heap.size x (w.alloc (.cells x.val T)):=by
 refine⟨NdAt.new x T w,fun j hj=>?_⟩
 rw [Nat.zero_add]
 constructor
 ·rw [Kit.zan]
  have:j < x.val.size:=hj
  simp [this]
 ·unfold World.frozen?;rw [heap_alloc_new];rfl
theorem NdBox.below {b B:Nat} {x:Nd} {w w':World} (h:NdBox b x w) (hB:b < B) (hb:Below B w w'):NdBox b x w' :=
 ⟨h.1.below hB hb,fun j hj=>⟨by rw [hb.cell (p:=⟨b,0+j,none⟩) hB];exact (h.2 j hj).1,by rw [hb.frozen (p:=⟨b,0+j,none⟩) hB];exact (h.2 j hj).2⟩⟩
theorem NdBox.set {b:Nat} {x y:Nd} {w:World} (h:NdBox b x w) (i:Nat) (v:Value) (hi:i < 19) (hy:x.val.toList.set i v=y.val.toList):NdBox b y (w.setCell ⟨b,i,none⟩ v):=by
 have hc:=(h.2 i hi).1
 rw [Nat.zero_add] at hc
 refine⟨fun j u hj=>?_,fun j hj=>⟨?_,?_⟩⟩
 ·rw [Nat.zero_add]
  rw [← hy,List.getElem?_set] at hj
  by_cases e:i=j
  ·subst e
   rw [if_pos rfl,if_pos (show i < x.val.toList.length from hi)] at hj
   cases hj
   exact World.cell?_setCell_same' _ _ _ hc
  ·rw [if_neg e] at hj
   rw [World.cell?_setCell_other _ _ _ _ (fun hh=>e (by injection hh))]
   have:=h.1 j u hj
   rwa [Nat.zero_add] at this
 ·rw [Nat.zero_add]
  by_cases e:i=j
  ·subst e
   rw [World.cell?_setCell_same' _ _ _ hc];rfl
  ·rw [World.cell?_setCell_other _ _ _ _ (fun hh=>e (by injection hh))]
   have:=(h.2 j hj).1
   rwa [Nat.zero_add] at this
 ·rw [World.frozen?_setCell];exact (h.2 j hj).2
theorem NdBox.fr {b:Nat} {x:Nd} {w:World} (h:NdBox b x w) (i:Nat) (hi:i < 19):w.frozen? ⟨b,i,none⟩=false:=by
 have:=(h.2 i hi).2
 rwa [Nat.zero_add] at this
theorem info_node:(Tryz.prog.info? 28).map (·.size)=some 19:=by kernel_rfl
theorem nd_one (x:Nd):x.val.all (·.oneCell')=true:=by simp [Nd.val,Value.oneCell']
theorem zbq {ops:Array Oper} {rest:List Oper} {op:Oper} {a:Act} {w:World} {Q:Exit→Act→World→Prop} (hgd:op.guard=none) (x y:Operand) (ho:op.op=.store 28 x y)
  (b:Nat) (u v:Nd) (hx:a.eval x=.pointer (some ⟨b,0,none⟩)) (hy:a.eval y=.agg v.val) (hb:NdBox b u w)
  (h:∀ w',NdBox b v w'→Below b w w'→w'.heap.size=w.heap.size→wpList Tryz.prog ops Q rest (a.put op.dst undef) w'):wpList Tryz.prog ops Q (op :: rest) a w:=by
 refine wpList_store_mid hgd 28 x y ho b 0 v.val hx hy hb.2 info_node (nd_one v) ?_
 have go:∀ (vs:List Value) (o:Nat) (w:World),Below b w (w.setCells b o vs)∧(w.setCells b o vs).heap.size=w.heap.size:=by
  intro vs
  induction vs with
  | nil=>intro o w;exact⟨Below.refl _ _,rfl⟩
  | cons v vs ih=>intro o w;exact⟨((Below.refl b w).setCell (p:=⟨b,o,none⟩) (le_refl _) v).trans (ih (o+1) _).1,(ih (o+1) (w.setCell ⟨b,o,none⟩ v)).2.trans (by simp [World.setCell])⟩
 exact h _ ⟨World.rangeAt_setCells_same _ _ _ _ hb.2,World.there_setCells hb.2 _ _ _⟩ (go _ _ _).1 (go _ _ _).2
theorem za4 {ops:Array Oper} {rest:List Oper} {op:Oper} {a:Act} {w:World} {Q:Exit→Act→World→Prop} (hgd:op.guard=none) (x:Operand) (ho:op.op=.load 28 x)
  (b:Nat) (u:Nd) (hx:a.eval x=.pointer (some ⟨b,0,none⟩)) (hb:NdAt b u w)
  (h:wpList Tryz.prog ops Q rest (a.put op.dst (.agg u.val)) w):wpList Tryz.prog ops Q (op :: rest) a w :=
 wpList_load_mid hgd 28 x ho b 0 hx u.val.toList _ hb Tryz.underlying28 rfl Zb5 h
theorem zcf {fn:Func} {p:Tmp} (h:fn.results=#[.cell p 28]) (tmps:Array Value) (w:World) (b:Nat) (x:Nd) (hp:tmps.getD p undef=.pointer (some ⟨b,0,none⟩)) (hb:NdAt b x w) :
  (results fn tmps).run Tryz.prog w=.ok (.agg x.val) w :=
 Kit.zbi h tmps w b 0 x.val.toList _ hp hb Tryz.underlying28 rfl Zb5
end CKind
end
section
namespace CRun
open Plain CSat CShape CTensor CConv CKind
structure Res where
 (X Y U:Int)
 (m:Nat)
 (xs:List Int)
 (er:Int)
def Res.bad (e:Int):Res:=⟨0,0,0,0,[],e⟩
def MAcc (w:World) (r:Res) (e:Ending) (w':World):Prop :=
 ∃ v,e=.returned (.tuple #[.agg #[Jj Jq r.X,Jj Jq r.Y,Jj Jq r.U,v],Jj Jq r.er])∧w'.ownsRow w.heap.size 21 1 v r.m (I32v r.xs)∧Below w.heap.size w w'
def MTen (w:World) (r:Res) (e:Ending) (w':World):Prop :=
 ∃ v,e=.returned (.tuple #[.agg #[Jj Jq r.X,Jj Jq r.Y,Jj Jq r.U,v],Jj Jq r.er])∧w'.ownsRow w.heap.size 22 1 v r.m (I8s r.xs)∧Below w.heap.size w w'
theorem zco {w:World} (T:TypeId) (B:Nat):w.ownsRow B T 1 (.slice none 0 0) 0 []:=⟨rfl,.inl ⟨rfl,rfl⟩⟩
theorem zba {w:World} {b:Nat} {x y z u:Value} (h0:w.cell? ⟨b,0,none⟩=some x) (h1:w.cell? ⟨b,1,none⟩=some y) (h2:w.cell? ⟨b,2,none⟩=some z) (h3:w.cell? ⟨b,3,none⟩=some u):w.rangeAt b 0 [x,y,z,u]:=by
 intro j v hj
 match j,hj with
 | 0,hj=>simpa [← hj] using h0
 | 1,hj=>simpa [← hj] using h1
 | 2,hj=>simpa [← hj] using h2
 | 3,hj=>simpa [← hj] using h3
 | j+4,hj=>simp at hj
theorem nd_k0 {g:Nat} {x:Nd} {w:World} {k:Int} (h:NdAt g x w) (hk:x.kd=k):w.cell? ⟨g,0,none⟩=some (Jj Jq k):=h.at 0 _ (by show some (Value.int .i64 x.kd)=_;rw [hk])
theorem ent1 (x:Nd) (H W C:Int) (A:Option Addr) (n c:Nat) (T:TypeId) (w:World):∃ W0,W0=(((w.alloc (.cells x.val 28)).alloc (.cells #[Jj Jq H,Jj Jq W,Jj Jq C,.slice A n c] 32)).alloc (.cells #[Jj Jq 0,Jj Jq 0,Jj Jq 0,.slice none 0 0] T)) ∧
  Hid (NdAt w.heap.size x W0)∧Hid (Below w.heap.size w W0)∧w.heap.size+2 < W0.heap.size∧Hid (BoxAt (w.heap.size+1) H W C A n c W0)∧Hid (zbs (w.heap.size+2) W0):=by
 have hT:=zav H W C A n c 32 (w.alloc (.cells x.val 28))
 have hF:=zaw T ((w.alloc (.cells x.val 28)).alloc (.cells #[Jj Jq H,Jj Jq W,Jj Jq C,.slice A n c] 32))
 simp only [World.size_alloc] at hT hF
 exact⟨_,rfl,hid ((NdAt.new x _ w).below (B:=w.heap.size+1) Zb3 (((Below.refl _ _).alloc Zb7 _).alloc Zb9 _)),hid ((((Below.refl _ _).alloc (le_refl _) _).alloc Zb9 _).alloc Zb9 _),by simp,hid (hT.below (lt_succ_self _) ((Below.refl _ _).alloc Zb7 _)),hid hF⟩
theorem ent2 (x:Nd) (H W C H2 W2 C2:Int) (A B:Option Addr) (n c m d:Nat) (T:TypeId) (w:World):∃ W0,W0=((((w.alloc (.cells x.val 28)).alloc (.cells #[Jj Jq H,Jj Jq W,Jj Jq C,.slice A n c] 32)).alloc (.cells #[Jj Jq H2,Jj Jq W2,Jj Jq C2,.slice B m d] 32)).alloc (.cells #[Jj Jq 0,Jj Jq 0,Jj Jq 0,.slice none 0 0] T)) ∧
  Hid (NdAt w.heap.size x W0)∧Hid (Below w.heap.size w W0)∧w.heap.size+3 < W0.heap.size∧Hid (BoxAt (w.heap.size+1) H W C A n c W0)∧Hid (BoxAt (w.heap.size+2) H2 W2 C2 B m d W0)∧Hid (zbs (w.heap.size+3) W0):=by
 have hT:=zav H W C A n c 32 (w.alloc (.cells x.val 28))
 have hU:=zav H2 W2 C2 B m d 32 ((w.alloc (.cells x.val 28)).alloc (.cells #[Jj Jq H,Jj Jq W,Jj Jq C,.slice A n c] 32))
 have hF:=zaw T (((w.alloc (.cells x.val 28)).alloc (.cells #[Jj Jq H,Jj Jq W,Jj Jq C,.slice A n c] 32)).alloc (.cells #[Jj Jq H2,Jj Jq W2,Jj Jq C2,.slice B m d] 32))
 simp only [World.size_alloc] at hT hU hF
 exact⟨_,rfl,hid ((NdAt.new x _ w).below (B:=w.heap.size+1) Zb3 ((((Below.refl _ _).alloc Zb7 _).alloc Zb9 _).alloc Zb9 _)),hid (((((Below.refl _ _).alloc (le_refl _) _).alloc Zb9 _).alloc Zb9 _).alloc Zb9 _),by simp,hid (hT.below (lt_succ_self _) (((Below.refl _ _).alloc Zb7 _).alloc Zb9 _)),hid (hU.below (lt_succ_self _) ((Below.refl _ _).alloc Zb7 _)),hid hF⟩
end CRun
end
section
namespace CKind
open Plain CSat CShape CTensor CConv
theorem more_6 (x:Nd) (hk:x.kd=6):MoreIs x:=fun w=>by
 refine Z7d ?_;intro TN HB
 have HK:=hid hk
 clear hk
 unfold Nd.val at *
 go_enter Tryz.func62,Tryz.ntmps62
 go_upto_region 1 with fail
 generalize w.alloc (.cells #[Jj Jq x.kd,Jj Jq x.na,Jj Jq x.nb,Jj Jq x.K,Jj Jq x.S,Jj Jq x.P,Jj Jq x.O,.int .i8 x.Z,.int .i8 x.Y,.slice x.WA x.nW x.cW,.slice x.BA x.nB x.cB,.int .i32 x.m1,Jj Jq x.s1,.int .i8 x.z1,.int .i32 x.m2,Jj Jq x.s2,.int .i8 x.z2,.int .i8 x.lo,.int .i8 x.hi] 28)=W0 at TN HB ⊢
 have n0:=TN.out.at 0 _ rfl
 refine Z7p ?_;intro n3 n4 n5
 have n6:=TN.out.at 6 _ rfl
 refine Z82 ?_;intro n9 n10
 have n16:=TN.out.at 16 _ rfl
 have hk:=HK.out
 rw [hk] at n0
 have hsc:zaf 6=true:=by decide
 by_cases c6:x.nW=0∧x.nB=0∧x.O=0
 rotate_left
 ·rcases (show (¬ x.nW=0)∨(x.nW=0∧¬ x.nB=0)∨(x.nW=0∧x.nB=0∧¬ x.O=0) by omega) with c6_0 | ⟨c6_0,c6_1⟩ | ⟨c6_0,c6_1,c6_2⟩
  all_goals (go_wp2_with (go_at_call 63;(refine (zab _ _).mono ?_);rintro e w1 ⟨rfl,rfl⟩);go_ret;exact⟨by first | (simp [Nd.moreB,sumsB,zai,zaf, *];done) | (simp [Nd.moreB,sumsB,zai,zaf, *];omega),HB.out⟩)
 obtain⟨d9,d10,d6⟩:=c6
 go_upto_region 6 with (go_at_call 63;(refine (zab _ _).mono ?_);rintro e w1 ⟨rfl,rfl⟩)
 by_cases c8:x.K=0∧x.S=0∧x.P=0
 rotate_left
 ·rcases (show (¬ x.K=0)∨(x.K=0∧¬ x.S=0)∨(x.K=0∧x.S=0∧¬ x.P=0) by omega) with c8_0 | ⟨c8_0,c8_1⟩ | ⟨c8_0,c8_1,c8_2⟩
  all_goals (go_wp2_with (go_at_call 63;(refine (zab _ _).mono ?_);rintro e w1 ⟨rfl,rfl⟩);go_ret;exact⟨by first | (simp [Nd.moreB,sumsB,zai,zaf, *];done) | (simp [Nd.moreB,sumsB,zai,zaf, *];omega),HB.out⟩)
 obtain⟨d3,d4,d5⟩:=c8
 go_upto_region 8 with (go_at_call 63;(refine (zab _ _).mono ?_);rintro e w1 ⟨rfl,rfl⟩)
 by_cases c10:x.z2=0
 rotate_left
 ·rcases (show (¬ x.z2=0) by omega) with c10_0
  all_goals (go_wp2_with (go_at_call 63;(refine (zab _ _).mono ?_);rintro e w1 ⟨rfl,rfl⟩);go_ret;exact⟨by first | (simp [Nd.moreB,sumsB,zai,zaf, *];done) | (simp [Nd.moreB,sumsB,zai,zaf, *];omega),HB.out⟩)
 have d16:=c10
 go_upto_region 10 with (go_at_call 63;(refine (zab _ _).mono ?_);rintro e w1 ⟨rfl,rfl⟩)
 go_upto_region 12 with (go_at_call 63;(refine (zab _ _).mono ?_);rintro e w1 ⟨rfl,rfl⟩)
 go_wp2_with (go_at_call 63;(refine (zab _ _).mono ?_);rintro e w1 ⟨rfl,rfl⟩)
 go_ret
 exact⟨by first | (simp [Nd.moreB,sumsB,zai,zaf, *];done) | (simp [Nd.moreB,sumsB,zai,zaf, *];omega),HB.out⟩
theorem more_7 (x:Nd) (hk:x.kd=7):MoreIs x:=fun w=>by
 refine Z7d ?_;intro TN HB
 have HK:=hid hk
 clear hk
 unfold Nd.val at *
 go_enter Tryz.func62,Tryz.ntmps62
 go_upto_region 1 with fail
 generalize w.alloc (.cells #[Jj Jq x.kd,Jj Jq x.na,Jj Jq x.nb,Jj Jq x.K,Jj Jq x.S,Jj Jq x.P,Jj Jq x.O,.int .i8 x.Z,.int .i8 x.Y,.slice x.WA x.nW x.cW,.slice x.BA x.nB x.cB,.int .i32 x.m1,Jj Jq x.s1,.int .i8 x.z1,.int .i32 x.m2,Jj Jq x.s2,.int .i8 x.z2,.int .i8 x.lo,.int .i8 x.hi] 28)=W0 at TN HB ⊢
 refine Za2 ?_;intro n0 n2
 refine Z7p ?_;intro n3 n4 n5
 have n6:=TN.out.at 6 _ rfl
 have n8:=TN.out.at 8 _ rfl
 refine Z82 ?_;intro n9 n10
 refine Z6v ?_;intro n14 n15 n16
 have hk:=HK.out
 rw [hk] at n0
 have hsc:zaf 7=true:=by decide
 by_cases c6:x.nW=0∧x.nB=0∧x.O=0
 rotate_left
 ·rcases (show (¬ x.nW=0)∨(x.nW=0∧¬ x.nB=0)∨(x.nW=0∧x.nB=0∧¬ x.O=0) by omega) with c6_0 | ⟨c6_0,c6_1⟩ | ⟨c6_0,c6_1,c6_2⟩
  all_goals (go_wp2_with (go_at_call 63;(refine (zab _ _).mono ?_);rintro e w1 ⟨rfl,rfl⟩);go_ret;exact⟨by first | (simp [Nd.moreB,sumsB,zai,zaf, *];done) | (simp [Nd.moreB,sumsB,zai,zaf, *];omega),HB.out⟩)
 obtain⟨d9,d10,d6⟩:=c6
 go_upto_region 6 with (go_at_call 63;(refine (zab _ _).mono ?_);rintro e w1 ⟨rfl,rfl⟩)
 by_cases c8:x.K=0∧x.S=0∧x.P=0
 rotate_left
 ·rcases (show (¬ x.K=0)∨(x.K=0∧¬ x.S=0)∨(x.K=0∧x.S=0∧¬ x.P=0) by omega) with c8_0 | ⟨c8_0,c8_1⟩ | ⟨c8_0,c8_1,c8_2⟩
  all_goals (go_wp2_with (go_at_call 63;(refine (zab _ _).mono ?_);rintro e w1 ⟨rfl,rfl⟩);go_ret;exact⟨by first | (simp [Nd.moreB,sumsB,zai,zaf, *];done) | (simp [Nd.moreB,sumsB,zai,zaf, *];omega),HB.out⟩)
 obtain⟨d3,d4,d5⟩:=c8
 go_upto_region 8 with (go_at_call 63;(refine (zab _ _).mono ?_);rintro e w1 ⟨rfl,rfl⟩)
 by_cases c10:x.nb=0∧x.Y=0∧x.m2=0∧x.s2=0∧x.z2=0
 rotate_left
 ·rcases (show (¬ x.nb=0)∨(x.nb=0∧¬ x.Y=0)∨(x.nb=0∧x.Y=0∧¬ x.m2=0)∨(x.nb=0∧x.Y=0∧x.m2=0∧¬ x.s2=0)∨(x.nb=0∧x.Y=0∧x.m2=0∧x.s2=0∧¬ x.z2=0) by omega) with c10_0 | ⟨c10_0,c10_1⟩ | ⟨c10_0,c10_1,c10_2⟩ | ⟨c10_0,c10_1,c10_2,c10_3⟩ | ⟨c10_0,c10_1,c10_2,c10_3,c10_4⟩
  all_goals (go_wp2_with (go_at_call 63;(refine (zab _ _).mono ?_);rintro e w1 ⟨rfl,rfl⟩);go_ret;exact⟨by first | (simp [Nd.moreB,sumsB,zai,zaf, *];done) | (simp [Nd.moreB,sumsB,zai,zaf, *];omega),HB.out⟩)
 obtain⟨d2,d8,d14,d15,d16⟩:=c10
 go_upto_region 10 with (go_at_call 63;(refine (zab _ _).mono ?_);rintro e w1 ⟨rfl,rfl⟩)
 go_upto_region 12 with (go_at_call 63;(refine (zab _ _).mono ?_);rintro e w1 ⟨rfl,rfl⟩)
 go_wp2_with (go_at_call 63;(refine (zab _ _).mono ?_);rintro e w1 ⟨rfl,rfl⟩)
 go_ret
 exact⟨by first | (simp [Nd.moreB,sumsB,zai,zaf, *];done) | (simp [Nd.moreB,sumsB,zai,zaf, *];omega),HB.out⟩
theorem more_8 (x:Nd) (hk:x.kd=8):MoreIs x:=fun w=>by
 refine Z7d ?_;intro TN HB
 have HK:=hid hk
 clear hk
 unfold Nd.val at *
 go_enter Tryz.func62,Tryz.ntmps62
 go_upto_region 1 with fail
 generalize w.alloc (.cells #[Jj Jq x.kd,Jj Jq x.na,Jj Jq x.nb,Jj Jq x.K,Jj Jq x.S,Jj Jq x.P,Jj Jq x.O,.int .i8 x.Z,.int .i8 x.Y,.slice x.WA x.nW x.cW,.slice x.BA x.nB x.cB,.int .i32 x.m1,Jj Jq x.s1,.int .i8 x.z1,.int .i32 x.m2,Jj Jq x.s2,.int .i8 x.z2,.int .i8 x.lo,.int .i8 x.hi] 28)=W0 at TN HB ⊢
 refine Za2 ?_;intro n0 n2
 have n3:=TN.out.at 3 _ rfl
 have n4:=TN.out.at 4 _ rfl
 have n6:=TN.out.at 6 _ rfl
 have n8:=TN.out.at 8 _ rfl
 refine Z82 ?_;intro n9 n10
 refine Z6e ?_;intro n11 n12 n13 n14 n15 n16
 refine Z8y ?_;intro n17 n18
 have hk:=HK.out
 rw [hk] at n0
 have hsc:zaf 8=false:=by decide
 by_cases c6:x.nW=0∧x.nB=0∧x.O=0
 rotate_left
 ·rcases (show (¬ x.nW=0)∨(x.nW=0∧¬ x.nB=0)∨(x.nW=0∧x.nB=0∧¬ x.O=0) by omega) with c6_0 | ⟨c6_0,c6_1⟩ | ⟨c6_0,c6_1,c6_2⟩
  all_goals (go_wp2_with (go_at_call 63;(refine (zab _ _).mono ?_);rintro e w1 ⟨rfl,rfl⟩);go_ret;exact⟨by first | (simp [Nd.moreB,sumsB,zai,zaf, *];done) | (simp [Nd.moreB,sumsB,zai,zaf, *];omega),HB.out⟩)
 obtain⟨d9,d10,d6⟩:=c6
 go_upto_region 6 with (go_at_call 63;(refine (zab _ _).mono ?_);rintro e w1 ⟨rfl,rfl⟩)
 by_cases c8:x.K=0∧x.S=0
 rotate_left
 ·rcases (show (¬ x.K=0)∨(x.K=0∧¬ x.S=0) by omega) with c8_0 | ⟨c8_0,c8_1⟩
  all_goals (go_wp2_with (go_at_call 63;(refine (zab _ _).mono ?_);rintro e w1 ⟨rfl,rfl⟩);go_ret;exact⟨by first | (simp [Nd.moreB,sumsB,zai,zaf, *];done) | (simp [Nd.moreB,sumsB,zai,zaf, *];omega),HB.out⟩)
 obtain⟨d3,d4⟩:=c8
 go_upto_region 8 with (go_at_call 63;(refine (zab _ _).mono ?_);rintro e w1 ⟨rfl,rfl⟩)
 by_cases c10:x.nb=0∧x.Y=0∧x.m2=0∧x.s2=0∧x.z2=0
 rotate_left
 ·rcases (show (¬ x.nb=0)∨(x.nb=0∧¬ x.Y=0)∨(x.nb=0∧x.Y=0∧¬ x.m2=0)∨(x.nb=0∧x.Y=0∧x.m2=0∧¬ x.s2=0)∨(x.nb=0∧x.Y=0∧x.m2=0∧x.s2=0∧¬ x.z2=0) by omega) with c10_0 | ⟨c10_0,c10_1⟩ | ⟨c10_0,c10_1,c10_2⟩ | ⟨c10_0,c10_1,c10_2,c10_3⟩ | ⟨c10_0,c10_1,c10_2,c10_3,c10_4⟩
  all_goals (go_wp2_with (go_at_call 63;(refine (zab _ _).mono ?_);rintro e w1 ⟨rfl,rfl⟩);go_ret;exact⟨by first | (simp [Nd.moreB,sumsB,zai,zaf, *];done) | (simp [Nd.moreB,sumsB,zai,zaf, *];omega),HB.out⟩)
 obtain⟨d2,d8,d14,d15,d16⟩:=c10
 go_upto_region 10 with (go_at_call 63;(refine (zab _ _).mono ?_);rintro e w1 ⟨rfl,rfl⟩)
 by_cases c12:x.m1=0∧x.s1=0∧x.z1=0∧x.lo=0∧x.hi=0
 rotate_left
 ·rcases (show (¬ x.m1=0)∨(x.m1=0∧¬ x.s1=0)∨(x.m1=0∧x.s1=0∧¬ x.z1=0)∨(x.m1=0∧x.s1=0∧x.z1=0∧¬ x.lo=0)∨(x.m1=0∧x.s1=0∧x.z1=0∧x.lo=0∧¬ x.hi=0) by omega) with c12_0 | ⟨c12_0,c12_1⟩ | ⟨c12_0,c12_1,c12_2⟩ | ⟨c12_0,c12_1,c12_2,c12_3⟩ | ⟨c12_0,c12_1,c12_2,c12_3,c12_4⟩
  all_goals (go_wp2_with (go_at_call 63;(refine (zab _ _).mono ?_);rintro e w1 ⟨rfl,rfl⟩);go_ret;exact⟨by first | (simp [Nd.moreB,sumsB,zai,zaf, *];done) | (simp [Nd.moreB,sumsB,zai,zaf, *];omega),HB.out⟩)
 obtain⟨d11,d12,d13,d17,d18⟩:=c12
 go_upto_region 12 with (go_at_call 63;(refine (zab _ _).mono ?_);rintro e w1 ⟨rfl,rfl⟩)
 go_wp2_with (go_at_call 63;(refine (zab _ _).mono ?_);rintro e w1 ⟨rfl,rfl⟩)
 go_ret
 exact⟨by first | (simp [Nd.moreB,sumsB,zai,zaf, *];done) | (simp [Nd.moreB,sumsB,zai,zaf, *];omega),HB.out⟩
end CKind
end
section
namespace CFix
open Go Go.ChangeShapes Go.WideShapes Go.ChangeAt Go.RowKit
open Plain CSat
def zbo (v:Int) (s:Nat):Int :=
 if v < 0 then -(((v.natAbs+2 ^ s / 2) / 2 ^ s:Nat):Int) else (((v.natAbs+2 ^ s / 2) / 2 ^ s:Nat):Int)
theorem right_yes (s:Int) (h1:0≤s) (h2:s≤62) (w:World) :
  Calls Tryz.prog 95 #[Jj Jq s] w fun e w'=>e=.returned (.bool true)∧w=w':=by
 exact Z25
theorem right_no (s:Int) (h:s < 0∨62 < s) (w:World) :
  Calls Tryz.prog 95 #[Jj Jq s] w fun e w'=>e=.returned (.bool false)∧w=w':=by
 rcases h with h | h
 ·exact Z25
 ·by_cases h0:0≤s
  ·have hd:decide (s≤62)=false:=by simp;omega
   exact Z25
  ·exact Z25
theorem pow_bd (s:Nat) (h:s≤62):∃ p:Nat,2 ^ s=p∧1≤p∧p≤4611686018427387904∧((2:Int) ^ s=(p:Int)):=by
 refine⟨2 ^ s,rfl,Nat.one_le_two_pow,?_,by simp⟩
 exact Nat.pow_le_pow_right Zb3 h
theorem round_size (n p:Nat) (hp:1≤p) (hp2:p≤4611686018427387904) (hn:n≤9223372036854775808) :
  (n+p / 2) / p≤9223372036854775808∧(n≤9223372036854775807→(n+p / 2) / p≤9223372036854775807):=by
 have h1:(n+p / 2) / p≤n:=by
  rcases Nat.lt_or_ge 1 p with h | h
  ·rcases Nat.eq_zero_or_pos n with h0 | h0
   ·subst h0;rw [Nat.zero_add];rw [Nat.div_eq_of_lt Zb3];omega
   ·apply Nat.div_le_of_le_mul
    have:p * 1≤p * n:=Nat.mul_le_mul_left p h0
    have h2:2 * n≤p * n:=Nat.mul_le_mul_right n h
    omega
  ·have:p=1:=by omega
   subst this;simp
 omega
theorem div_back (x:Int) (n p q:Nat) (hq:q=(n+p / 2) / p) (h:x=(n:Int)):(x+(p:Int) / 2) / (p:Int)=(q:Int):=by
 subst hq h;simp
theorem neg_q (q:Nat) (h:q≤9223372036854775808):wrap64 (-wrap64 (q:Int)) = -(q:Int):=by unfold wrap64;omega
theorem round_yes (v:Int) (s:Nat) (h:s≤62) (hv1 : -9223372036854775808≤v) (hv2:v≤9223372036854775807) (w:World) :
  Calls Tryz.prog 148 #[Jj Jq v,Jj Jq (s:Int)] w fun e w'=>e=.returned (Jj Jq (zbo v s))∧w=w':=by
 obtain⟨p,hp,hp1,hp2,hpi⟩:=pow_bd s h
 obtain⟨q,hq⟩:∃ q,q=(v.natAbs+p / 2) / p:=⟨_,rfl⟩
 have hqs:=round_size v.natAbs p hp1 hp2 Zb3
 rw [← hq] at hqs
 obtain⟨hq1,hq2⟩:=hqs
 by_cases hn:v < 0
 ·have hr:zbo v s = -(q:Int):=by unfold zbo;rw [if_pos hn,hp,hq]
  rw [hr]
  have hx:IntKind.u64.wrap v=v+18446744073709551616:=by rw [IntKind.wrap_u64];omega
  have hy:IntKind.u64.wrap (-(v+18446744073709551616)) = -v:=by rw [IntKind.wrap_u64];omega
  have hz:(-v+(p:Int) / 2) / (p:Int)=(q:Int):=div_back _ _ _ _ hq Zb3
  clear hr hq2 hp hq
  go_enter Tryz.func148,Tryz.ntmps148
  go_wp2_with (go_at_call 95;refine (right_yes _ Zb3 Zb3 _).mono ?_;rintro e w' ⟨rfl,rfl⟩)
  refine Kit.zce 0 rfl ?_
  go_wp2_with (go_at_call 95;refine (right_yes _ Zb3 Zb3 _).mono ?_;rintro e w' ⟨rfl,rfl⟩)
  go_step3
  refine⟨rfl,?_⟩
  go_wp2
  rw [Exit.noGoto_ret]
  go_ret
  exact⟨zb5 (neg_q q hq1),rfl⟩
 ·have hr:zbo v s=(q:Int):=by unfold zbo;rw [if_neg hn,hp,hq]
  rw [hr]
  have hz:(v+(p:Int) / 2) / (p:Int)=(q:Int):=div_back _ _ _ _ hq Zb3
  have hq3:=hq2 Zb3
  clear hr hq2 hp hq
  go_enter Tryz.func148,Tryz.ntmps148
  go_wp2_with (go_at_call 95;refine (right_yes _ Zb3 Zb3 _).mono ?_;rintro e w' ⟨rfl,rfl⟩)
  go_step3
  go_wp2_with (go_at_call 95;refine (right_yes _ Zb3 Zb3 _).mono ?_;rintro e w' ⟨rfl,rfl⟩)
  go_step3
  go_wp2
  rw [Exit.noGoto_ret]
  go_ret
  exact⟨rfl,rfl⟩
theorem round_abs (v:Int) (s:Nat) (h:s≤62) (hv1 : -9223372036854775808≤v) (hv2:v≤9223372036854775807):(zbo v s).natAbs≤v.natAbs:=by
 obtain⟨p,hp,hp1,hp2,hpi⟩:=pow_bd s h
 have h1:(v.natAbs+p / 2) / p≤v.natAbs:=by
  rcases Nat.lt_or_ge 1 p with h | h
  ·rcases Nat.eq_zero_or_pos v.natAbs with h0 | h0
   ·rw [h0,Nat.zero_add,Nat.div_eq_of_lt Zb3];omega
   ·apply Nat.div_le_of_le_mul
    have:p * 1≤p * v.natAbs:=Nat.mul_le_mul_left p h0
    have h2:2 * v.natAbs≤p * v.natAbs:=Nat.mul_le_mul_right _ h
    omega
  ·have:p=1:=by omega
   subst this;simp
 unfold zbo
 rw [hp]
 generalize (v.natAbs+p / 2) / p=t at *
 split <;> omega
theorem scale_yes (a m:Int) (s:Nat) (h:s≤62) (ha1 : -2147483648≤a) (ha2:a≤2147483647) (hm1 : -2147483648≤m) (hm2:m≤2147483647) (w:World) :
  Calls Tryz.prog 136 #[.int .i32 a,.int .i32 m,Jj Jq (s:Int)] w fun e w'=>e=.returned (Jj Jq (zbo (a * m) s))∧w=w':=by
 obtain⟨h1,h2⟩:=mul_bd a m ha1 ha2 hm1 hm2
 go_enter Tryz.func136,Tryz.ntmps136
 go_wp2_with (go_at_call 148;refine (round_yes _ s h Zb3 Zb3 _).mono ?_;rintro e w' ⟨rfl,rfl⟩)
 go_ret
 exact⟨rfl,rfl⟩
theorem scale_to (a m:Int) (s:Nat) (t:Int) (h:s≤62) (ha1 : -2147483648≤a) (ha2:a≤2147483647) (hm1 : -2147483648≤m) (hm2:m≤2147483647) (ht:zbo (a * m) s=t) (w:World) :
  Calls Tryz.prog 136 #[.int .i32 a,.int .i32 m,Jj Jq (s:Int)] w fun e w'=>e=.returned (Jj Jq t)∧w=w':=ht ▸ scale_yes a m s h ha1 ha2 hm1 hm2 w
def zau (m s:Int):Bool:=decide (0 < m∧0≤s∧s≤62)
theorem zcu (m s z:Int) (h:zau m s=true) (w:World) :
  Calls Tryz.prog 42 #[.agg #[.int .i32 m,Jj Jq s,.int .i8 z]] w fun e w'=>e=.returned (.bool true)∧Below w.heap.size w w':=by
 obtain⟨h1,h2,h3⟩:0 < m∧0≤s∧s≤62:=by simpa [zau] using h
 clear h
 go_enter Tryz.func42,Tryz.ntmps42
 go_wp2_with (go_at_call 95;refine (right_yes _ Zb3 Zb3 _).mono ?_;rintro e w' ⟨rfl,rfl⟩)
 exact Z1a
theorem isRight_no (m s z:Int) (h:zau m s=false) (w:World) :
  Calls Tryz.prog 42 #[.agg #[.int .i32 m,Jj Jq s,.int .i8 z]] w fun e w'=>e=.returned (.bool false)∧Below w.heap.size w w':=by
 have h0:¬ (0 < m∧0≤s∧s≤62):=by simpa [zau] using h
 clear h
 by_cases h1:0 < m
 ·have h2:s < 0∨62 < s:=by omega
  clear h0
  go_enter Tryz.func42,Tryz.ntmps42
  go_wp2_with (go_at_call 95;refine (right_no _ h2 _).mono ?_;rintro e w' ⟨rfl,rfl⟩)
  exact Z1a
 ·have hd:decide (0 < m)=false:=by simpa using h1
  clear h0
  go_enter Tryz.func42,Tryz.ntmps42
  go_wp2_with fail
  exact Z1a
def heldZ (a m s z lo hi:Int):Int:=if zau m s then zcd (zbo (a * m) s.toNat+z) lo hi else 0
theorem held (a m s z lo hi:Int) (ha1 : -2147483648≤a) (ha2:a≤2147483647) (hm1 : -2147483648≤m) (hm2:m≤2147483647) (hz1 : -128≤z) (hz2:z≤127)
  (hl1 : -128≤lo) (hl2:lo≤127) (hh1 : -128≤hi) (hh2:hi≤127) (w:World) :
  Calls Tryz.prog 103 #[.int .i32 a,.agg #[.int .i32 m,Jj Jq s,.int .i8 z],.int .i8 lo,.int .i8 hi] w fun e w'=>e=.returned (.int .i8 (heldZ a m s z lo hi))∧Below w.heap.size w w':=by
 obtain⟨h1,h2⟩:=mul_bd a m ha1 ha2 hm1 hm2
 cases hr:zau m s
 ·have hv:heldZ a m s z lo hi=0:=by unfold heldZ;rw [hr];rfl
  rw [hv]
  have HR:=hid hr
  clear hr hv
  go_enter Tryz.func103,Tryz.ntmps103
  go_wp2_with (go_at_call 42;refine (isRight_no _ _ _ HR.out _).mono ?_;rintro e w1 ⟨rfl,hb⟩;obtain⟨hc,hf⟩:=Kit.bcell hb)
  go_ret
  exact⟨rfl,((Below.refl _ _).alloc (le_refl _) _).trans (hb.mono Zb7)⟩
 ·obtain⟨h3,h4,h5⟩:0 < m∧0≤s∧s≤62:=by simpa [zau] using hr
  obtain⟨n,rfl⟩:=Int.eq_ofNat_of_zero_le h4
  have hv:heldZ a m n z lo hi=zcd (zbo (a * m) n+z) lo hi:=by unfold heldZ;rw [hr];rfl
  rw [hv]
  have hn:n≤62:=by omega
  have hra:=round_abs (a * m) n hn Zb3 Zb3
  obtain⟨t,ht⟩:∃ t,zbo (a * m) n=t:=⟨_,rfl⟩
  rw [ht] at hra
  rw [ht]
  have ht1 : -4611686018427387904≤t:=by omega
  have ht2:t≤4611686018427387904:=by omega
  have HR:=hid hr
  have HT:=hid ht
  clear hr hv ht hra
  go_enter Tryz.func103,Tryz.ntmps103
  go_wp2_with (go_at_call 42;refine (zcu _ _ _ HR.out _).mono ?_;rintro e w1 ⟨rfl,hb⟩;obtain⟨hc,hf⟩:=Kit.bcell hb)
  go_quiet ((first
   | (go_at_call 136;exact Kit.quiet_l (scale_to _ _ _ t hn ha1 ha2 hm1 hm2 HT.out _))
   | (go_at_call 137;exact Kit.quiet_l (clamp _ _ _ Zb3 Zb3 Zb3 Zb3 _))))
  go_wp2
  exact Z2t
end CFix
end
section
namespace CKind
open Plain CSat CShape CTensor CConv
def Nd.zero:Nd:=⟨0,0,0,0,0,0,0,0,0,none,0,0,none,0,0,0,0,0,0,0,0,0,0⟩
def Nd.ownK (x:Nd) (k:Int):Nd :=
 ⟨k,x.na,if k == 6 then x.nb else 0,if zai k then x.K else 0,if zai k then x.S else 0,if zai k || k == 8 then x.P else 0,if k == 1 || k == 3 then x.O else 0,if zaf k || k == 8 then x.Z else 0,if k == 6 then x.Y else 0,
  if sumsB k then x.WA else none,if sumsB k then x.nW else 0,if sumsB k then x.cW else 0,if sumsB k then x.BA else none,if sumsB k then x.nB else 0,if sumsB k then x.cB else 0,
  if zaf k then x.m1 else 0,if zaf k then x.s1 else 0,if zaf k then x.z1 else 0,if k == 6 then x.m2 else 0,if k == 6 then x.s2 else 0,0,if zaf k then x.lo else 0,if zaf k then x.hi else 0⟩
theorem zdh (a b c x y z:Int) (w:World):(Op.equalIn 10000 26 (.agg #[.int .i32 a,Jj Jq b,.int .i8 c]) (.agg #[.int .i32 x,Jj Jq y,.int .i8 z])).run Tryz.prog w=.ok (a == x && (b == y && c == z)) w:=by
 have u1:=Tryz.underlying21
 have a1:=Tryz.isAgg21
 have z1:=Tryz.sizeOf21
 have u2:=Tryz.underlying22
 have a2:=Tryz.isAgg22
 have z2:=Tryz.sizeOf22
 have u3:=Tryz.underlying3
 have a3:=Tryz.isAgg3
 have z3:=Tryz.sizeOf3
 have hS:Tryz.prog.underlying 26=some (.struct (Tryz.prog.fieldsOf 26)):=by kernel_rfl
 rw [show (10000:Nat)=9999+1 from rfl,run_equalIn_agg w 9999 26 _ _ hS Tryz.stoodInHeld26]
 simp only [Program.fieldsOf,Tryz.underlying26]
 go_simp
 by_cases h1:a=x <;> by_cases h2:b=y <;> by_cases h3:c=z <;> simp [h1,h2,h3]
end CKind
end
section
namespace CTensor
open Go Go.ChangeShapes Go.WideShapes Go.ChangeAt Go.RowKit
open Plain CSat CShape
def Made (w:World) (H W C:Int) (n:Nat) (zs:List Int) (x:Value) (e:Ending) (w':World):Prop :=
 ∃ v,e=.returned (.tuple #[.agg #[Jj Jq H,Jj Jq W,Jj Jq C,v],x])∧w'.ownsRow w.heap.size 22 1 v n (I8s zs)∧Below w.heap.size w w'
theorem of_yes (H W C:Int) (A:Option Addr) (zs:List Int) (n c:Nat) (hn:zs.length=n) (hl:n≤1000000) (ht:tensB H W C n=true) {B:Nat} (w:World) (hB:B≤w.heap.size) (hr:Kit.Rd w B A (zs.map (.int .i8))) :
  Calls Tryz.prog 59 #[.agg #[Jj Jq H,Jj Jq W,Jj Jq C],.slice A n c] w (Made w H W C n zs (Jj Jq 0)):=by
 have HT:=hid ht
 have HN:=hid hn
 have HR:=hid hr
 clear ht hn hr
 go_enter Tryz.func59,Tryz.ntmps59
 have H0:=hid (Below.refl w.heap.size w)
 go_wp2_with (first
  | (go_at_call 13;((with_reducible refine (zak H W C A n c true HT.out _).mono ?_);(rintro e w1 ⟨rfl,hb⟩;obtain⟨hc,hf⟩:=Kit.bcell hb;have hz:w.heap.size+3≤w1.heap.size:=Zbb;have hw1:Below w.heap.size w w1:=Below.trans (by go_grown) (hb.mono Zba);have HB:=hid hb)))
  | (go_at_call 107;have hrd:=HR.out.below (hw1.mono hB);((with_reducible refine (clone_to H W C A zs n c HN.out hl (B:=B) _ Zb3 hrd).mono ?_);(rintro e w2 ⟨v2,rfl,ho2,hb2⟩;obtain⟨hc2,hf2⟩:=Kit.bcell hb2;obtain⟨A2,c2,rfl,_,_,_⟩:=Kit.zaj ho2;have HO:=hid ho2;have HB2:=hid (hw1.trans (hb2.mono Zb3));have hz2:w1.heap.size≤w2.heap.size:=hb2.size;have hz3:w.heap.size+1 < w1.heap.size:=Zb3;clear hw1 hrd ho2))))
 refine bodyPost_ret (Kit.zaa rfl _ _ (w.heap.size+1) 0 [Jj Jq H,Jj Jq W,Jj Jq C,.slice A2 n c2] _ rfl (zao Zb6 Zb6 Zb6 Zb6) Tryz.underlying32 rfl Zb5) rfl ?_
 refine⟨_,rfl,Kit.zah (zat (zat (zat (zat HO.out _ _ ?_) _ _ ?_) _ _ ?_) _ _ ?_) ?_,?_⟩
 any_goals (first | omega | (simp;done) | (simp;omega))
 exact ((((HB2.out.setCell (p:=⟨w.heap.size+1,0,none⟩) Zb7 _).setCell (p:=⟨w.heap.size+1,1,none⟩) Zb7 _).setCell (p:=⟨w.heap.size+1,2,none⟩) Zb7 _).setCell (p:=⟨w.heap.size+1,3,none⟩) Zb7 _)
def placeB (H W C:Int) (n:Nat) (h v c:Int):Bool:=tensB H W C n && inB H W C h v c
theorem pos_yes (H W C:Int) (A:Option Addr) (n k:Nat) (h v c:Int) (p:Nat) (hb:placeB H W C n h v c=true) (hp:(h * W+v) * C+c=p) (w:World) :
  Calls Tryz.prog 139 #[.agg #[Jj Jq H,Jj Jq W,Jj Jq C,.slice A n k],Jj Jq h,Jj Jq v,Jj Jq c] w fun e w'=>e=.returned (.tuple #[Jj Jq p,.bool true])∧Below w.heap.size w w':=by
 simp only [placeB,Bool.and_eq_true] at hb
 obtain⟨ht,hi⟩:=hb
 simp only [inB,Bool.and_eq_true,decide_eq_true_eq] at hi
 obtain⟨hs,h1,h2,h3,h4,h5,h6⟩:=hi
 have HT:=hid ht
 have HS:=hid hs
 have HP:=hid hp
 clear ht hs hp
 go_enter Tryz.func139,Tryz.ntmps139
 go_wp2_with (first
  | (go_at_call 13;((with_reducible refine (zak H W C A n k true HT.out _).mono ?_);(rintro e w1 ⟨rfl,hb⟩;obtain⟨hc,hf⟩:=Kit.bcell hb;have hz:w.heap.size < w1.heap.size:=Zbb;have hw1:Below w.heap.size w w1:=Below.trans (by go_grown) (hb.mono Zb7))))
  | (go_at_call 130;((with_reducible refine (index_yes H W C h v c _ HS.out h1 h2 h3 h4 h5 h6 HP.out _).mono ?_);(rintro e w2 ⟨rfl,hb2⟩;have HB:=hid (hw1.trans (hb2.mono (Nat.le_of_lt hz)));clear hb2))))
 go_ret2
 exact⟨rfl,HB.out⟩
theorem pos_no (H W C:Int) (A:Option Addr) (n k:Nat) (h v c:Int) (hb:placeB H W C n h v c=false) (w:World) :
  Calls Tryz.prog 139 #[.agg #[Jj Jq H,Jj Jq W,Jj Jq C,.slice A n k],Jj Jq h,Jj Jq v,Jj Jq c] w fun e w'=>e=.returned (.tuple #[Jj Jq 0,.bool false])∧Below w.heap.size w w':=by
 cases ht:tensB H W C n
 ·have HT:=hid ht
  clear ht hb
  go_enter Tryz.func139,Tryz.ntmps139
  go_wp2_with (go_at_call 13;((with_reducible refine (zak H W C A n k false HT.out _).mono ?_);(rintro e w1 ⟨rfl,hb⟩;have HB:=hid (show Below w.heap.size w w1 from Below.trans (by go_grown) (hb.mono Zb7));clear hb)))
  go_ret2
  exact⟨rfl,HB.out⟩
 ·have hi:inB H W C h v c=false:=by simpa [placeB,ht] using hb
  have HT:=hid ht
  have HI:=hid hi
  clear ht hb hi
  go_enter Tryz.func139,Tryz.ntmps139
  go_wp2_with (first
   | (go_at_call 13;((with_reducible refine (zak H W C A n k true HT.out _).mono ?_);(rintro e w1 ⟨rfl,hb⟩;obtain⟨hc,hf⟩:=Kit.bcell hb;have hz:w.heap.size < w1.heap.size:=Zbb;have hw1:Below w.heap.size w w1:=Below.trans (by go_grown) (hb.mono Zb7))))
   | (go_at_call 130;((with_reducible refine (index_no H W C h v c HI.out _).mono ?_);(rintro e w2 ⟨rfl,hb2⟩;have HB:=hid (hw1.trans (hb2.mono (Nat.le_of_lt hz)));clear hb2))))
  go_ret2
  exact⟨rfl,HB.out⟩
theorem at_no (H W C:Int) (A:Option Addr) (n k:Nat) (h v c:Int) (hb:placeB H W C n h v c=false) (w:World) :
  Calls Tryz.prog 106 #[.agg #[Jj Jq H,Jj Jq W,Jj Jq C,.slice A n k],Jj Jq h,Jj Jq v,Jj Jq c] w fun e w'=>e=.returned (.tuple #[.int .i8 0,.bool false])∧Below w.heap.size w w':=by
 have HB0:=hid hb
 clear hb
 go_enter Tryz.func106,Tryz.ntmps106
 go_wp2_with (go_at_call 139;((with_reducible refine (pos_no H W C A n k h v c HB0.out _).mono ?_);(rintro e w1 ⟨rfl,hb⟩;have HB:=hid (show Below w.heap.size w w1 from Below.trans (by go_grown) (hb.mono Zb7));clear hb)))
 go_ret2
 exact⟨rfl,HB.out⟩
theorem at_yes (H W C:Int) (A:Option Addr) (zs:List Int) (n k:Nat) (hn:zs.length=n) (hk:n≤k) (hk9:n≤1000000) (h v c:Int) (p:Nat) (hb:placeB H W C n h v c=true) (hp:(h * W+v) * C+c=p) (x:Int) (hx:zs[p]?=some x) {B:Nat} (w:World) (hB:B≤w.heap.size) (hr:Kit.Rd w B A (zs.map (.int .i8))) :
  Calls Tryz.prog 106 #[.agg #[Jj Jq H,Jj Jq W,Jj Jq C,.slice A n k],Jj Jq h,Jj Jq v,Jj Jq c] w fun e w'=>e=.returned (.tuple #[.int .i8 x,.bool true])∧Below w.heap.size w w':=by
 have hpl:p < zs.length:=by
  rcases Nat.lt_or_ge p zs.length with h | h
  ·exact h
  ·rw [List.getElem?_eq_none h] at hx;cases hx
 obtain⟨b,off,rfl,hbB,hcell⟩:=hr.ints hpl
 rw [List.getElem?_eq_getElem hpl] at hx
 cases hx
 generalize zs[p]=x at hcell ⊢
 have hbw:b < w.heap.size:=by omega
 have hpn:p < n:=by omega
 have HB0:=hid hb
 have HP:=hid hp
 clear hb hp hr hn
 go_enter Tryz.func106,Tryz.ntmps106
 go_wp2_with (go_at_call 139;((with_reducible refine (pos_yes H W C _ n k h v c p HB0.out HP.out _).mono ?_);(rintro e w1 ⟨rfl,hb⟩;obtain⟨hc,hf⟩:=Kit.bcell hb;have hz:w.heap.size < w1.heap.size:=Zbb;have hcl:w1.cell? ⟨b,off+p,none⟩=some (.int .i8 x):=((hb.cell (p:=⟨b,off+p,none⟩) Zba).trans ((World.cell?_alloc_lt _ _ _ hbw).trans hcell));have HB:=hid (show Below w.heap.size w w1 from Below.trans (by go_grown) (hb.mono Zb7));clear hb)))
 go_ret2
 exact⟨rfl,HB.out⟩
end CTensor
end
end Go.Proofs.YtchpdhhpkljdhaaGreatDoor
