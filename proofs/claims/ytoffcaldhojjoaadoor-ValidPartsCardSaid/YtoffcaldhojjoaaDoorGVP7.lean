/- -/
import Derived.Deep.CutRange
import Derived.Test.YtoffcaldhojjoaaDoorGVP6
open Nat (le_refl lt_of_succ_lt lt_succ_self)
set_option linter.unusedVariables false
set_option linter.unusedSimpArgs false
set_option maxRecDepth 100000
set_option maxHeartbeats 16000000
namespace Go.Proofs.YtoffcaldhojjoaaDoor
namespace CConv
end CConv
namespace CFix
end CFix
namespace CSat
end CSat
namespace CShape
end CShape
namespace CTensor
end CTensor
open Go Go.ChangeShapes Go.WideShapes Go.ChangeAt Go.RowKit Go.Deep
section
namespace CConv
open Go Go.ChangeShapes Go.WideShapes Go.ChangeAt Go.RowKit
open Plain CSat CShape CTensor
def psum (G:Nat→Int):Nat→Int
 | 0=>0
 | n+1=>psum G n+G n
theorem psum_bd {G:Nat→Int} {b:Int} {n:Nat} (h:∀ k,k < n → -b≤G k∧G k≤b) : -(b * n)≤psum G n∧psum G n≤b * n:=by
 induction n with
 | zero=>simp [psum]
 | succ n ih =>
   have h1:=ih (fun k hk=>h k (by omega))
   have h2:=h n (by omega)
   have e:b * ((n+1:Nat):Int)=b * (n:Int)+b:=by rw [show ((n+1:Nat):Int)=(n:Int)+1 by omega,Int.mul_add,Int.mul_one]
   rw [e]
   simp only [psum]
   omega
theorem term_bd {x y z:Int} (x1 : -128≤x) (x2:x≤127) (y1 : -128≤y) (y2:y≤127) (z1 : -128≤z) (z2:z≤127) : -32640≤y * (x - z)∧y * (x - z)≤32640:=by
 have h1 : -255≤x - z:=by omega
 have h2:x - z≤255:=by omega
 generalize x - z=u at h1 h2
 have a1:0≤(128+y) * (255 - u):=Int.mul_nonneg (by omega) (by omega)
 have a2:0≤(128+y) * (255+u):=Int.mul_nonneg (by omega) (by omega)
 have a3:0≤(127 - y) * (255 - u):=Int.mul_nonneg (by omega) (by omega)
 have a4:0≤(127 - y) * (255+u):=Int.mul_nonneg (by omega) (by omega)
 simp only [Int.add_mul,Int.sub_mul,Int.mul_sub,Int.mul_add] at a1 a2 a3 a4
 omega
def I8b (zs:List Int):Prop:=∀ q, -128≤zs.getD q 0∧zs.getD q 0≤127
theorem ints_getD {w:World} {B:Nat} {A:Option Addr} {k:IntKind} {zs:List Int} (h:Kit.Rd w B A (zs.map (.int k))) {j:Nat} (hj:j < zs.length) :
  ∃ b off,A=some ⟨b,off,none⟩∧b < B∧∀ i,i < zs.length→w.cell? ⟨b,off+i,none⟩=some (.int k (zs.getD i 0)):=by
 obtain⟨b,off,e,hb,hc⟩:=h.plain (by simp;omega)
 exact⟨b,off,e,hb,fun i hi=>hc i _ (by simp [List.getD_eq_getElem?_getD,List.getElem?_eq_getElem hi])⟩
def zao (B:Nat) (x0 x1 x2 x8 x11 x12 x13 x14 x15 x16 x17 x18:Value) (K S P O Z:Int) (WA BA:Option Addr) (nW cW nB cB:Nat) (wd:World):Prop:=wd.rangeAt B 0 [x0,x1,x2,.int .i64 K,.int .i64 S,.int .i64 P,.int .i64 O,.int .i8 Z,x8,.slice WA nW cW,.slice BA nB cB,x11,x12,x13,x14,x15,x16,x17,x18]
theorem zao.new (x0 x1 x2 x8 x11 x12 x13 x14 x15 x16 x17 x18:Value) (K S P O Z:Int) (WA BA:Option Addr) (nW cW nB cB:Nat) (T:TypeId) (w:World):zao w.heap.size x0 x1 x2 x8 x11 x12 x13 x14 x15 x16 x17 x18 K S P O Z WA BA nW cW nB cB (w.alloc (.cells #[x0,x1,x2,.int .i64 K,.int .i64 S,.int .i64 P,.int .i64 O,.int .i8 Z,x8,.slice WA nW cW,.slice BA nB cB,x11,x12,x13,x14,x15,x16,x17,x18] T)):=fun j v hj=>by
 rw [Nat.zero_add,Kit.zac]
 simpa using hj
theorem zao.below {B B':Nat} {x0 x1 x2 x8 x11 x12 x13 x14 x15 x16 x17 x18:Value} {K S P O Z:Int} {WA BA:Option Addr} {nW cW nB cB:Nat} {w w':World} (h:zao B x0 x1 x2 x8 x11 x12 x13 x14 x15 x16 x17 x18 K S P O Z WA BA nW cW nB cB w) (hB:B < B') (hb:Below B' w w'):zao B x0 x1 x2 x8 x11 x12 x13 x14 x15 x16 x17 x18 K S P O Z WA BA nW cW nB cB w':=fun j v hj =>
 (hb.cell (p:=⟨B,0+j,none⟩) hB).trans (h j v hj)
theorem zao.at {B:Nat} {x0 x1 x2 x8 x11 x12 x13 x14 x15 x16 x17 x18:Value} {K S P O Z:Int} {WA BA:Option Addr} {nW cW nB cB:Nat} {w:World} (h:zao B x0 x1 x2 x8 x11 x12 x13 x14 x15 x16 x17 x18 K S P O Z WA BA nW cW nB cB w) (i:Nat) (v:Value) (hi:([x0,x1,x2,.int .i64 K,.int .i64 S,.int .i64 P,.int .i64 O,.int .i8 Z,x8,.slice WA nW cW,.slice BA nB cB,x11,x12,x13,x14,x15,x16,x17,x18]:List Value)[i]?=some v):w.cell? ⟨B,i,none⟩=some v:=by
 have:=h i v hi
 rwa [Nat.zero_add] at this
end CConv
end
section
namespace CKind
open Plain CSat CShape CTensor CConv
structure Nd where
 (kd na nb K S P O Z Y:Int)
 (WA:Option Addr)
 (nW cW:Nat)
 (BA:Option Addr)
 (nB cB:Nat)
 (m1 s1 z1 m2 s2 z2 lo hi:Int)
def Nd.val (x:Nd):Array Value:=#[.int .i64 x.kd,.int .i64 x.na,.int .i64 x.nb,.int .i64 x.K,.int .i64 x.S,.int .i64 x.P,.int .i64 x.O,.int .i8 x.Z,.int .i8 x.Y,.slice x.WA x.nW x.cW,.slice x.BA x.nB x.cB,.int .i32 x.m1,.int .i64 x.s1,.int .i8 x.z1,.int .i32 x.m2,.int .i64 x.s2,.int .i8 x.z2,.int .i8 x.lo,.int .i8 x.hi]
def za9 (k:Int):Bool:=k == 1 || k == 2 || k == 3 || k == 6 || k == 7
def sumsB (k:Int):Bool:=k == 1 || k == 2 || k == 3
def slidesB (k:Int):Bool:=k == 1 || k == 2 || k == 4 || k == 5
def Nd.moreB (x:Nd):Bool :=
 (!sumsB x.kd && (decide (0 < x.nW) || decide (0 < x.nB))) || (x.kd != 1 && x.kd != 3 && x.O != 0) || (!slidesB x.kd && (x.K != 0 || x.S != 0)) || (!slidesB x.kd && x.kd != 8 && x.P != 0) ||
 (x.kd != 6 && (x.nb != 0 || x.Y != 0 || x.m2 != 0 || x.s2 != 0)) || x.z2 != 0 || (!za9 x.kd && (x.m1 != 0 || x.s1 != 0 || x.z1 != 0 || x.lo != 0 || x.hi != 0)) || (!za9 x.kd && x.kd != 8 && x.Z != 0)
def NdAt (g:Nat) (x:Nd) (w:World):Prop:=w.rangeAt g 0 x.val.toList
theorem NdAt.at {g:Nat} {x:Nd} {w:World} (h:NdAt g x w) (i:Nat) (v:Value) (hi:x.val.toList[i]?=some v):w.cell? ⟨g,i,none⟩=some v:=by
 have:=h i v hi
 rwa [Nat.zero_add] at this
theorem NdAt.below {g B:Nat} {x:Nd} {w w':World} (h:NdAt g x w) (hB:g < B) (hb:Below B w w'):NdAt g x w':=fun j v hj=>(hb.cell (p:=⟨g,0+j,none⟩) hB).trans (h j v hj)
theorem NdAt.new (x:Nd) (T:TypeId) (w:World):NdAt w.heap.size x (w.alloc (.cells x.val T)):=fun j v hj=>by
 rw [Nat.zero_add,Kit.zac]
 simpa using hj
end CKind
end
section
namespace CKind
open Plain CSat CFix CShape CTensor CConv
def kname (k:Int):ByteArray :=
 if k=1 then ⟨#[99,111,110,118]⟩ else if k=2 then ⟨#[100,101,112,116,104]⟩ else if k=3 then ⟨#[100,101,110,115,101]⟩ else if k=4 then ⟨#[109,97,120,112,111,111,108]⟩ else if k=5 then ⟨#[97,118,103,112,111,111,108]⟩ else if k=6 then ⟨#[106,111,105,110]⟩ else if k=7 then ⟨#[97,99,116]⟩ else if k=8 then ⟨#[112,97,100]⟩ else if k=9 then ⟨#[102,108,97,116]⟩ else ⟨#[]⟩
theorem kname_no {k:Int} (h:k < 1∨9 < k):kname k=⟨#[]⟩:=by
 unfold kname
 simp only [show ¬ k=1 by omega,show ¬ k=2 by omega,show ¬ k=3 by omega,show ¬ k=4 by omega,show ¬ k=5 by omega,show ¬ k=6 by omega,show ¬ k=7 by omega,show ¬ k=8 by omega,show ¬ k=9 by omega,if_false]
end CKind
end
section
namespace CKind
open Plain CSat CShape CTensor CConv
def NdBox (b:Nat) (x:Nd) (w:World):Prop:=NdAt b x w∧w.there b 0 19
theorem NdBox.new (x:Nd) (T:TypeId) (w:World):NdBox w.heap.size x (w.alloc (.cells x.val T)):=by
 refine⟨NdAt.new x T w,fun j hj=>?_⟩
 rw [Nat.zero_add]
 constructor
 ·rw [Kit.zac]
  have:j < x.val.size:=hj
  simp [this]
 ·unfold World.frozen?;rw [heap_alloc_new];rfl
theorem NdBox.below {b B:Nat} {x:Nd} {w w':World} (h:NdBox b x w) (hB:b < B) (hb:Below B w w'):NdBox b x w' :=
 ⟨h.1.below hB hb,fun j hj=>⟨by rw [hb.cell (p:=⟨b,0+j,none⟩) hB];exact (h.2 j hj).1,by rw [hb.frozen (p:=⟨b,0+j,none⟩) hB];exact (h.2 j hj).2⟩⟩
theorem NdBox.set {b:Nat} {x y:Nd} {w:World} (h:NdBox b x w) (i:Nat) (v:Value) (hi:i < 19) (hy:x.val.toList.set i v=y.val.toList):NdBox b y (w.setCell ⟨b,i,none⟩ v):=by
 have hc:=(h.2 i hi).1
 rw [Nat.zero_add] at hc
 refine⟨fun j u hj=>?_,fun j hj=>⟨?_,?_⟩⟩
 ·rw [Nat.zero_add]
  rw [← hy,List.getElem?_set] at hj
  by_cases e:i=j
  ·subst e
   rw [if_pos rfl,if_pos (show i < x.val.toList.length from hi)] at hj
   cases hj
   exact World.cell?_setCell_same' _ _ _ hc
  ·rw [if_neg e] at hj
   rw [World.cell?_setCell_other _ _ _ _ (fun hh=>e (by injection hh))]
   have:=h.1 j u hj
   rwa [Nat.zero_add] at this
 ·rw [Nat.zero_add]
  by_cases e:i=j
  ·subst e
   rw [World.cell?_setCell_same' _ _ _ hc];rfl
  ·rw [World.cell?_setCell_other _ _ _ _ (fun hh=>e (by injection hh))]
   have:=(h.2 j hj).1
   rwa [Nat.zero_add] at this
 ·rw [World.frozen?_setCell];exact (h.2 j hj).2
theorem NdBox.fr {b:Nat} {x:Nd} {w:World} (h:NdBox b x w) (i:Nat) (hi:i < 19):w.frozen? ⟨b,i,none⟩=false:=by
 have:=(h.2 i hi).2
 rwa [Nat.zero_add] at this
theorem info_node:(Tryd.prog.info? 67).map (·.size)=some 19:=by kernel_rfl
theorem nd_one (x:Nd):x.val.all (·.oneCell')=true:=by simp [Nd.val,Value.oneCell']
theorem zal {ops:Array Oper} {rest:List Oper} {op:Oper} {a:Act} {w:World} {Q:Exit→Act→World→Prop} (hgd:op.guard=none) (x y:Operand) (ho:op.op=.store 67 x y)
  (b:Nat) (u v:Nd) (hx:a.eval x=.pointer (some ⟨b,0,none⟩)) (hy:a.eval y=.agg v.val) (hb:NdBox b u w)
  (h:∀ w',NdBox b v w'→Below b w w'→w'.heap.size=w.heap.size→wpList Tryd.prog ops Q rest (a.put op.dst undef) w'):wpList Tryd.prog ops Q (op :: rest) a w:=by
 refine wpList_store_mid hgd 67 x y ho b 0 v.val hx hy hb.2 info_node (nd_one v) ?_
 have go:∀ (vs:List Value) (o:Nat) (w:World),Below b w (w.setCells b o vs)∧(w.setCells b o vs).heap.size=w.heap.size:=by
  intro vs
  induction vs with
  | nil=>intro o w;exact⟨Below.refl _ _,rfl⟩
  | cons v vs ih=>intro o w;exact⟨((Below.refl b w).setCell (p:=⟨b,o,none⟩) (le_refl _) v).trans (ih (o+1) _).1,(ih (o+1) (w.setCell ⟨b,o,none⟩ v)).2.trans (by simp [World.setCell])⟩
 exact h _ ⟨World.rangeAt_setCells_same _ _ _ _ hb.2,World.there_setCells hb.2 _ _ _⟩ (go _ _ _).1 (go _ _ _).2
theorem zab {ops:Array Oper} {rest:List Oper} {op:Oper} {a:Act} {w:World} {Q:Exit→Act→World→Prop} (hgd:op.guard=none) (x:Operand) (ho:op.op=.load 67 x)
  (b:Nat) (u:Nd) (hx:a.eval x=.pointer (some ⟨b,0,none⟩)) (hb:NdAt b u w)
  (h:wpList Tryd.prog ops Q rest (a.put op.dst (.agg u.val)) w):wpList Tryd.prog ops Q (op :: rest) a w :=
 wpList_load_mid hgd 67 x ho b 0 hx u.val.toList _ hb Tryd.underlying67 rfl (by kernel_rfl) h
theorem zba {fn:Func} {p:Tmp} (h:fn.results=#[.cell p 67]) (tmps:Array Value) (w:World) (b:Nat) (x:Nd) (hp:tmps.getD p undef=.pointer (some ⟨b,0,none⟩)) (hb:NdAt b x w) :
  (results fn tmps).run Tryd.prog w=.ok (.agg x.val) w :=
 Kit.zaq h tmps w b 0 x.val.toList _ hp hb Tryd.underlying67 rfl (by kernel_rfl)
theorem zbp (a b c x y z:Int) (w:World):(Op.equalIn 10000 65 (.agg #[.int .i32 a,.int .i64 b,.int .i8 c]) (.agg #[.int .i32 x,.int .i64 y,.int .i8 z])).run Tryd.prog w=.ok (a == x && (b == y && c == z)) w:=by
 have u1:=Tryd.underlying21
 have a1:=Tryd.isAgg21
 have z1:=Tryd.sizeOf21
 have u2:=Tryd.underlying59
 have a2:=Tryd.isAgg59
 have z2:=Tryd.sizeOf59
 have u3:=Tryd.underlying3
 have a3:=Tryd.isAgg3
 have z3:=Tryd.sizeOf3
 have hS:Tryd.prog.underlying 65=some (.struct (Tryd.prog.fieldsOf 65)):=by kernel_rfl
 rw [show (10000:Nat)=9999+1 from rfl,run_equalIn_agg w 9999 65 _ _ hS Tryd.stoodInHeld65]
 simp only [Program.fieldsOf,Tryd.underlying65]
 go_simp
 by_cases h1:a=x <;> by_cases h2:b=y <;> by_cases h3:c=z <;> simp [h1,h2,h3]
end CKind
end
section
namespace CSpan
open Go Go.ChangeShapes Go.WideShapes Go.ChangeAt Go.RowKit
open Plain CSat CFix CShape CTensor CConv
theorem res_2 {fn:Func} {a b:Tmp} (h:fn.results=#[.tmp a,.tmp b]) (tmps:Array Value) (P:Program) (w:World):(results fn tmps).run P w=.ok (.tuple #[tmps.getD a undef,tmps.getD b undef]) w:=by
 simp [results,h]
def dnF (ws:List Int) (lo hi z:Int) (g:Bool) (k:Nat):Int :=
 if g then min (min (ws.getD k 0 * (lo - z)) (ws.getD k 0 * (hi - z))) 0 else min (ws.getD k 0 * (lo - z)) (ws.getD k 0 * (hi - z))
def upF (ws:List Int) (lo hi z:Int) (g:Bool) (k:Nat):Int :=
 if g then max (max (ws.getD k 0 * (lo - z)) (ws.getD k 0 * (hi - z))) 0 else max (ws.getD k 0 * (lo - z)) (ws.getD k 0 * (hi - z))
theorem mul_255 {y v z:Int} (h1 : -128≤y) (h2:y≤127) (h3 : -128≤v) (h4:v≤127) (h5 : -128≤z) (h6:z≤127) : -32640≤y * (v - z)∧y * (v - z)≤32640:=term_bd h3 h4 h1 h2 h5 h6
theorem dnF_bd {ws:List Int} (hw:I8b ws) {lo hi z:Int} (l1 : -128≤lo) (l2:lo≤127) (h1 : -128≤hi) (h2:hi≤127) (z1 : -128≤z) (z2:z≤127) (g:Bool) (k:Nat) : -32640≤dnF ws lo hi z g k∧dnF ws lo hi z g k≤32640:=by
 obtain⟨a,b⟩:=hw k
 have p:=mul_255 a b l1 l2 z1 z2
 have q:=mul_255 a b h1 h2 z1 z2
 unfold dnF
 split <;> omega
theorem upF_bd {ws:List Int} (hw:I8b ws) {lo hi z:Int} (l1 : -128≤lo) (l2:lo≤127) (h1 : -128≤hi) (h2:hi≤127) (z1 : -128≤z) (z2:z≤127) (g:Bool) (k:Nat) : -32640≤upF ws lo hi z g k∧upF ws lo hi z g k≤32640:=by
 obtain⟨a,b⟩:=hw k
 have p:=mul_255 a b l1 l2 z1 z2
 have q:=mul_255 a b h1 h2 z1 z2
 unfold upF
 split <;> omega
end CSpan
end
end Go.Proofs.YtoffcaldhojjoaaDoor
