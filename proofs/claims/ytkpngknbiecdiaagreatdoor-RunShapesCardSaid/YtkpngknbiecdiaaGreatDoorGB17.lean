/- Texts of this seat, one behind the other: KindBox, KindName, TensorSame, ConvBoth, LaneWts, LaneErr. -/
import Derived.Deep.MidRow
import Derived.Deep.CutRange
import Derived.BigQuiet
import Derived.Test.YtkpngknbiecdiaaGreatDoorGB1
import Derived.Test.YtkpngknbiecdiaaGreatDoorGB3
import Derived.Test.YtkpngknbiecdiaaGreatDoorGB5
import Derived.Test.YtkpngknbiecdiaaGreatDoorGB7
import Derived.Test.YtkpngknbiecdiaaGreatDoorGB8
import Derived.Test.YtkpngknbiecdiaaGreatDoorGB11
import Derived.Test.YtkpngknbiecdiaaGreatDoorGB14
import Derived.Test.YtkpngknbiecdiaaGreatDoorGB16
section
namespace Go.Proofs.YtkpngknbiecdiaaGreatDoor.CKind
open Go Go.ChangeShapes Go.WideShapes Go.ChangeAt Go.RowKit Go.Deep
open Plain CSat CShape CTensor CConv
set_option linter.unusedVariables false
set_option linter.unusedSimpArgs false
def NdBox (b:Nat) (x:Nd) (w:World):Prop:=NdAt b x w∧w.there b 0 19
theorem NdBox.new (x:Nd) (T:TypeId) (w:World):NdBox w.heap.size x (w.alloc (.cells x.val T)):=by
 refine⟨NdAt.new x T w,fun j hj=>?_⟩
 rw [Nat.zero_add]
 constructor
 ·rw [Kit.new_cell]
  have:j < x.val.size:=hj
  simp [this]
 ·unfold World.frozen?;rw [heap_alloc_new];rfl
theorem NdBox.below {b B:Nat} {x:Nd} {w w':World} (h:NdBox b x w) (hB:b < B) (hb:Below B w w'):NdBox b x w' :=
 ⟨h.1.below hB hb,fun j hj=>⟨by rw [hb.cell (p:=⟨b,0+j,none⟩) hB];exact (h.2 j hj).1,by rw [hb.frozen (p:=⟨b,0+j,none⟩) hB];exact (h.2 j hj).2⟩⟩
theorem NdBox.set {b:Nat} {x y:Nd} {w:World} (h:NdBox b x w) (i:Nat) (v:Value) (hi:i < 19) (hy:x.val.toList.set i v=y.val.toList):NdBox b y (w.setCell ⟨b,i,none⟩ v):=by
 have hc:=(h.2 i hi).1
 rw [Nat.zero_add] at hc
 refine⟨fun j u hj=>?_,fun j hj=>⟨?_,?_⟩⟩
 ·rw [Nat.zero_add]
  rw [← hy,List.getElem?_set] at hj
  by_cases e:i=j
  ·subst e
   rw [if_pos rfl,if_pos (show i < x.val.toList.length from hi)] at hj
   cases hj
   exact World.cell?_setCell_same' _ _ _ hc
  ·rw [if_neg e] at hj
   rw [World.cell?_setCell_other _ _ _ _ (fun hh=>e (by injection hh))]
   have:=h.1 j u hj
   rwa [Nat.zero_add] at this
 ·rw [Nat.zero_add]
  by_cases e:i=j
  ·subst e
   rw [World.cell?_setCell_same' _ _ _ hc];rfl
  ·rw [World.cell?_setCell_other _ _ _ _ (fun hh=>e (by injection hh))]
   have:=(h.2 j hj).1
   rwa [Nat.zero_add] at this
 ·rw [World.frozen?_setCell];exact (h.2 j hj).2
theorem NdBox.fr {b:Nat} {x:Nd} {w:World} (h:NdBox b x w) (i:Nat) (hi:i < 19):w.frozen? ⟨b,i,none⟩=false:=by
 have:=(h.2 i hi).2
 rwa [Nat.zero_add] at this
theorem info_node:(Tryz.prog.info? 28).map (·.size)=some 19:=by kernel_rfl
theorem nd_one (x:Nd):x.val.all (·.oneCell')=true:=by simp [Nd.val,Value.oneCell']
theorem nd_store {ops:Array Oper} {rest:List Oper} {op:Oper} {a:Act} {w:World} {Q:Exit→Act→World→Prop} (hgd:op.guard=none) (x y:Operand) (ho:op.op=.store 28 x y)
  (b:Nat) (u v:Nd) (hx:a.eval x=.pointer (some ⟨b,0,none⟩)) (hy:a.eval y=.agg v.val) (hb:NdBox b u w)
  (h:∀ w',NdBox b v w'→Below b w w'→w'.heap.size=w.heap.size→wpList Tryz.prog ops Q rest (a.put op.dst undef) w'):wpList Tryz.prog ops Q (op :: rest) a w:=by
 refine wpList_store_mid hgd 28 x y ho b 0 v.val hx hy hb.2 info_node (nd_one v) ?_
 have go:∀ (vs:List Value) (o:Nat) (w:World),Below b w (w.setCells b o vs)∧(w.setCells b o vs).heap.size=w.heap.size:=by
  intro vs
  induction vs with
  | nil=>intro o w;exact⟨Below.refl _ _,rfl⟩
  | cons v vs ih=>intro o w;exact⟨((Below.refl b w).setCell (p:=⟨b,o,none⟩) (Nat.le_refl _) v).trans (ih (o+1) _).1,(ih (o+1) (w.setCell ⟨b,o,none⟩ v)).2.trans (by simp [World.setCell])⟩
 exact h _ ⟨World.rangeAt_setCells_same _ _ _ _ hb.2,World.there_setCells hb.2 _ _ _⟩ (go _ _ _).1 (go _ _ _).2
theorem nd_load {ops:Array Oper} {rest:List Oper} {op:Oper} {a:Act} {w:World} {Q:Exit→Act→World→Prop} (hgd:op.guard=none) (x:Operand) (ho:op.op=.load 28 x)
  (b:Nat) (u:Nd) (hx:a.eval x=.pointer (some ⟨b,0,none⟩)) (hb:NdAt b u w)
  (h:wpList Tryz.prog ops Q rest (a.put op.dst (.agg u.val)) w):wpList Tryz.prog ops Q (op :: rest) a w :=
 wpList_load_mid hgd 28 x ho b 0 hx u.val.toList _ hb Tryz.underlying28 rfl (by kernel_rfl) h
theorem nd_result {fn:Func} {p:Tmp} (h:fn.results=#[.cell p 28]) (tmps:Array Value) (w:World) (b:Nat) (x:Nd) (hp:tmps.getD p undef=.pointer (some ⟨b,0,none⟩)) (hb:NdAt b x w) :
  (results fn tmps).run Tryz.prog w=.ok (.agg x.val) w :=
 Kit.results_c h tmps w b 0 x.val.toList _ hp hb Tryz.underlying28 rfl (by kernel_rfl)
end Go.Proofs.YtkpngknbiecdiaaGreatDoor.CKind
end
section
namespace Go.Proofs.YtkpngknbiecdiaaGreatDoor.CKind
open Go Go.ChangeShapes Go.WideShapes Go.ChangeAt Go.RowKit Go.Deep
open Plain CSat CFix CShape CTensor CConv
set_option linter.unusedVariables false
set_option linter.unusedSimpArgs false
def kname (k:Int):ByteArray :=
 if k=1 then ⟨#[99,111,110,118]⟩ else if k=2 then ⟨#[100,101,112,116,104]⟩ else if k=3 then ⟨#[100,101,110,115,101]⟩ else if k=4 then ⟨#[109,97,120,112,111,111,108]⟩ else if k=5 then ⟨#[97,118,103,112,111,111,108]⟩ else if k=6 then ⟨#[106,111,105,110]⟩ else if k=7 then ⟨#[97,99,116]⟩ else if k=8 then ⟨#[112,97,100]⟩ else if k=9 then ⟨#[102,108,97,116]⟩ else ⟨#[]⟩
theorem kname_no {k:Int} (h:k < 1∨9 < k):kname k=⟨#[]⟩:=by
 unfold kname
 simp only [show ¬ k=1 by omega,show ¬ k=2 by omega,show ¬ k=3 by omega,show ¬ k=4 by omega,show ¬ k=5 by omega,show ¬ k=6 by omega,show ¬ k=7 by omega,show ¬ k=8 by omega,show ¬ k=9 by omega,if_false]
end Go.Proofs.YtkpngknbiecdiaaGreatDoor.CKind
end
section
namespace Go.Proofs.YtkpngknbiecdiaaGreatDoor.CTensor
open Go Go.ChangeShapes Go.WideShapes Go.ChangeAt Go.RowKit
open Plain CSat CShape
set_option linter.unusedVariables false
theorem eqShape (a b c x y z:Int) (w:World):(Op.equalIn 10000 30 (.agg #[.int .i64 a,.int .i64 b,.int .i64 c]) (.agg #[.int .i64 x,.int .i64 y,.int .i64 z])).run Tryz.prog w=.ok (a == x && (b == y && c == z)) w:=by
 have u3:=Tryz.underlying3
 have a3:=Tryz.isAgg3
 have z3:=Tryz.sizeOf3
 have hS:Tryz.prog.underlying 30=some (.struct (Tryz.prog.fieldsOf 30)):=by kernel_rfl
 rw [show (10000:Nat)=9999+1 from rfl,run_equalIn_agg w 9999 30 _ _ hS Tryz.stoodInHeld30]
 simp only [Program.fieldsOf,Tryz.underlying30]
 go_simp
 by_cases h1:a=x <;> by_cases h2:b=y <;> by_cases h3:c=z <;> simp [h1,h2,h3]
theorem differ {xs ys:List Int} {k:Nat} (h1:k < xs.length) (h2:k < ys.length) (h:¬ xs[k]=ys[k]):decide (xs=ys)=false:=by
 simp only [decide_eq_false_iff_not]
 intro e
 subst e
 exact h rfl
end Go.Proofs.YtkpngknbiecdiaaGreatDoor.CTensor
end
section
namespace Go.Proofs.YtkpngknbiecdiaaGreatDoor.CConv
open Go Go.ChangeShapes Go.WideShapes Go.ChangeAt Go.RowKit
open Plain CSat CShape CTensor
set_option linter.unusedVariables false
theorem few_yes (H W C:Int) (A:Option Addr) (n c:Nat) (x0 x1 x2 x8 x11 x12 x13 x14 x15 x16 x17 x18:Value) (K S P O Z:Int) (WA BA:Option Addr) (nW cW nB cB:Nat) (h1:n≤1024) (h2:nW≤2000) (h3:nB≤200) (w:World) :
  Calls Tryz.prog 6 #[.agg #[.int .i64 H,.int .i64 W,.int .i64 C,.slice A n c],.agg #[x0,x1,x2,.int .i64 K,.int .i64 S,.int .i64 P,.int .i64 O,.int .i8 Z,x8,.slice WA nW cW,.slice BA nB cB,x11,x12,x13,x14,x15,x16,x17,x18]] w fun e w'=>e=.returned (.bool true)∧Below w.heap.size w w':=by
 have i1:(n:Int)≤1024:=by omega
 have i2:(nW:Int)≤2000:=by omega
 have i3:(nB:Int)≤200:=by omega
 go_enter Tryz.func6,Tryz.ntmps6
 go_wp2_with fail
 go_ret
 exact⟨rfl,((Below.refl _ _).alloc (Nat.le_refl _) _).alloc (by simp) _⟩
theorem few_no (H W C:Int) (A:Option Addr) (n c:Nat) (x0 x1 x2 x8 x11 x12 x13 x14 x15 x16 x17 x18:Value) (K S P O Z:Int) (WA BA:Option Addr) (nW cW nB cB:Nat) (h:¬ (n≤1024∧nW≤2000∧nB≤200)) (w:World) :
  Calls Tryz.prog 6 #[.agg #[.int .i64 H,.int .i64 W,.int .i64 C,.slice A n c],.agg #[x0,x1,x2,.int .i64 K,.int .i64 S,.int .i64 P,.int .i64 O,.int .i8 Z,x8,.slice WA nW cW,.slice BA nB cB,x11,x12,x13,x14,x15,x16,x17,x18]] w fun e w'=>e=.returned (.bool false)∧Below w.heap.size w w':=by
 rcases (show (1024:Int) < n∨((n:Int)≤1024∧(2000:Int) < nW)∨((n:Int)≤1024∧(nW:Int)≤2000∧(200:Int) < nB) by omega) with i1 | ⟨i1,i2⟩ | ⟨i1,i2,i3⟩
 all_goals
  clear h
  go_enter Tryz.func6,Tryz.ntmps6
  go_wp2_with fail
  go_ret
  exact⟨by first | rfl | exact congrArg (fun b=>Ending.returned (Value.bool b)) (decide_eq_false (by omega)),((Below.refl _ _).alloc (Nat.le_refl _) _).alloc (by simp) _⟩
end Go.Proofs.YtkpngknbiecdiaaGreatDoor.CConv
end
section
namespace Go.Proofs.YtkpngknbiecdiaaGreatDoor.CLane
open Go Go.ChangeShapes Go.WideShapes Go.ChangeAt Go.RowKit
open Plain CSat CShape CTensor CConv FloatNum CFour CWheel
set_option linter.unusedVariables false
def W3 (W:Nat→Nat→Int) (k:Nat) (F:List Value):Prop :=
 F.length=k * 3∧∀ j i,j < k→i < 3→F[j * 3+i]?=some (.int .i8 (W j i))
theorem W3.start (W:Nat→Nat→Int):W3 W 0 []:=⟨rfl,fun j i hj=>by omega⟩
theorem W3.step {W:Nat→Nat→Int} {k:Nat} {F:List Value} (h:W3 W k F) {a b c:Int} (ha:W k 0=a) (hb:W k 1=b) (hc:W k 2=c):W3 W (k+1) (F ++ [.int .i8 a,.int .i8 b,.int .i8 c]):=by
 obtain⟨h1,h3⟩:=h
 refine⟨by simp [h1];omega,fun j i hj hi=>?_⟩
 rcases Nat.lt_or_ge j k with hjk | hjk
 ·rw [List.getElem?_append_left (by rw [h1];omega)]
  exact h3 j i hjk hi
 ·obtain rfl:j=k:=by omega
  rw [List.getElem?_append_right (by rw [h1];omega),h1,show j * 3+i - j * 3=i by omega]
  obtain rfl | rfl | rfl:i=0∨i=1∨i=2:=by omega
  ·rw [ha];rfl
  ·rw [hb];rfl
  ·rw [hc];rfl
theorem wts_of {w:World} {base n:Nat} {e:TypeId} {v:Value} {W:Nat→Nat→Int} {F:List Value} (hF:W3 W n F) (ho:w.ownsRow base e 3 v n F):∃ A c,v=.slice A n c∧Wts w w.heap.size A n W:=by
 rcases Nat.eq_zero_or_pos n with h0 | h0
 ·obtain⟨A,c,e, -, -, -⟩:=Kit.own_rd ho
  exact⟨A,c,e,fun k hk=>by omega⟩
 ·obtain⟨g,cap,rfl,_,_,_,hr⟩:=Kit.own_form ho h0
  refine⟨_,_,rfl,fun k hk=>⟨g,0,rfl,Kit.block_lt_of_own ho,fun j v hj=>?_⟩⟩
  have hj3:j < 3:=by
   rcases Nat.lt_or_ge j 3 with h | h
   ·exact h
   ·rw [List.getElem?_eq_none (by simpa using h)] at hj;cases hj
  obtain⟨ad,e,_,hc⟩:=hr (k * 3+j) _ (hF.2 k j hk hj3)
  cases e
  rw [Go.WideShapes.add_plain] at hc
  rw [show 0+k * 3+j=0+(k * 3+j) by omega,hc]
  obtain rfl | rfl | rfl:j=0∨j=1∨j=2:=by omega
  ·simpa using hj
  ·simpa using hj
  ·simpa using hj
theorem one_w3 (a b c:Int):∀ u∈[Value.int .i8 a,.int .i8 b,.int .i8 c],u.oneCell'=true:=by intro v hv;simp at hv;rcases hv with rfl | rfl | rfl <;> rfl
theorem info_w3:(Tryz.prog.info? 154).map (fun i=>(i.zero,i.size,i.bytes))=some (some (.agg #[.int .i8 0,.int .i8 0,.int .i8 0]),3,3):=by kernel_rfl
set_option maxRecDepth 100000 in
set_option maxHeartbeats 8000000 in
theorem weights_to (A1:Option Addr) (n1 c1:Nat) (AP:Option Addr) (nP cP:Nat) (ps:List Int) (hpl:ps.length=nP) (hnP:nP≤100000) (x0 x1 x2 x8 x11 x12 x13 x14 x15 x16 x17 x18:Value) (K S P O Z:Int) (WA BA:Option Addr) (nW cW nB cB:Nat) (ws:List Int) (hws:ws.length=nW) (hwc:nW≤cW) (hcm:cW≤maxLen) (hwb:I8b ws)
  (d o oo:Nat) (hd1:1≤d) (hd2:d≤1024) (ho:o < oo) (hnW:oo * 3 * 3 * d=nW) (hn16:nW≤16384) (hps:∀ q,q < nP→0≤ps.getD q 0∧ps.getD q 0+2 * d < 9 * d)
  (w:World) (hrp:Kit.Rd w w.heap.size AP (I64v ps)) (hrw:Kit.Rd w w.heap.size WA (I8s ws)) :
  Calls Tryz.prog 83 #[.agg #[.slice A1 n1 c1,.slice AP nP cP],.agg #[x0,x1,x2,.int .i64 K,.int .i64 S,.int .i64 P,.int .i64 O,.int .i8 Z,x8,.slice WA nW cW,.slice BA nB cB,x11,x12,x13,x14,x15,x16,x17,x18],.int .i64 (d:Int),.int .i64 (o:Int)] w fun e w'=>∃ AW cV,e=.returned (.slice AW nP cV)∧Wts w' w'.heap.size AW nP (Wl ws (o * 3 * 3 * d) d ps)∧Below w.heap.size w w':=by
 have hle:=place_le (a:=oo) (b:=1) (c:=1) (d:=9 * d) ho (show 0 < 1 by omega) (show 0 < 1 by omega)
 have hb9:o * 3 * 3 * d+9 * d≤nW:=by
  have e1:((o * 1+0) * 1+0) * (9 * d)=o * 3 * 3 * d:=by simp only [Nat.mul_one,Nat.add_zero];rw [← Nat.mul_assoc,Nat.mul_assoc o 3 3]
  have e2:oo * 1 * 1 * (9 * d)=oo * 3 * 3 * d:=by simp only [Nat.mul_one];rw [← Nat.mul_assoc,Nat.mul_assoc oo 3 3]
  rw [e1,e2,hnW] at hle
  exact hle
 have hob:o≤16384:=by
  have h1:o * 1≤o * (3 * 3 * d):=Nat.mul_le_mul_left _ (by omega)
  rw [← Nat.mul_assoc, ← Nat.mul_assoc] at h1
  omega
 obtain⟨bs,hbs⟩:∃ bs,o * 3 * 3 * d=bs:=⟨_,rfl⟩
 rw [hbs] at hb9 ⊢
 have m1:IntKind.i64.wrap ((o:Int) * 3)=((o * 3:Nat):Int):=by rw [IntWalk.i64_in _ (by omega)];omega
 have m2:IntKind.i64.wrap (((o * 3:Nat):Int) * 3)=((o * 3 * 3:Nat):Int):=by rw [IntWalk.i64_in _ (by omega)];omega
 have m3:IntKind.i64.wrap (((o * 3 * 3:Nat):Int) * (d:Int))=(bs:Int):=by rw [← Int.natCast_mul,hbs];exact IntWalk.i64_in _ (by omega)
 generalize o * 3 * 3=o9 at m2 m3 hbs
 generalize o * 3=o3 at m1 m2
 obtain⟨bw,ow,rfl,hbw,hcw⟩:=ints_getD hrw (j:=bs) (by omega)
 have s1:(0:Int)≤(bs:Int):=by omega
 have s2:(bs:Int)≤(nW:Int):=by omega
 have s3:bs≤nW:=by omega
 have s4:¬ cW=bs:=by omega
 obtain⟨mW,hmW⟩:∃ mW,nW - bs=mW:=⟨_,rfl⟩
 have hm9:9 * d≤mW:=by omega
 obtain⟨i3,hc0,hc1,hc2,hc3⟩:=info_parts info_w3
 have HPL:=Lib.hid hpl
 have HPS:=Lib.hid hps
 have HCW:=Lib.hid hcw
 have HB9:=Lib.hid hb9
 have HRP:=Lib.hid hrp
 have HWS:=Lib.hid hws
 have HWB:=Lib.hid hwb
 clear hpl hps hcw hb9 hrp hrw hws hwb hle hnW hbs ho
 go_enter Tryz.func83,Tryz.ntmps83
 go_upto_region 2 with fail
 have hNd:NodeAt (w.heap.size+1) x0 x1 x2 x8 x11 x12 x13 x14 x15 x16 x17 x18 K S P O Z (some ⟨bw,ow,none⟩) BA nW cW nB cB ((w.alloc (.cells #[.slice A1 n1 c1,.slice AP nP cP] 108)).alloc (.cells #[x0,x1,x2,.int .i64 K,.int .i64 S,.int .i64 P,.int .i64 O,.int .i8 Z,x8,.slice (some ⟨bw,ow,none⟩) nW cW,.slice BA nB cB,x11,x12,x13,x14,x15,x16,x17,x18] 28)):=by
  have h9:=NodeAt.new x0 x1 x2 x8 x11 x12 x13 x14 x15 x16 x17 x18 K S P O Z (some ⟨bw,ow,none⟩) BA nW cW nB cB 28 (w.alloc (.cells #[.slice A1 n1 c1,.slice AP nP cP] 108))
  simpa using h9
 have hL1:((w.alloc (.cells #[.slice A1 n1 c1,.slice AP nP cP] 108)).alloc (.cells #[x0,x1,x2,.int .i64 K,.int .i64 S,.int .i64 P,.int .i64 O,.int .i8 Z,x8,.slice (some ⟨bw,ow,none⟩) nW cW,.slice BA nB cB,x11,x12,x13,x14,x15,x16,x17,x18] 28)).cell? ⟨w.heap.size,1,none⟩=some (.slice AP nP cP):=by go_cell
 have hB:Below w.heap.size w ((w.alloc (.cells #[.slice A1 n1 c1,.slice AP nP cP] 108)).alloc (.cells #[x0,x1,x2,.int .i64 K,.int .i64 S,.int .i64 P,.int .i64 O,.int .i8 Z,x8,.slice (some ⟨bw,ow,none⟩) nW cW,.slice BA nB cB,x11,x12,x13,x14,x15,x16,x17,x18] 28)):=((Below.refl _ _).alloc (Nat.le_refl _) _).alloc (by simp) _
 have n9:=hNd.at 9 _ rfl
 clear hNd
 generalize ((w.alloc (.cells #[.slice A1 n1 c1,.slice AP nP cP] 108)).alloc (.cells #[x0,x1,x2,.int .i64 K,.int .i64 S,.int .i64 P,.int .i64 O,.int .i8 Z,x8,.slice (some ⟨bw,ow,none⟩) nW cW,.slice BA nB cB,x11,x12,x13,x14,x15,x16,x17,x18] 28))=w0 at n9 hL1 hB ⊢
 have HB:=Lib.hid hB
 clear hB
 go_upto_region 3 with fail
 go_upto_region 4 with fail
 try rw [hmW]
 clear m1 m2 m3 n9 hL1 hmW
 have HF0:=Lib.hid (W3.start (Wl ws bs d ps))
 have HO0:=Lib.hid (own_nil w0 w.heap.size 154 3)
 go_loopw [9,24] (fun v u wr=>∃ (k:Nat) (F:List Value),k≤nP∧u=.int .i64 k∧Hid (W3 (Wl ws bs d ps) k F)∧Hid (wr.ownsRow w.heap.size 154 3 v k F)∧Hid (Below w.heap.size w wr)) (fun _ u _=>nP - (intOf u).toNat)
 case atStart=>exact⟨0,_,Nat.zero_le _,rfl,HF0,HO0,HB⟩
 case round =>
  clear HF0 HO0 HB
  obtain⟨k,F,hk,rfl,HF,HOW,HB⟩:=hrel
  obtain⟨Av,cv,rfl, -, -, -⟩:=Kit.own_rd HOW.out
  by_cases hlt:k < nP
  ·have hki:(k:Int) < (nP:Int):=by omega
   have hk0:(0:Int)≤(k:Int):=by omega
   obtain⟨bp,op,rfl,hbp,hcp⟩:=ints_getD (HRP.out.below HB.out) (j:=k) (by have:=HPL.out;omega)
   have hcx:=hcp k (by have:=HPL.out;omega)
   obtain⟨y1,y2⟩:=HPS.out k hlt
   have hW:=fun j=>show Wl ws bs d ps k j=ws.getD (bs+(ps.getD k 0).toNat+j * d) 0 from rfl
   generalize ps.getD k 0=p at hcx y1 y2 hW
   obtain⟨pn,rfl⟩:∃ pn:Nat,p=(pn:Int):=⟨p.toNat,by omega⟩
   rw [Int.toNat_natCast] at hW
   obtain⟨q1,hq1⟩:∃ q1,pn+d=q1:=⟨_,rfl⟩
   obtain⟨d2,hd2'⟩:∃ d2,2 * d=d2:=⟨_,rfl⟩
   obtain⟨q2,hq2⟩:∃ q2,pn+d2=q2:=⟨_,rfl⟩
   have e1:IntKind.i64.wrap ((pn:Int)+(d:Int))=(q1:Int):=by rw [IntWalk.i64_in _ (by omega)];omega
   have e2:IntKind.i64.wrap (2 * (d:Int))=(d2:Int):=by rw [IntWalk.i64_in _ (by omega)];omega
   have e3:IntKind.i64.wrap ((pn:Int)+(d2:Int))=(q2:Int):=by rw [IntWalk.i64_in _ (by omega)];omega
   have g0:(0:Int)≤(pn:Int):=by omega
   have g1:(pn:Int) < (mW:Int):=by omega
   have g2:(0:Int)≤(q1:Int):=by omega
   have g3:(q1:Int) < (mW:Int):=by omega
   have g4:(0:Int)≤(q2:Int):=by omega
   have g5:(q2:Int) < (mW:Int):=by omega
   have hcell:∀ t,t < 9 * d→wr.cell? ⟨bw,ow+bs+t,none⟩=some (.int .i8 (ws.getD (bs+t) 0)):=fun t ht=>by
    rw [Nat.add_assoc]
    exact (HB.out.cell (p:=⟨bw,ow+(bs+t),none⟩) hbw).trans (HCW.out (bs+t) (by have:=HWS.out;have:=HB9.out;omega))
   have h0:=hcell pn (by omega)
   have h1:=hcell q1 (by omega)
   have h2:=hcell q2 (by omega)
   have hF2:=HF.out.step (a:=ws.getD (bs+pn) 0) (b:=ws.getD (bs+q1) 0) (c:=ws.getD (bs+q2) 0) (by rw [hW];congr 1;omega) (by rw [hW];congr 1;omega) (by rw [hW];congr 1;omega)
   generalize ws.getD (bs+pn) 0=a0 at h0 hF2
   generalize ws.getD (bs+q1) 0=a1 at h1 hF2
   generalize ws.getD (bs+q2) 0=a2 at h2 hF2
   have HF2:=Lib.hid hF2
   have HBS:=Lib.hid hbw
   clear hW hcell hF2 hq1 hd2' hq2 hcp y1 y2
   go_upto_region 6 with fail
   refine wp_region_held_drew (S:=fun w'=>w'.cell? ⟨bw,ow+bs+pn,none⟩=some (.int .i8 a0)∧w'.cell? ⟨bw,ow+bs+q1,none⟩=some (.int .i8 a1)∧w'.cell? ⟨bw,ow+bs+q2,none⟩=some (.int .i8 a2)) (by kernel_rfl) ⟨h0,h1,h2⟩ (fun hHeld=>?_)
   clear h0 h1 h2 s1 s2 s3
   replace HB:=Lib.hid HB.out.drew
   have HOW2:Hid (wr.drew.ownsRow w.heap.size 154 3 (.slice Av k cv) k F):=Lib.hid (Kit.own_below HOW.out (Below.refl _ _).drew)
   have hsz:w.heap.size≤wr.drew.heap.size:=HB.out.size
   have hbz:bw < wr.drew.heap.size:=by omega
   clear HOW
   generalize wr.drew=Wa at HB HOW2 hHeld hsz hbz ⊢
   refine Tk.x 0 rfl ?_
   try simp only [Tk.put]
   refine Tk.x 1 rfl ?_
   try simp only [Tk.put]
   refine Tk.x 2 rfl ?_
   try simp only [Tk.put]
   refine Tk.x 3 rfl ?_
   try simp only [Tk.put]
   refine Tk.y 4 (v:=?_) rfl ?_ ?_
   rotate_left
   ·intro wS hSw
    obtain⟨hq1,hq2,hq3⟩:=hSw
    first | (go_simp;done) | (go_simp;with_reducible rfl)
   try simp only [Tk.put]
   refine Tk.x 5 rfl ?_
   try simp only [Tk.put]
   refine Tk.x 6 rfl ?_
   try simp only [Tk.put]
   refine Tk.x 7 rfl ?_
   try simp only [Tk.put]
   refine Tk.x 8 rfl ?_
   try simp only [Tk.put]
   refine Tk.x 9 rfl ?_
   try simp only [Tk.put]
   refine Tk.y 10 (v:=?_) rfl ?_ ?_
   rotate_left
   ·intro wS hSw
    obtain⟨hq1,hq2,hq3⟩:=hSw
    first | (go_simp;done) | (go_simp;with_reducible rfl)
   try simp only [Tk.put]
   refine Tk.x 11 rfl ?_
   try simp only [Tk.put]
   refine Tk.x 12 rfl ?_
   try simp only [Tk.put]
   refine Tk.x 13 rfl ?_
   try simp only [Tk.put]
   refine Tk.x 14 rfl ?_
   try simp only [Tk.put]
   refine Tk.x 15 rfl ?_
   try simp only [Tk.put]
   refine Tk.x 16 rfl ?_
   try simp only [Tk.put]
   refine Tk.y 17 (v:=?_) rfl ?_ ?_
   rotate_left
   ·intro wS hSw
    obtain⟨hq1,hq2,hq3⟩:=hSw
    first | (go_simp;done) | (go_simp;with_reducible rfl)
   try simp only [Tk.put]
   refine Tk.x 18 rfl ?_
   try simp only [Tk.put]
   refine Tk.s 19 rfl (fun Kq hK=>?_)
   go_simp
   refine hK.out _ _ ?_ (fun hHeld=>?_)
   ·exact⟨(((Below.refl Wa.heap.size Wa).alloc (Nat.le_refl _) (.cells #[.int .i8 a0,.int .i8 a1,.int .i8 a2] 154)).cell (p:=⟨bw,ow+bs+pn,none⟩) (by show bw < _;omega)).trans hHeld.1,(((Below.refl Wa.heap.size Wa).alloc (Nat.le_refl _) (.cells #[.int .i8 a0,.int .i8 a1,.int .i8 a2] 154)).cell (p:=⟨bw,ow+bs+q1,none⟩) (by show bw < _;omega)).trans hHeld.2.1,(((Below.refl Wa.heap.size Wa).alloc (Nat.le_refl _) (.cells #[.int .i8 a0,.int .i8 a1,.int .i8 a2] 154)).cell (p:=⟨bw,ow+bs+q2,none⟩) (by show bw < _;omega)).trans hHeld.2.2⟩
   clear hK Kq
   try simp only [Tk.put]
   replace HB:=Lib.hid (HB.out.alloc HB.out.size (.cells #[.int .i8 a0,.int .i8 a1,.int .i8 a2] 154))
   replace HOW2:=Lib.hid (HOW2.out.alloc (.cells #[.int .i8 a0,.int .i8 a1,.int .i8 a2] 154))
   have HXR:=Lib.hid (Kit.Rd.new Wa [.int .i8 a0,.int .i8 a1,.int .i8 a2] 154 (Nat.lt_succ_self _))
   replace hsz:w.heap.size≤(Wa.alloc (.cells #[.int .i8 a0,.int .i8 a1,.int .i8 a2] 154)).heap.size:=by simp;omega
   replace hbz:bw < (Wa.alloc (.cells #[.int .i8 a0,.int .i8 a1,.int .i8 a2] 154)).heap.size:=by simp;omega
   generalize Wa.alloc (.cells #[.int .i8 a0,.int .i8 a1,.int .i8 a2] 154)=Wc at HB HOW2 hHeld HXR hsz hbz ⊢
   refine Tk.s 20 rfl (fun Kq hK=>?_)
   refine Kit.step_append_rd _ rfl (.tmp 28) (.tmp 47) _ rfl w.heap.size 154 i3 (.agg #[.int .i8 0,.int .i8 0,.int .i8 0]) 3 3 Tryz.underlying112 hc0 hc1 hc2 hc3 rfl (by decide) _ k F rfl HOW2.out _ _ 1 1 [.int .i8 a0,.int .i8 a1,.int .i8 a2] rfl rfl HXR.out (one_w3 a0 a1 a2) (by unfold maxLen;omega) (by omega) hsz ?_
   intro v5 w5 hown5 hg5 _
   obtain⟨A5,c5,rfl, -, -, -⟩:=Kit.own_rd hown5
   have hb5:Below w.heap.size Wc w5:=(Below.refl _ _).grown hg5 hsz (Kit.own_block_ge HOW2.out)
   have hS1:w5.cell? ⟨bw,ow+bs+pn,none⟩=some (.int .i8 a0)∧w5.cell? ⟨bw,ow+bs+q1,none⟩=some (.int .i8 a1)∧w5.cell? ⟨bw,ow+bs+q2,none⟩=some (.int .i8 a2):=⟨(hb5.cell (p:=⟨bw,ow+bs+pn,none⟩) hbw).trans hHeld.1,(hb5.cell (p:=⟨bw,ow+bs+q1,none⟩) hbw).trans hHeld.2.1,(hb5.cell (p:=⟨bw,ow+bs+q2,none⟩) hbw).trans hHeld.2.2⟩
   replace HB:=Lib.hid (HB.out.trans hb5)
   replace HOW2:=Lib.hid hown5
   clear hown5 hg5 hb5 hHeld HXR
   dsimp only
   refine hK.out _ _ ?_ (fun hHeld=>?_)
   ·exact hS1
   clear hK Kq
   try simp only [Tk.put]
   refine Tk.x 21 rfl ?_
   try simp only [Tk.put]
   refine wpAnyH_done (by kernel_rfl) ?_ _
   clear hHeld hsz hbz
   go_wp2_with fail
   go_roundw
   case rel=>exact⟨k+1,_,by omega,by go_num,HF2,HOW2,HB⟩
   case measure=>simp [intOf];omega
  ·obtain rfl:k=nP:=by omega
   have hki:¬ (k:Int) < (k:Int):=Int.lt_irrefl _
   obtain⟨AW,cV,e9,hwt⟩:=wts_of HF.out HOW.out
   have HWT:=Lib.hid hwt
   rw [e9]
   clear hwt HF HOW
   go_wp2_with fail
   go_ret
   exact⟨_,⟨_,rfl⟩,HWT.out,HB.out⟩
end Go.Proofs.YtkpngknbiecdiaaGreatDoor.CLane
end
section
namespace Go.Proofs.YtkpngknbiecdiaaGreatDoor.CLane
open Go Go.ChangeShapes Go.WideShapes Go.ChangeAt Go.RowKit
open Plain CSat CShape CTensor CConv FloatNum CFour CWheel
set_option linter.unusedVariables false
theorem fits_to (x0 x1 x2 x8 x11 x12 x13 x14 x15 x16 x17 x18:Value) (K S P O Z:Int) (WA BA:Option Addr) (nW cW nB cB:Nat) (b:Bool) (hb:(decide (K=3) && decide (S=1))=b) (w:World) :
  Calls Tryz.prog 32 #[.agg #[x0,x1,x2,.int .i64 K,.int .i64 S,.int .i64 P,.int .i64 O,.int .i8 Z,x8,.slice WA nW cW,.slice BA nB cB,x11,x12,x13,x14,x15,x16,x17,x18]] w fun e w'=>e=.returned (.bool b)∧Below w.heap.size w w':=by
 have hn:=NodeAt.new x0 x1 x2 x8 x11 x12 x13 x14 x15 x16 x17 x18 K S P O Z WA BA nW cW nB cB 28 w
 have n3:=hn.at 3 _ rfl
 have n4:=hn.at 4 _ rfl
 have hB:Below w.heap.size w (w.alloc (.cells #[x0,x1,x2,.int .i64 K,.int .i64 S,.int .i64 P,.int .i64 O,.int .i8 Z,x8,.slice WA nW cW,.slice BA nB cB,x11,x12,x13,x14,x15,x16,x17,x18] 28)):=(Below.refl _ _).alloc (Nat.le_refl _) _
 have HB:=Lib.hid hB
 clear hn hB
 by_cases h3:K=3
 ·have h3b:(K == 3)=true:=by simpa using h3
  by_cases h1:S=1
  ·have h1b:(S == 1)=true:=by simpa using h1
   obtain rfl:b=true:=by rw [← hb,decide_eq_true h3,decide_eq_true h1];rfl
   clear hb h3 h1
   go_enter Tryz.func32,Tryz.ntmps32
   go_upto_region 1 with fail
   generalize w.alloc (.cells #[x0,x1,x2,.int .i64 K,.int .i64 S,.int .i64 P,.int .i64 O,.int .i8 Z,x8,.slice WA nW cW,.slice BA nB cB,x11,x12,x13,x14,x15,x16,x17,x18] 28)=w1 at n3 n4 HB ⊢
   go_wp2_with fail
   go_ret
   exact⟨rfl,HB.out⟩
  ·have h1b:(S == 1)=false:=by simpa using h1
   obtain rfl:b=false:=by rw [← hb,decide_eq_false h1,Bool.and_false]
   clear hb h3 h1
   go_enter Tryz.func32,Tryz.ntmps32
   go_upto_region 1 with fail
   generalize w.alloc (.cells #[x0,x1,x2,.int .i64 K,.int .i64 S,.int .i64 P,.int .i64 O,.int .i8 Z,x8,.slice WA nW cW,.slice BA nB cB,x11,x12,x13,x14,x15,x16,x17,x18] 28)=w1 at n3 n4 HB ⊢
   go_wp2_with fail
   go_ret
   exact⟨rfl,HB.out⟩
 ·have h3b:(K == 3)=false:=by simpa using h3
  obtain rfl:b=false:=by rw [← hb,decide_eq_false h3,Bool.false_and]
  clear hb h3
  go_enter Tryz.func32,Tryz.ntmps32
  go_upto_region 1 with fail
  generalize w.alloc (.cells #[x0,x1,x2,.int .i64 K,.int .i64 S,.int .i64 P,.int .i64 O,.int .i8 Z,x8,.slice WA nW cW,.slice BA nB cB,x11,x12,x13,x14,x15,x16,x17,x18] 28)=w1 at n3 n4 HB ⊢
  go_wp2_with fail
  go_ret
  exact⟨rfl,HB.out⟩
set_option maxHeartbeats 1000000 in
theorem lof_bad (H W C:Int) (A:Option Addr) (n c:Nat) (x0 x1 x2 x8 x11 x12 x13 x14 x15 x16 x17 x18:Value) (K S P O Z:Int) (WA BA:Option Addr) (nW cW nB cB:Nat) (ht:tensB H W C n=false) (w:World) :
  Calls Tryz.prog 33 #[.agg #[.int .i64 H,.int .i64 W,.int .i64 C,.slice A n c],.agg #[x0,x1,x2,.int .i64 K,.int .i64 S,.int .i64 P,.int .i64 O,.int .i8 Z,x8,.slice WA nW cW,.slice BA nB cB,x11,x12,x13,x14,x15,x16,x17,x18]] w (MadeA w 0 0 0 0 [] (.int .i64 5)):=by
 have HT:=Lib.hid ht
 clear ht
 go_enter Tryz.func33,Tryz.ntmps33
 go_wp2_with (go_at_call 17;(refine (right_to H W C A n c false HT.out _).mono ?_);(rintro e w1 ⟨rfl,hb⟩;obtain⟨hcc,hff⟩:=Kit.bcell hb;have hz:w.heap.size+3≤w1.heap.size:=(by have:=hb.size;simp at this;omega);have hz2:w.heap.size+2 < w1.heap.size:=(by omega);have HB:=Lib.hid hb;clear hb))
 refine bodyPost_ret (Kit.results_ct rfl _ _ (w.heap.size+2) 0 [.int .i64 0,.int .i64 0,.int .i64 0,.slice none 0 0] _ rfl (CTensor.range_4 (by go_cell) (by go_cell) (by go_cell) (by go_cell)) Tryz.underlying41 rfl (by kernel_rfl)) rfl ?_
 have hB1:Below w.heap.size w w1:=Below.trans ((((Below.refl _ _).alloc (Nat.le_refl _) _).alloc (by simp) _).alloc (by simp;omega) _) (HB.out.mono (by first | omega | (simp;done) | (simp;omega)))
 exact⟨_,rfl,World.ownsRow_nil _ _ _ _,(((hB1.setCell (p:=⟨w.heap.size+2,0,none⟩) (by simp) _).setCell (p:=⟨w.heap.size+2,1,none⟩) (by simp) _).setCell (p:=⟨w.heap.size+2,2,none⟩) (by simp) _).setCell (p:=⟨w.heap.size+2,3,none⟩) (by simp) _⟩
set_option maxHeartbeats 2000000 in
theorem lof_err (H W C:Int) (A:Option Addr) (n c:Nat) (x0 x1 x2 x8 x11 x12 x13 x14 x15 x16 x17 x18:Value) (K S P O Z:Int) (WA BA:Option Addr) (nW cW nB cB:Nat) (ht:tensB H W C n=true) (er:Int) (he:convE H W C K S P O nW nB=er) (h0:er≠0) (w:World) :
  Calls Tryz.prog 33 #[.agg #[.int .i64 H,.int .i64 W,.int .i64 C,.slice A n c],.agg #[x0,x1,x2,.int .i64 K,.int .i64 S,.int .i64 P,.int .i64 O,.int .i8 Z,x8,.slice WA nW cW,.slice BA nB cB,x11,x12,x13,x14,x15,x16,x17,x18]] w (MadeA w 0 0 0 0 [] (.int .i64 er)):=by
 have hS:convS H W C K S P O nW nB=#[.int .i64 0,.int .i64 0,.int .i64 0]:=by unfold convS;rw [he,if_neg h0]
 have HT:=Lib.hid ht
 have HE:=Lib.hid he
 have HS:=Lib.hid hS
 have h0b:(er != 0)=true:=by simpa using h0
 have h0c:(er == 0)=false:=by simpa using h0
 clear ht he hS
 go_enter Tryz.func33,Tryz.ntmps33
 go_wp2_with (first
  | (go_at_call 17
     have hal:Below w.heap.size w (((w.alloc (.cells #[.int .i64 H,.int .i64 W,.int .i64 C,.slice A n c] 32)).alloc (.cells #[x0,x1,x2,.int .i64 K,.int .i64 S,.int .i64 P,.int .i64 O,.int .i8 Z,x8,.slice WA nW cW,.slice BA nB cB,x11,x12,x13,x14,x15,x16,x17,x18] 28)).alloc (.cells #[.int .i64 0,.int .i64 0,.int .i64 0,.slice none 0 0] 41)):=(((Below.refl _ _).alloc (by first | exact Nat.le_refl _ | (simp;done) | (simp;omega)) _).alloc (by first | exact Nat.le_refl _ | (simp;done) | (simp;omega)) _).alloc (by first | exact Nat.le_refl _ | (simp;done) | (simp;omega)) _
     refine (right_to H W C A n c true HT.out _).mono ?_
     rintro e w1 ⟨rfl,hb⟩
     have hh:Below w.heap.size w w1:=hal.trans (hb.mono hal.size)
     have qTB:=(boxNew H W C A n c 32) w
     try simp only [World.size_alloc] at qTB
     have TB:=Lib.hid ((qTB.below (B':=w.heap.size+1) (by omega) ((((Below.refl _ _).alloc (by first | exact Nat.le_refl _ | (simp;done) | (simp;omega)) _).alloc (by first | exact Nat.le_refl _ | (simp;done) | (simp;omega)) _).mono (by simp))).below (by first | (simp;done) | (simp;omega)) hb)
     have yTB:w.heap.size < w1.heap.size:=by have:=hb.size;simp at this;omega
     clear qTB
     have qTN:=(NodeAt.new x0 x1 x2 x8 x11 x12 x13 x14 x15 x16 x17 x18 K S P O Z WA BA nW cW nB cB 28) (w.alloc (.cells #[.int .i64 H,.int .i64 W,.int .i64 C,.slice A n c] 32))
     try simp only [World.size_alloc] at qTN
     have TN:=Lib.hid ((qTN.below (B':=w.heap.size+2) (by omega) (((Below.refl _ _).alloc (by first | exact Nat.le_refl _ | (simp;done) | (simp;omega)) _).mono (by simp))).below (by first | (simp;done) | (simp;omega)) hb)
     have yTN:w.heap.size+1 < w1.heap.size:=by have:=hb.size;simp at this;omega
     clear qTN
     have qFR:=(freshNew 41) ((w.alloc (.cells #[.int .i64 H,.int .i64 W,.int .i64 C,.slice A n c] 32)).alloc (.cells #[x0,x1,x2,.int .i64 K,.int .i64 S,.int .i64 P,.int .i64 O,.int .i8 Z,x8,.slice WA nW cW,.slice BA nB cB,x11,x12,x13,x14,x15,x16,x17,x18] 28))
     try simp only [World.size_alloc] at qFR
     have FR:=Lib.hid (qFR.below (by first | (simp;done) | (simp;omega)) hb)
     have yFR:w.heap.size+2 < w1.heap.size:=by have:=hb.size;simp at this;omega
     clear qFR
     have HBW:Hid (Below w.heap.size w w1):=Lib.hid hh
     obtain⟨tbp0,tbp1,tbp2,tbp3⟩:=TB.out
     clear hb hh hal)
  | (go_at_call 80
     have hal:Below w1.heap.size w1 w1:=Below.refl _ _
     refine (conv_to H W C x0 x1 x2 x8 x11 x12 x13 x14 x15 x16 x17 x18 K S P O Z WA BA nW cW nB cB er _ HE.out HS.out _).mono ?_
     rintro e w2 ⟨rfl,hb⟩
     have hh:Below w1.heap.size w1 w2:=hal.trans (hb.mono hal.size)
     replace TB:=Lib.hid (TB.out.below yTB hh)
     replace yTB:=Nat.lt_of_lt_of_le yTB hh.size
     replace TN:=Lib.hid (TN.out.below yTN hh)
     replace yTN:=Nat.lt_of_lt_of_le yTN hh.size
     replace FR:=Lib.hid (FR.out.below yFR hh)
     replace yFR:=Nat.lt_of_lt_of_le yFR hh.size
     replace HBW:=Lib.hid (HBW.out.trans (hh.mono HBW.out.size))
     clear tbp0 tbp1 tbp2 tbp3
     obtain⟨⟨z0,z1,z2,z3⟩,z4,z5,z6,z7⟩:=FR.out
     obtain⟨tbp0,tbp1,tbp2,tbp3⟩:=TB.out
     clear hb hh hal)
  | (refine wpList_load_mid rfl 28 (.tmp 3) rfl (w.heap.size+1) 0 rfl [x0,x1,x2,.int .i64 K,.int .i64 S,.int .i64 P,.int .i64 O,.int .i8 Z,x8,.slice WA nW cW,.slice BA nB cB,x11,x12,x13,x14,x15,x16,x17,x18] _ (TN.out) Tryz.underlying28 rfl (by kernel_rfl) ?_))
 obtain⟨⟨z0,z1,z2,z3⟩,z4,z5,z6,z7⟩:=FR.out
 refine bodyPost_ret (Kit.results_ct rfl _ _ (w.heap.size+2) 0 [.int .i64 0,.int .i64 0,.int .i64 0,.slice none 0 0] _ rfl (CTensor.range_4 (by go_cell) (by go_cell) (by go_cell) (by go_cell)) Tryz.underlying41 rfl (by kernel_rfl)) rfl ?_
 exact⟨_,rfl,World.ownsRow_nil _ _ _ _,by exact ((((HBW.out.setCell (p:=⟨w.heap.size+2,0,none⟩) (by simp) _).setCell (p:=⟨w.heap.size+2,1,none⟩) (by simp) _).setCell (p:=⟨w.heap.size+2,2,none⟩) (by simp) _).setCell (p:=⟨w.heap.size+2,3,none⟩) (by simp) _).alloc (by simp;omega) _⟩
end Go.Proofs.YtkpngknbiecdiaaGreatDoor.CLane
end
