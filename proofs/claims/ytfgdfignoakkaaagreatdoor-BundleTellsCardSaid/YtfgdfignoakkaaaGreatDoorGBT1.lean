/- -/
import Derived.WalkKit
import Derived.ProofKit
import Derived.OpenShut
import Derived.Deep.AppendLies
import Derived.Lib.Hide
import Derived.Deep.Fields
import Derived.BigQuiet
import Derived.Deep.MidRow
open Nat (le_refl lt_of_succ_lt lt_succ_self)
set_option linter.unusedVariables false
set_option linter.unusedSimpArgs false
set_option maxRecDepth 100000
set_option maxHeartbeats 16000000
namespace Go.Proofs.YtfgdfignoakkaaaGreatDoor
open Go Go.ChangeShapes Go.WideShapes Go.ChangeAt Go.RowKit Go.Deep
section
namespace Kit
/-! ### memory: a slice's address reads as a list of cells -/
def Rd (w:World) (B:Nat) (A:Option Addr) (xs:List Value):Prop :=
 ∀ (j:Nat) (u:Value),xs[j]?=some u→∃ ad:Addr,A=some ad∧ad.block < B∧w.cell? (ad.add j)=some u
theorem add_block (a:Addr) (n:Nat):(a.add n).block=a.block:=by unfold Addr.add;split <;> rfl
theorem add_twice (a:Addr) (i j:Nat):(a.add i).add j=a.add (i+j):=by
 unfold Addr.add
 by_cases hi:i=0
 ·subst hi;simp
 ·by_cases hj:j=0
  ·subst hj;simp
  ·simp [hi,hj,Nat.add_assoc]
section
variable {w w':World} {B B':Nat} {A:Option Addr} {xs:List Value}
theorem Rd.nil:Rd w B A []:=fun j u h=>by simp at h
theorem Rd.at_ (h:Rd w B A xs) {j:Nat} (hj:j < xs.length):∃ ad:Addr,A=some ad∧ad.block < B∧w.cell? (ad.add j)=some xs[j] :=
 h j _ (List.getElem?_eq_getElem hj)
theorem Rd.keep (h:Rd w B A xs) (hk:∀ p:Addr,p.block < B→w'.cell? p=w.cell? p):Rd w' B A xs:=fun j u hu=>by
 obtain⟨ad,rfl,hb,hc⟩:=h j u hu
 exact⟨ad,rfl,hb,(hk _ (by rw [add_block];exact hb)).trans hc⟩
theorem Rd.more (h:Rd w B A xs) (hB:B≤B'):Rd w B' A xs:=fun j u hu=>by
 obtain⟨ad,rfl,hb,hc⟩:=h j u hu
 exact⟨ad,rfl,Nat.lt_of_lt_of_le hb hB,hc⟩
theorem Rd.below (h:Rd w B A xs) (hb:Below B w w'):Rd w' B A xs:=h.keep fun _ hp=>hb.cell hp
theorem Rd.drew (h:Rd w B A xs):Rd w.drew B A xs:=h
theorem Rd.drewN (h:Rd w B A xs) (n:Nat):Rd (w.drewN n) B A xs:=h
theorem Rd.alloc (h:Rd w B A xs) (hB:B≤w.heap.size) (o:Obj):Rd (w.alloc o) B A xs :=
 h.keep fun p hp=>World.cell?_alloc_lt w o p (Nat.lt_of_lt_of_le hp hB)
theorem Rd.take (h:Rd w B A xs) (k:Nat):Rd w B A (xs.take k):=fun j u hu=>by
 rw [List.getElem?_take] at hu
 split at hu
 ·exact h j u hu
 ·cases hu
theorem Rd.drop (h:Rd w B A xs) (k:Nat):Rd w B (A.map (·.add k)) (xs.drop k):=fun j u hu=>by
 rw [List.getElem?_drop] at hu
 obtain⟨ad,rfl,hb,hc⟩:=h _ u hu
 exact⟨ad.add k,rfl,by rw [add_block];exact hb,by rw [add_twice];exact hc⟩
end
theorem Rd.new (w:World) (cs:List Value) (T:TypeId) {B:Nat} (hB:w.heap.size < B):Rd (w.alloc (.cells cs.toArray T)) B (some ⟨w.heap.size,0,none⟩) cs:=fun j u hu=>by
 refine⟨_,rfl,hB,?_⟩
 have e:(⟨w.heap.size,0,none⟩:Addr).add j=⟨w.heap.size,j,none⟩:=by
  unfold Addr.add;split
  ·rename_i h;subst h;rfl
  ·simp
 rw [e]
 have hb:(w.alloc (.cells cs.toArray T)).heap[w.heap.size]?=some (.cells cs.toArray T (0,0)):=heap_alloc_new w _
 rw [cell_of_row _ _ _ _ _ _ hb]
 simpa using hu
/-! ### slices of integers -/
theorem block_lt {w:World} {a:Addr} {v:Value} (h:w.cell? a=some v):a.block < w.heap.size:=World.block_lt_of_cell? w a h
section
variable {H:Type} {enc:TypeId × Value→H} {P:Program} {w:World} {base b0:Nat} {spare:Nat→Bool} {held:Bool} {r:Reach}
theorem Rd.int {B:Nat} {A:Option Addr} {k:IntKind} {zs:List Int} (h:Rd w B A (zs.map (.int k))) {j:Nat} (hj:j < zs.length) :
  ∃ ad:Addr,A=some ad∧ad.block < B∧w.cell? (ad.add j)=some (.int k zs[j]):=by
 obtain⟨ad,e,hb,hc⟩:=h.at_ (j:=j) (by simpa using hj)
 exact⟨ad,e,hb,by simpa using hc⟩
end
theorem Rd.plain {w:World} {B:Nat} {A:Option Addr} {xs:List Value} (h:Rd w B A xs) (hn:0 < xs.length) :
  ∃ b off,A=some ⟨b,off,none⟩∧b < B∧∀ (j:Nat) (u:Value),xs[j]?=some u→w.cell? ⟨b,off+j,none⟩=some u:=by
 obtain⟨⟨b,off,spot⟩,rfl,hb,hc⟩:=h.at_ hn
 have hspot:spot=none:=by simpa [Addr.add] using World.cell?_spot hc
 subst hspot
 refine⟨b,off,rfl,hb,fun j u hu=>?_⟩
 obtain⟨ad,e,_,hj⟩:=h j u hu
 cases e
 rw [Go.WideShapes.add_plain] at hj
 exact hj
theorem Rd.ints {w:World} {B:Nat} {A:Option Addr} {k:IntKind} {zs:List Int} (h:Rd w B A (zs.map (.int k))) {j:Nat} (hj:j < zs.length) :
  ∃ b off,A=some ⟨b,off,none⟩∧b < B∧w.cell? ⟨b,off+j,none⟩=some (.int k zs[j]):=by
 obtain⟨b,off,e,hb,hc⟩:=h.plain (by simp;omega)
 exact⟨b,off,e,hb,hc j _ (by simp [hj])⟩
theorem zab (w:World) (cs:Array Value) (T:TypeId) (j:Nat):(w.alloc (.cells cs T)).cell? ⟨w.heap.size,j,none⟩=cs[j]? :=
 cell_of_row _ _ _ _ _ _ (heap_alloc_new w _)
/-! ### what a call that only makes memory leaves as it was -/
theorem bcell {W w1:World} {B:Nat} (hb:Below B W w1) :
  (∀ b o,b < B→w1.cell? ⟨b,o,none⟩=W.cell? ⟨b,o,none⟩)∧(∀ b o,b < B→w1.frozen? ⟨b,o,none⟩=W.frozen? ⟨b,o,none⟩) :=
 ⟨fun b o h=>hb.cell (p:=⟨b,o,none⟩) h,fun b o h=>hb.frozen (p:=⟨b,o,none⟩) h⟩
theorem quiet_l {P:Program} {f:FuncId} {args:Array Value} {w:World} {n:Nat} {v:Value}
  (h:Calls P f args (w.drewN n) fun e w'=>e=.returned v∧w.drewN n=w'):Calls P f args (w.drewN n) fun e w'=>e=.returned v∧∃ m,w'=w.drewN m :=
 h.mono fun _ _ ⟨he,hw⟩=>⟨he,n,hw.symm⟩
theorem below_drewN {B:Nat} {a w:World} (h:Below B a w) (n:Nat):Below B a (w.drewN n):=⟨h.os,h.tape,h.output,h.size,h.block⟩
/-! ### a scope that is left, at most once, by a jump ahead to a label -/
section
variable {P:Program} {a:Act} {w:World} {Q:Exit→Act→World→Prop}
theorem wp_scope_once {c rest:Code} (l:Nat) (hf:findLabel c l=some rest) (first:c.wp P (Exit.jump l (fun a w=>rest.wp P (Exit.noGoto Q) a w) Q) a w):(Code.scope c).wp P Q a w :=
 wp_scope_jumps l _ (fun _ _=>0) hf first (fun a w hJ=>Code.wp_mono (fun e a' w' (h:Exit.noGoto Q e a' w')=>by
  cases e with
  | goto l'=>exact False.elim h
  | normal=>exact h
  | exit _=>exact h
  | ret=>exact h
  | panic _=>exact h
  | outgrown=>exact h) hJ)
end
/-! ### a struct of one-cell fields, by value -/
section
variable {H:Type} {enc:TypeId × Value→H} {P:Program} {w:World} {base b0:Nat} {spare:Nat→Bool} {held:Bool} {r:Reach}
end
/-! ### an array of one-cell elements, by value -/
section
variable {H:Type} {enc:TypeId × Value→H} {P:Program} {w:World} {base b0:Nat} {spare:Nat→Bool} {held:Bool} {r:Reach}
end
/-! ### results that lie in cells: structs and arrays, handed back by value -/
section
variable {P:Program}
theorem zaa {fn:Func} {p u:Tmp} {ty:TypeId} (h:fn.results=#[.cell p ty,.tmp u]) (tmps:Array Value) (w:World) (b o:Nat) (cs:List Value) (d:TypeDesc)
  (hp:tmps.getD p undef=.pointer (some ⟨b,o,none⟩)) (hc:w.rangeAt b o cs) (hu:P.underlying ty=some d) (hd:d.isRow=true) (hi:(P.info? ty).map (·.size)=some cs.length) :
  (results fn tmps).run P w=.ok (.tuple #[.agg cs.toArray,tmps.getD u undef]) w:=by
 rw [results_cell_tmp h,hp]
 simp [asAddr,run_loadVar_mid w b o ty cs d hc hu hd hi]
theorem zau {fn:Func} {p:Tmp} {ty:TypeId} (h:fn.results=#[.cell p ty]) (tmps:Array Value) (w:World) (b o:Nat) (cs:List Value) (d:TypeDesc)
  (hp:tmps.getD p undef=.pointer (some ⟨b,o,none⟩)) (hc:w.rangeAt b o cs) (hu:P.underlying ty=some d) (hd:d.isRow=true) (hi:(P.info? ty).map (·.size)=some cs.length) :
  (results fn tmps).run P w=.ok (.agg cs.toArray) w:=by
 have hp':tmps[p]?.getD undef=.pointer (some ⟨b,o,none⟩):=by simpa using hp
 simp [results,h,hp',asAddr,run_loadVar_mid w b o ty cs d hc hu hd hi]
theorem zar {w:World} {b:Nat} {x y:Value} (h0:w.cell? ⟨b,0,none⟩=some x) (h1:w.cell? ⟨b,1,none⟩=some y):w.rangeAt b 0 [x,y]:=by
 intro j v hj
 match j,hj with
 | 0,hj=>simpa [← hj] using h0
 | 1,hj=>simpa [← hj] using h1
theorem zak {w:World} {b:Nat} {x y z:Value} (h0:w.cell? ⟨b,0,none⟩=some x) (h1:w.cell? ⟨b,1,none⟩=some y) (h2:w.cell? ⟨b,2,none⟩=some z):w.rangeAt b 0 [x,y,z]:=by
 intro j v hj
 match j,hj with
 | 0,hj=>simpa [← hj] using h0
 | 1,hj=>simpa [← hj] using h1
 | 2,hj=>simpa [← hj] using h2
end
/-! ### a struct that lies in a box of its own, behind calls that only make memory -/
/-! ### append of whatever reads, onto a row of the call's own -/
section
variable {P:Program}
theorem append_none (w:World) (base:Nat) (t ty e:TypeId) (i:TypeInfo) (size:Nat) (ht:P.underlying t=some (.slice e)) (hi:P.info? e=some i)
  (v:Value) (n:Nat) (xs:List Value) (hown:w.ownsRow base e size v n xs) (c:Nat) :
  ∃ v' w',(Builtin.append_ #[t,t] ty #[v,.slice none 0 c]).run P w=.ok v' w'∧w'.ownsRow base e size v' (n+0) (xs ++ [])∧w.grownBy w' v.ownBlock∧(v'.ownBlock=v.ownBlock∨v'.ownBlock=some w.heap.size):=by
 have hrun:(Builtin.append_ #[t,t] ty #[v,.slice none 0 c]).run P w=.ok v w:=by
  rcases hown.2 with ⟨rfl,rfl⟩ | ⟨g,cap,cur,rfl,_,_,hnc,_⟩
  ·simp [Builtin.append_,run_underlying ht,sizeOf,typeInfo,hi,Builtin.lenOf,Builtin.firstCells]
  ·simp [Builtin.append_,run_underlying ht,sizeOf,typeInfo,hi,Builtin.lenOf,Builtin.firstCells,hnc,storeCells]
 exact⟨v,w,hrun,by simpa using hown,World.grownBy.refl w _,.inl rfl⟩
theorem append_rd_run (w:World) (base:Nat) (t ty e:TypeId) (i:TypeInfo) (z:Value) (size bytes:Nat) (ht:P.underlying t=some (.slice e)) (hi:P.info? e=some i) (hz:i.zero=some z)
  (hsize:i.size=size) (hby:i.bytes=bytes) (hzs:z.cells.size=size) (hsz:0 < size)
  (v:Value) (n:Nat) (xs:List Value) (hown:w.ownsRow base e size v n xs) {B:Nat} {A:Option Addr} (m c:Nat) {news:List Value} (hl:news.length=m * size) (hr:Rd w B A news)
  (h1:∀ u∈news,u.oneCell'=true) (h63:n+m≤maxLen) (hbytes:(n+m) * bytes≤140737488355328) (hbase:base≤w.heap.size) :
  ∃ v' w',(Builtin.append_ #[t,t] ty #[v,.slice A m c]).run P w=.ok v' w'∧w'.ownsRow base e size v' (n+m) (xs ++ news)∧w.grownBy w' v.ownBlock ∧
   (v'.ownBlock=v.ownBlock∨v'.ownBlock=some w.heap.size):=by
 match A,hr with
 | some ad,hr =>
   have hcell:∀ j u,news[j]?=some u→w.cell? (ad.add j)=some u:=fun j u hu=>by
    obtain⟨ad',h,_,hc⟩:=hr j u hu
    cases h
    exact hc
   obtain⟨v',w',a1,a2,a3,_,a4⟩:=run_append_own_at (P:=P) w base t ty e i z size bytes ht hi hz hsize hby hzs hsz v n xs hown ad m c news hl hcell h1 h63 hbytes hbase
   exact⟨v',w',a1,a2,a3,a4⟩
 | none,hr =>
   have hn:news=[]:=by
    cases news with
    | nil=>rfl
    | cons u us=>obtain⟨ad,h,_⟩:=hr 0 u rfl;cases h
   subst hn
   have hm:m=0:=by
    rcases Nat.eq_zero_or_pos m with h | h
    ·exact h
    ·have:=Nat.mul_pos h hsz;simp at hl;omega
   subst hm
   obtain⟨v',w',b1,b2,b3⟩:=append_none w base t ty e i size ht hi v n xs hown c
   exact⟨v',w',b1,b2,b3⟩
theorem zaj (w:World) {ops:Array Oper} {rest:List Oper} {o:Oper} {a:Act} {Q:Exit→Act→World→Prop}
  (hg:o.guard=none) (s x:Operand) (t:TypeId) (hop:o.op=Op.call { callee:=Callee.builtin Builtin.append,args:=#[s,x],argTypes:=#[t,t] })
  (base:Nat) (e:TypeId) (i:TypeInfo) (z:Value) (size bytes:Nat) (ht:P.underlying t=some (.slice e)) (hi:P.info? e=some i) (hz:i.zero=some z)
  (hsize:i.size=size) (hby:i.bytes=bytes) (hzs:z.cells.size=size) (hsz:0 < size)
  (v:Value) (n:Nat) (xs:List Value) (hs:a.eval s=v) (hown:w.ownsRow base e size v n xs) (B:Nat) (A:Option Addr) (m c:Nat) (news:List Value) (hx:a.eval x=.slice A m c)
  (hl:news.length=m * size) (hr:Rd w B A news) (h1:∀ u∈news,u.oneCell'=true) (h63:n+m≤maxLen) (hbytes:(n+m) * bytes≤140737488355328) (hbase:base≤w.heap.size)
  (hK:∀ v' w',w'.ownsRow base e size v' (n+m) (xs ++ news)→w.grownBy w' v.ownBlock→(v'.ownBlock=v.ownBlock∨v'.ownBlock=some w.heap.size)→wpList P ops Q rest (a.put o.dst v') w') :
  wpList P ops Q (o :: rest) a w:=by
 refine wpList_plain hg fun K hK'=>?_
 obtain⟨v',w',hrun,r1,r2,r3⟩:=append_rd_run (P:=P) w base t o.type e i z size bytes ht hi hz hsize hby hzs hsz v n xs hown m c hl hr h1 h63 hbytes hbase
 unfold Oper.wp
 simp [execOp,hop,resolve,invoke,builtin,hs,hx,hrun,Result.andThen]
 exact hK' _ _ (hK v' w' r1 r2 r3)
end
theorem own_form {w:World} {base:Nat} {e:TypeId} {size n:Nat} {v:Value} {xs:List Value} (h:w.ownsRow base e size v n xs) (hn:0 < n) :
  ∃ g cap,v=.slice (some ⟨g,0,none⟩) n cap∧base≤g∧n≤cap∧cap≤maxLen∧Rd w w.heap.size (some ⟨g,0,none⟩) xs:=by
 rcases h.2 with ⟨_,h0⟩ | ⟨g,cap,cur,rfl,hb,hh,hnc,hcm,hs,ht⟩
 ·omega
 ·refine⟨g,cap,rfl,hb,hnc,hcm,fun j u hu=>?_⟩
  have e1:(⟨g,0,none⟩:Addr).add j=⟨g,j,none⟩:=by
   unfold Addr.add;split
   ·rename_i h;subst h;rfl
   ·simp
  have hlt:g < w.heap.size:=by
   rcases Nat.lt_or_ge g w.heap.size with h | h
   ·exact h
   ·rw [Array.getElem?_eq_none h] at hh;cases hh
  refine⟨_,rfl,hlt,?_⟩
  rw [e1,cell_of_row _ _ _ _ _ _ hh]
  rw [← ht,List.getElem?_take] at hu
  split at hu
  ·rw [← hu];simp
  ·cases hu
theorem zbh (k:IntKind) (zs:List Int):∀ u∈zs.map (Value.int k),u.oneCell'=true:=by
 intro u hu
 obtain⟨z,_,rfl⟩:=List.mem_map.1 hu
 rfl
theorem grown_of_below {w w':World} (h:Below w.heap.size w w') (row:Option Nat):w.grownBy w' row:=⟨h.os,h.tape,h.output,h.size,fun k hk _=>h.block k hk⟩
theorem own_below {w w':World} {base:Nat} {e:TypeId} {size n:Nat} {v:Value} {xs:List Value} (h:w.ownsRow base e size v n xs) (hb:Below w.heap.size w w'):w'.ownsRow base e size v n xs :=
 h.kept (grown_of_below hb none) (by cases hv:v.ownBlock <;> simp)
theorem za2 {w:World} {base:Nat} {e:TypeId} {size n:Nat} {v:Value} {xs:List Value} (h:w.ownsRow base e size v n xs) :
  ∃ A c,v=.slice A n c∧n≤c∧c≤maxLen∧Rd w w.heap.size A xs:=by
 rcases Nat.eq_zero_or_pos n with h0 | h0
 ·subst h0
  have hx:xs=[]:=List.eq_nil_of_length_eq_zero (by simpa using h.1)
  subst hx
  rcases h.2 with ⟨rfl,_⟩ | ⟨g,cap,cur,rfl,_,_,h1,h2,_⟩
  ·exact⟨none,0,rfl,le_refl _,Nat.zero_le _,Rd.nil⟩
  ·exact⟨_,_,rfl,h1,h2,Rd.nil⟩
 ·obtain⟨g,cap,rfl,_,h1,h2,hr⟩:=own_form h h0
  exact⟨_,_,rfl,h1,h2,hr⟩
theorem zb3 {w:World} {base base':Nat} {e:TypeId} {size n:Nat} {v:Value} {xs:List Value} (h:w.ownsRow base e size v n xs) (hb:base'≤base):w.ownsRow base' e size v n xs:=by
 refine⟨h.1,?_⟩
 rcases h.2 with h0 | ⟨g,cap,cur,h1,h2,rest⟩
 ·exact .inl h0
 ·exact .inr ⟨g,cap,cur,h1,by omega,rest⟩
theorem zam {w:World} {base:Nat} {e:TypeId} {size n:Nat} {v:Value} {xs:List Value} (h:w.ownsRow base e size v n xs):∀ k,v.ownBlock=some k→base≤k:=by
 intro k hk
 rcases h.2 with ⟨rfl,_⟩ | ⟨g,cap,cur,rfl,h2,_⟩
 ·cases hk
 ·cases hk;exact h2
/-! ### the frame of every law: it answers true, and what it was given reads as it did -/
section
variable {H:Type} {enc:TypeId × Value→H} {P:Program}
theorem trodAll_stays {base:Nat} (hl:laidOutB P=true) {W W':World} {sp':Nat→Bool} : ∀ {ts:List TypeId} {vs:List Value} {ds:List (DataW H)} {ps:List MemPlace},
  ts.all (fun t=>P.readableRec t && decide (t < P.types.size))=true →
  DataW.TrodAll enc P W base (fun _=>true) true ts vs ds ps→(∀ p∈ps,W.sameAt W' p)→(∀ p∈ps,sp' p.block=true)→DataW.TrodAll enc P W' base sp' true ts vs ds ps
 | [],vs,ds,ps,_,h,_,_=>by
   cases vs <;> cases ds <;> simp_all [DataW.TrodAll]
 | t :: ts,vs,ds,ps,ht,h,h1,h2=>by
   cases vs with
   | nil=>simp [DataW.TrodAll] at h
   | cons v vs =>
     cases ds with
     | nil=>simp [DataW.TrodAll] at h
     | cons d ds =>
       obtain⟨p,q,hp,hq,rfl⟩:=h
       simp only [List.all_cons,Bool.and_eq_true,decide_eq_true_eq] at ht
       exact⟨p,q,WideElems.Trod_stays hl ht.1.1 ht.1.2 hp (fun x hx=>h1 x (List.mem_append_left _ hx)) (fun x hx=>h2 x (List.mem_append_left _ hx)),
        trodAll_stays hl ht.2 hq (fun x hx=>h1 x (List.mem_append_right _ hx)) (fun x hx=>h2 x (List.mem_append_right _ hx)),rfl⟩
theorem trodAll_len {W:World} {base:Nat} {sp:Nat→Bool} {held:Bool} : ∀ {ts:List TypeId} {vs:List Value} {ds:List (DataW H)} {ps:List MemPlace},
  DataW.TrodAll enc P W base sp held ts vs ds ps→ds.length=ts.length
 | [],vs,ds,ps,h=>by cases vs <;> cases ds <;> simp_all [DataW.TrodAll]
 | t :: ts,vs,ds,ps,h=>by
   cases vs with
   | nil=>simp [DataW.TrodAll] at h
   | cons v vs =>
     cases ds with
     | nil=>simp [DataW.TrodAll] at h
     | cons d ds =>
       obtain⟨p,q,_,hq,_⟩:=h
       simpa using trodAll_len hq
theorem law_post {f:Func} {s:ChangeSpec} {W W':World} {args:Array Value} {ds gs:List (DataW H)} {before:List MemPlace} {tb:TypeId}
  (hl:laidOutB P=true) (hr:f.params.toList.all (fun t=>P.readableRec t && decide (t < P.types.size))=true) (hvars:s.vars=[])
  (hres:f.resultTypes=#[tb]) (htb:P.underlying tb=some .bool)
  (hfn:∀ ds:List (DataW H),ds.length=f.params.toList.length→s.fn H ds = { results:=[.lit (.bool true)],args:=ds })
  (hW:DataW.Whole enc P f.params.toList s.vars false W args.toList ds gs before) (hb:Below W.heap.size W W') :
  s.post enc P f false true false false W args (.bool true) W':=by
 have hW':=hW
 obtain⟨p,q,hA,hV,rfl,hz,hn⟩:=hW
 rw [hvars] at hV
 obtain⟨rfl,rfl⟩:=trodVars_none hV
 have hlt:∀ x∈p ++ [],x.block < W.heap.size:=fun x hx=>hW'.lt x hx
 have hf:=hfn ds (trodAll_len hA)
 have hargs:∀ sp:Nat→Bool,(∀ x∈p ++ [],sp x.block=true)→DataW.TrodAll enc P W' 0 sp true f.params.toList args.toList ds p:=fun sp hsp =>
  trodAll_stays hl hr hA (fun x hx=>hb.same (hlt x (by simpa using hx))) (fun x hx=>hsp x (by simpa using hx))
 have hold:∀ x∈p ++ [],(fun b=>decide (b < W.heap.size)) x.block=true:=fun x hx=>by simpa using hlt x hx
 have hresl:∀ (b:Nat) (sp:Nat→Bool) (hd:Bool),DataW.TrodAll enc P W' b sp hd f.resultTypes.toList ((Value.bool true).resultList f.resultTypes.size) [.lit (.bool true)] []:=by
  intro b sp hd
  rw [hres]
  exact trodAll_cons_mk (shut_bool htb true) trodAll_mk0
 have hfe:s.fn H (ds ++ []) = { results:=[.lit (.bool true)],args:=ds } := by rw [List.append_nil];exact hf
 refine⟨ds,[],p ++ [],[],p,[],hW',?_,?_,?_,World.keptBut_mono (fun x hx=>⟨hx,?_⟩) (hb.frame (· ∈ p ++ [])),fun _=>?_⟩
 ·rw [hfe];exact hresl _ _ _
 ·rw [hfe];exact hargs _ hold
 ·rw [hfe,hvars];rfl
 ·simpa using hx
 ·refine⟨ok_one hres rfl (okWide_bool_mk htb _),.lit (.bool true) :: ds,[],([] ++ p) ++ [],⟨[] ++ p,[],?_,?_,rfl,?_,fun h=>by cases h⟩,?_⟩
  ·have:=trodAll_append (hargs (fun _=>true) (fun _ _=>rfl)) (hresl 0 (fun _=>true) true)
   simpa using this
  ·rw [hvars];rfl
  ·intro b off hp
   have hin:MemPlace.cell b off∈p ++ []:=by simpa using hp
   rw [hb.frozen (hlt _ hin)]
   exact hz b off hin
  ·intro x hx _
   simpa using hx
end
end Kit
end
end Go.Proofs.YtfgdfignoakkaaaGreatDoor
