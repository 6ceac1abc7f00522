/- -/
import Derived.Test.YtchpdhhpkljdhaaGreatDoorGD0
import Derived.Deep.AppendLies
import Derived.Lib.Hide
import Derived.Deep.Fields
import Derived.BigQuiet
import Derived.Deep.MidRow
import Derived.Laws.ComplexArith
import Derived.Test.YtchpdhhpkljdhaaGreatDoorRows
import Derived.Handy
open Go.Value renaming int→Jj
open Go.IntKind renaming i64→Jq
open Go.Lib (hid)
open Nat (le_refl lt_of_succ_lt lt_succ_self)
set_option linter.unusedVariables false
set_option linter.unusedSimpArgs false
set_option maxRecDepth 100000
set_option maxHeartbeats 16000000
namespace Go.Proofs.YtchpdhhpkljdhaaGreatDoor
open Go Go.ChangeShapes Go.WideShapes Go.ChangeAt Go.RowKit Go.Deep
section
namespace Kit
/-! ### memory: a slice's address reads as a list of cells -/
def Rd (w:World) (B:Nat) (A:Option Addr) (xs:List Value):Prop :=
 ∀ (j:Nat) (u:Value),xs[j]?=some u→∃ ad:Addr,A=some ad∧ad.block < B∧w.cell? (ad.add j)=some u
theorem add_block (a:Addr) (n:Nat):(a.add n).block=a.block:=by unfold Addr.add;split <;> rfl
theorem add_twice (a:Addr) (i j:Nat):(a.add i).add j=a.add (i+j):=by
 unfold Addr.add
 by_cases hi:i=0
 ·subst hi;simp
 ·by_cases hj:j=0
  ·subst hj;simp
  ·simp [hi,hj,Nat.add_assoc]
section
variable {w w':World} {B B':Nat} {A:Option Addr} {xs:List Value}
theorem Rd.nil:Rd w B A []:=fun j u h=>by simp at h
theorem Rd.at_ (h:Rd w B A xs) {j:Nat} (hj:j < xs.length):∃ ad:Addr,A=some ad∧ad.block < B∧w.cell? (ad.add j)=some xs[j] :=
 h j _ (List.getElem?_eq_getElem hj)
theorem Rd.keep (h:Rd w B A xs) (hk:∀ p:Addr,p.block < B→w'.cell? p=w.cell? p):Rd w' B A xs:=fun j u hu=>by
 obtain⟨ad,rfl,hb,hc⟩:=h j u hu
 exact⟨ad,rfl,hb,(hk _ (by rw [add_block];exact hb)).trans hc⟩
theorem Rd.more (h:Rd w B A xs) (hB:B≤B'):Rd w B' A xs:=fun j u hu=>by
 obtain⟨ad,rfl,hb,hc⟩:=h j u hu
 exact⟨ad,rfl,Nat.lt_of_lt_of_le hb hB,hc⟩
theorem Rd.below (h:Rd w B A xs) (hb:Below B w w'):Rd w' B A xs:=h.keep fun _ hp=>hb.cell hp
theorem Rd.drew (h:Rd w B A xs):Rd w.drew B A xs:=h
theorem Rd.alloc (h:Rd w B A xs) (hB:B≤w.heap.size) (o:Obj):Rd (w.alloc o) B A xs :=
 h.keep fun p hp=>World.cell?_alloc_lt w o p (Nat.lt_of_lt_of_le hp hB)
theorem Rd.setCell (h:Rd w B A xs) {p:Addr} (hB:B≤p.block) (u:Value):Rd (w.setCell p u) B A xs :=
 h.keep fun q hq=>World.cell?_setCell_other w p q u (fun e=>by subst e;omega)
theorem Rd.take (h:Rd w B A xs) (k:Nat):Rd w B A (xs.take k):=fun j u hu=>by
 rw [List.getElem?_take] at hu
 split at hu
 ·exact h j u hu
 ·cases hu
theorem Rd.drop (h:Rd w B A xs) (k:Nat):Rd w B (A.map (·.add k)) (xs.drop k):=fun j u hu=>by
 rw [List.getElem?_drop] at hu
 obtain⟨ad,rfl,hb,hc⟩:=h _ u hu
 exact⟨ad.add k,rfl,by rw [add_block];exact hb,by rw [add_twice];exact hc⟩
end
theorem Rd.new (w:World) (cs:List Value) (T:TypeId) {B:Nat} (hB:w.heap.size < B):Rd (w.alloc (.cells cs.toArray T)) B (some ⟨w.heap.size,0,none⟩) cs:=fun j u hu=>by
 refine⟨_,rfl,hB,?_⟩
 have e:(⟨w.heap.size,0,none⟩:Addr).add j=⟨w.heap.size,j,none⟩:=by
  exact Z2g
 rw [e]
 have hb:(w.alloc (.cells cs.toArray T)).heap[w.heap.size]?=some (.cells cs.toArray T (0,0)):=heap_alloc_new w _
 rw [cell_of_row _ _ _ _ _ _ hb]
 simpa using hu
/-! ### slices of integers -/
theorem block_lt {w:World} {a:Addr} {v:Value} (h:w.cell? a=some v):a.block < w.heap.size:=World.block_lt_of_cell? w a h
section
variable {H:Type} {enc:TypeId × Value→H} {P:Program} {w:World} {base b0:Nat} {spare:Nat→Bool} {held:Bool} {r:Reach}
end
theorem Rd.plain {w:World} {B:Nat} {A:Option Addr} {xs:List Value} (h:Rd w B A xs) (hn:0 < xs.length) :
  ∃ b off,A=some ⟨b,off,none⟩∧b < B∧∀ (j:Nat) (u:Value),xs[j]?=some u→w.cell? ⟨b,off+j,none⟩=some u:=by
 obtain⟨⟨b,off,spot⟩,rfl,hb,hc⟩:=h.at_ hn
 have hspot:spot=none:=by simpa [Addr.add] using World.cell?_spot hc
 subst hspot
 refine⟨b,off,rfl,hb,fun j u hu=>?_⟩
 obtain⟨ad,e,_,hj⟩:=h j u hu
 cases e
 rw [Go.WideShapes.add_plain] at hj
 exact hj
theorem Rd.ints {w:World} {B:Nat} {A:Option Addr} {k:IntKind} {zs:List Int} (h:Rd w B A (zs.map (.int k))) {j:Nat} (hj:j < zs.length) :
  ∃ b off,A=some ⟨b,off,none⟩∧b < B∧w.cell? ⟨b,off+j,none⟩=some (.int k zs[j]):=by
 obtain⟨b,off,e,hb,hc⟩:=h.plain Zba
 exact⟨b,off,e,hb,hc j _ (by simp [hj])⟩
theorem zan (w:World) (cs:Array Value) (T:TypeId) (j:Nat):(w.alloc (.cells cs T)).cell? ⟨w.heap.size,j,none⟩=cs[j]? :=
 cell_of_row _ _ _ _ _ _ (heap_alloc_new w _)
/-! ### what a call that only makes memory leaves as it was -/
theorem bcell {W w1:World} {B:Nat} (hb:Below B W w1) :
  (∀ b o,b < B→w1.cell? ⟨b,o,none⟩=W.cell? ⟨b,o,none⟩)∧(∀ b o,b < B→w1.frozen? ⟨b,o,none⟩=W.frozen? ⟨b,o,none⟩) :=
 ⟨fun b o h=>hb.cell (p:=⟨b,o,none⟩) h,fun b o h=>hb.frozen (p:=⟨b,o,none⟩) h⟩
theorem quiet_l {P:Program} {f:FuncId} {args:Array Value} {w:World} {n:Nat} {v:Value}
  (h:Calls P f args (w.drewN n) fun e w'=>e=.returned v∧w.drewN n=w'):Calls P f args (w.drewN n) fun e w'=>e=.returned v∧∃ m,w'=w.drewN m :=
 h.mono fun _ _ ⟨he,hw⟩=>⟨he,n,hw.symm⟩
theorem below_drewN {B:Nat} {a w:World} (h:Below B a w) (n:Nat):Below B a (w.drewN n):=⟨h.os,h.tape,h.output,h.size,h.block⟩
/-! ### a scope that is left, at most once, by a jump ahead to a label -/
section
variable {P:Program} {a:Act} {w:World} {Q:Exit→Act→World→Prop}
theorem zce {c rest:Code} (l:Nat) (hf:findLabel c l=some rest) (first:c.wp P (Exit.jump l (fun a w=>rest.wp P (Exit.noGoto Q) a w) Q) a w):(Code.scope c).wp P Q a w :=
 wp_scope_jumps l _ (fun _ _=>0) hf first (fun a w hJ=>Code.wp_mono (fun e a' w' (h:Exit.noGoto Q e a' w')=>by
  cases e with
  | goto l'=>exact False.elim h
  | normal=>exact h
  | exit _=>exact h
  | ret=>exact h
  | panic _=>exact h
  | outgrown=>exact h) hJ)
end
/-! ### a struct of one-cell fields, by value -/
section
variable {H:Type} {enc:TypeId × Value→H} {P:Program} {w:World} {base b0:Nat} {spare:Nat→Bool} {held:Bool} {r:Reach}
theorem size_4 {cs:Array Value} (h:cs.size=4):∃ a b c d,cs=#[a,b,c,d]:=by
 obtain⟨l⟩:=cs
 match l,h with
 | [a,b,c,d],_=>exact⟨a,b,c,d,rfl⟩
end
/-! ### an array of one-cell elements, by value -/
section
variable {H:Type} {enc:TypeId × Value→H} {P:Program} {w:World} {base b0:Nat} {spare:Nat→Bool} {held:Bool} {r:Reach}
end
/-! ### results that lie in cells: structs and arrays, handed back by value -/
section
variable {P:Program}
theorem zaa {fn:Func} {p u:Tmp} {ty:TypeId} (h:fn.results=#[.cell p ty,.tmp u]) (tmps:Array Value) (w:World) (b o:Nat) (cs:List Value) (d:TypeDesc)
  (hp:tmps.getD p undef=.pointer (some ⟨b,o,none⟩)) (hc:w.rangeAt b o cs) (hu:P.underlying ty=some d) (hd:d.isRow=true) (hi:(P.info? ty).map (·.size)=some cs.length) :
  (results fn tmps).run P w=.ok (.tuple #[.agg cs.toArray,tmps.getD u undef]) w:=by
 rw [results_cell_tmp h,hp]
 simp [asAddr,run_loadVar_mid w b o ty cs d hc hu hd hi]
theorem zbi {fn:Func} {p:Tmp} {ty:TypeId} (h:fn.results=#[.cell p ty]) (tmps:Array Value) (w:World) (b o:Nat) (cs:List Value) (d:TypeDesc)
  (hp:tmps.getD p undef=.pointer (some ⟨b,o,none⟩)) (hc:w.rangeAt b o cs) (hu:P.underlying ty=some d) (hd:d.isRow=true) (hi:(P.info? ty).map (·.size)=some cs.length) :
  (results fn tmps).run P w=.ok (.agg cs.toArray) w:=by
 have hp':tmps[p]?.getD undef=.pointer (some ⟨b,o,none⟩):=by simpa using hp
 simp [results,h,hp',asAddr,run_loadVar_mid w b o ty cs d hc hu hd hi]
theorem zc1 {w:World} {b:Nat} {x y:Value} (h0:w.cell? ⟨b,0,none⟩=some x) (h1:w.cell? ⟨b,1,none⟩=some y):w.rangeAt b 0 [x,y]:=by
 intro j v hj
 match j,hj with
 | 0,hj=>simpa [← hj] using h0
 | 1,hj=>simpa [← hj] using h1
theorem za3 {w:World} {b:Nat} {x y z:Value} (h0:w.cell? ⟨b,0,none⟩=some x) (h1:w.cell? ⟨b,1,none⟩=some y) (h2:w.cell? ⟨b,2,none⟩=some z):w.rangeAt b 0 [x,y,z]:=by
 intro j v hj
 match j,hj with
 | 0,hj=>simpa [← hj] using h0
 | 1,hj=>simpa [← hj] using h1
 | 2,hj=>simpa [← hj] using h2
end
/-! ### a struct that lies in a box of its own, behind calls that only make memory -/
/-! ### append of whatever reads, onto a row of the call's own -/
section
variable {P:Program}
theorem append_none (w:World) (base:Nat) (t ty e:TypeId) (i:TypeInfo) (size:Nat) (ht:P.underlying t=some (.slice e)) (hi:P.info? e=some i)
  (v:Value) (n:Nat) (xs:List Value) (hown:w.ownsRow base e size v n xs) (c:Nat) :
  ∃ v' w',(Builtin.append_ #[t,t] ty #[v,.slice none 0 c]).run P w=.ok v' w'∧w'.ownsRow base e size v' (n+0) (xs ++ [])∧w.grownBy w' v.ownBlock∧(v'.ownBlock=v.ownBlock∨v'.ownBlock=some w.heap.size):=by
 have hrun:(Builtin.append_ #[t,t] ty #[v,.slice none 0 c]).run P w=.ok v w:=by
  rcases hown.2 with ⟨rfl,rfl⟩ | ⟨g,cap,cur,rfl,_,_,hnc,_⟩
  ·simp [Builtin.append_,run_underlying ht,sizeOf,typeInfo,hi,Builtin.lenOf,Builtin.firstCells]
  ·simp [Builtin.append_,run_underlying ht,sizeOf,typeInfo,hi,Builtin.lenOf,Builtin.firstCells,hnc,storeCells]
 exact⟨v,w,hrun,by simpa using hown,World.grownBy.refl w _,.inl rfl⟩
theorem append_rd_run (w:World) (base:Nat) (t ty e:TypeId) (i:TypeInfo) (z:Value) (size bytes:Nat) (ht:P.underlying t=some (.slice e)) (hi:P.info? e=some i) (hz:i.zero=some z)
  (hsize:i.size=size) (hby:i.bytes=bytes) (hzs:z.cells.size=size) (hsz:0 < size)
  (v:Value) (n:Nat) (xs:List Value) (hown:w.ownsRow base e size v n xs) {B:Nat} {A:Option Addr} (m c:Nat) {news:List Value} (hl:news.length=m * size) (hr:Rd w B A news)
  (h1:∀ u∈news,u.oneCell'=true) (h63:n+m≤maxLen) (hbytes:(n+m) * bytes≤140737488355328) (hbase:base≤w.heap.size) :
  ∃ v' w',(Builtin.append_ #[t,t] ty #[v,.slice A m c]).run P w=.ok v' w'∧w'.ownsRow base e size v' (n+m) (xs ++ news)∧w.grownBy w' v.ownBlock ∧
   (v'.ownBlock=v.ownBlock∨v'.ownBlock=some w.heap.size):=by
 match A,hr with
 | some ad,hr =>
   have hcell:∀ j u,news[j]?=some u→w.cell? (ad.add j)=some u:=fun j u hu=>by
    obtain⟨ad',h,_,hc⟩:=hr j u hu
    cases h
    exact hc
   obtain⟨v',w',a1,a2,a3,_,a4⟩:=run_append_own_at (P:=P) w base t ty e i z size bytes ht hi hz hsize hby hzs hsz v n xs hown ad m c news hl hcell h1 h63 hbytes hbase
   exact⟨v',w',a1,a2,a3,a4⟩
 | none,hr =>
   have hn:news=[]:=by
    cases news with
    | nil=>rfl
    | cons u us=>obtain⟨ad,h,_⟩:=hr 0 u rfl;cases h
   subst hn
   have hm:m=0:=by
    rcases Nat.eq_zero_or_pos m with h | h
    ·exact h
    ·have:=Nat.mul_pos h hsz;simp at hl;omega
   subst hm
   obtain⟨v',w',b1,b2,b3⟩:=append_none w base t ty e i size ht hi v n xs hown c
   exact⟨v',w',b1,b2,b3⟩
theorem zbb (w:World) {ops:Array Oper} {rest:List Oper} {o:Oper} {a:Act} {Q:Exit→Act→World→Prop}
  (hg:o.guard=none) (s x:Operand) (t:TypeId) (hop:o.op=Op.call { callee:=Callee.builtin Builtin.append,args:=#[s,x],argTypes:=#[t,t] })
  (base:Nat) (e:TypeId) (i:TypeInfo) (z:Value) (size bytes:Nat) (ht:P.underlying t=some (.slice e)) (hi:P.info? e=some i) (hz:i.zero=some z)
  (hsize:i.size=size) (hby:i.bytes=bytes) (hzs:z.cells.size=size) (hsz:0 < size)
  (v:Value) (n:Nat) (xs:List Value) (hs:a.eval s=v) (hown:w.ownsRow base e size v n xs) (B:Nat) (A:Option Addr) (m c:Nat) (news:List Value) (hx:a.eval x=.slice A m c)
  (hl:news.length=m * size) (hr:Rd w B A news) (h1:∀ u∈news,u.oneCell'=true) (h63:n+m≤maxLen) (hbytes:(n+m) * bytes≤140737488355328) (hbase:base≤w.heap.size)
  (hK:∀ v' w',w'.ownsRow base e size v' (n+m) (xs ++ news)→w.grownBy w' v.ownBlock→(v'.ownBlock=v.ownBlock∨v'.ownBlock=some w.heap.size)→wpList P ops Q rest (a.put o.dst v') w') :
  wpList P ops Q (o :: rest) a w:=by
 refine wpList_plain hg fun K hK'=>?_
 obtain⟨v',w',hrun,r1,r2,r3⟩:=append_rd_run (P:=P) w base t o.type e i z size bytes ht hi hz hsize hby hzs hsz v n xs hown m c hl hr h1 h63 hbytes hbase
 unfold Oper.wp
 simp [execOp,hop,resolve,invoke,builtin,hs,hx,hrun,Result.andThen]
 exact hK' _ _ (hK v' w' r1 r2 r3)
theorem zar (w:World) {ops:Array Oper} {o:Oper} {a:Act} {K:Act→World→Prop} {Q:Exit→Act→World→Prop} {E:Prop}
  (hg:o.guard=none) (s x:Operand) (t:TypeId) (hop:o.op=Op.call { callee:=Callee.builtin Builtin.append,args:=#[s,x],argTypes:=#[t,t] })
  (base:Nat) (e:TypeId) (i:TypeInfo) (z:Value) (size bytes:Nat) (ht:P.underlying t=some (.slice e)) (hi:P.info? e=some i) (hz:i.zero=some z)
  (hsize:i.size=size) (hby:i.bytes=bytes) (hzs:z.cells.size=size) (hsz:0 < size)
  (v:Value) (n:Nat) (xs:List Value) (hs:a.eval s=v) (hown:w.ownsRow base e size v n xs) (B:Nat) (A:Option Addr) (m c:Nat) (news:List Value) (hx:a.eval x=.slice A m c)
  (hl:news.length=m * size) (hr:Rd w B A news) (h1:∀ u∈news,u.oneCell'=true) (h63:n+m≤maxLen) (hbytes:(n+m) * bytes≤140737488355328) (hbase:base≤w.heap.size)
  (hK:∀ v' w',w'.ownsRow base e size v' (n+m) (xs ++ news)→w.grownBy w' v.ownBlock→(v'.ownBlock=v.ownBlock∨v'.ownBlock=some w.heap.size)→K (a.put o.dst v') w') :
  if Region.wanted o (yielded ops a.tmps)=true then Oper.wp P o a w K Q else E:=by
 have hw:Region.wanted o (yielded ops a.tmps)=true:=by simp [Region.wanted,hg]
 rw [if_pos hw]
 obtain⟨v',w',hrun,r1,r2,r3⟩:=append_rd_run (P:=P) w base t o.type e i z size bytes ht hi hz hsize hby hzs hsz v n xs hown m c hl hr h1 h63 hbytes hbase
 unfold Oper.wp
 simp [execOp,hop,resolve,invoke,builtin,hs,hx,hrun,Result.andThen]
 exact hK v' w' r1 r2 r3
end
theorem own_form {w:World} {base:Nat} {e:TypeId} {size n:Nat} {v:Value} {xs:List Value} (h:w.ownsRow base e size v n xs) (hn:0 < n) :
  ∃ g cap,v=.slice (some ⟨g,0,none⟩) n cap∧base≤g∧n≤cap∧cap≤maxLen∧Rd w w.heap.size (some ⟨g,0,none⟩) xs:=by
 rcases h.2 with ⟨_,h0⟩ | ⟨g,cap,cur,rfl,hb,hh,hnc,hcm,hs,ht⟩
 ·omega
 ·refine⟨g,cap,rfl,hb,hnc,hcm,fun j u hu=>?_⟩
  have e1:(⟨g,0,none⟩:Addr).add j=⟨g,j,none⟩:=by
   exact Z2g
  have hlt:g < w.heap.size:=by
   exact Z2v
  refine⟨_,rfl,hlt,?_⟩
  rw [e1,cell_of_row _ _ _ _ _ _ hh]
  rw [← ht,List.getElem?_take] at hu
  split at hu
  ·rw [← hu];simp
  ·cases hu
theorem za5 (k:IntKind) (zs:List Int):∀ u∈zs.map (Value.int k),u.oneCell'=true:=by
 intro u hu
 obtain⟨z,_,rfl⟩:=List.mem_map.1 hu
 rfl
theorem zbh {w w':World} (h:Below w.heap.size w w') (row:Option Nat):w.grownBy w' row:=⟨h.os,h.tape,h.output,h.size,fun k hk _=>h.block k hk⟩
theorem own_below {w w':World} {base:Nat} {e:TypeId} {size n:Nat} {v:Value} {xs:List Value} (h:w.ownsRow base e size v n xs) (hb:Below w.heap.size w w'):w'.ownsRow base e size v n xs :=
 h.kept (zbh hb none) (by cases hv:v.ownBlock <;> simp)
theorem zaj {w:World} {base:Nat} {e:TypeId} {size n:Nat} {v:Value} {xs:List Value} (h:w.ownsRow base e size v n xs) :
  ∃ A c,v=.slice A n c∧n≤c∧c≤maxLen∧Rd w w.heap.size A xs:=by
 rcases Nat.eq_zero_or_pos n with h0 | h0
 ·subst h0
  have hx:xs=[]:=List.eq_nil_of_length_eq_zero (by simpa using h.1)
  subst hx
  rcases h.2 with ⟨rfl,_⟩ | ⟨g,cap,cur,rfl,_,_,h1,h2,_⟩
  ·exact⟨none,0,rfl,le_refl _,Nat.zero_le _,Rd.nil⟩
  ·exact⟨_,_,rfl,h1,h2,Rd.nil⟩
 ·obtain⟨g,cap,rfl,_,h1,h2,hr⟩:=own_form h h0
  exact⟨_,_,rfl,h1,h2,hr⟩
theorem zbd {w:World} {base:Nat} {e:TypeId} {size n g cap:Nat} {xs:List Value} (h:w.ownsRow base e size (.slice (some ⟨g,0,none⟩) n cap) n xs):g < w.heap.size:=by
 rcases h.2 with ⟨h0,_⟩ | ⟨g',cap',cur,h0,_,hh,_⟩
 ·cases h0
 ·cases h0
  exact Z2v
theorem zah {w:World} {base base':Nat} {e:TypeId} {size n:Nat} {v:Value} {xs:List Value} (h:w.ownsRow base e size v n xs) (hb:base'≤base):w.ownsRow base' e size v n xs:=by
 refine⟨h.1,?_⟩
 rcases h.2 with h0 | ⟨g,cap,cur,h1,h2,rest⟩
 ·exact .inl h0
 ·exact .inr ⟨g,cap,cur,h1,by omega,rest⟩
theorem zaq {w:World} {base:Nat} {e:TypeId} {size n:Nat} {v:Value} {xs:List Value} (h:w.ownsRow base e size v n xs):∀ k,v.ownBlock=some k→base≤k:=by
 intro k hk
 rcases h.2 with ⟨rfl,_⟩ | ⟨g,cap,cur,rfl,h2,_⟩
 ·cases hk
 ·cases hk;exact h2
def filled (L:List Value) (z:Value) (k:Nat):List Value:=L.take k ++ List.replicate (L.length - k) z
theorem filled_zero (L:List Value) (z:Value):filled L z 0=List.replicate L.length z:=by simp [filled]
theorem filled_all (L:List Value) (z:Value) {k:Nat} (h:L.length≤k):filled L z k=L:=by
 unfold filled
 rw [List.take_of_length_le h,show L.length - k=0 by omega];simp
theorem filled_set (L:List Value) (z:Value) {k:Nat} (h:k < L.length):(filled L z k).set k L[k]=filled L z (k+1):=by
 unfold filled
 rw [List.set_append_right _ _ Zba]
 have e:L.length - k=(L.length - (k+1))+1:=by omega
 have e2:k - (L.take k).length=0:=by simp;omega
 rw [e2,e,List.replicate_succ,List.set_cons_zero,List.take_succ_eq_append_getElem h,List.append_assoc]
 rfl
theorem filled_at (L:List Value) (z:Value) {k:Nat} (h:k < L.length):(filled L z k)[k]?=some z:=by
 unfold filled
 rw [List.getElem?_append_right Zba]
 have e2:k - (L.take k).length=0:=by simp;omega
 rw [e2,List.getElem?_replicate,if_pos Zb3]
/-! ### the frame of every law: it answers true, and what it was given reads as it did -/
section
variable {H:Type} {enc:TypeId × Value→H} {P:Program}
theorem trodAll_stays {base:Nat} (hl:laidOutB P=true) {W W':World} {sp':Nat→Bool} : ∀ {ts:List TypeId} {vs:List Value} {ds:List (DataW H)} {ps:List MemPlace},
  ts.all (fun t=>P.readableRec t && decide (t < P.types.size))=true →
  DataW.TrodAll enc P W base (fun _=>true) true ts vs ds ps→(∀ p∈ps,W.sameAt W' p)→(∀ p∈ps,sp' p.block=true)→DataW.TrodAll enc P W' base sp' true ts vs ds ps
 | [],vs,ds,ps,_,h,_,_=>by
   cases vs <;> cases ds <;> simp_all [DataW.TrodAll]
 | t :: ts,vs,ds,ps,ht,h,h1,h2=>by
   cases vs with
   | nil=>simp [DataW.TrodAll] at h
   | cons v vs =>
     cases ds with
     | nil=>simp [DataW.TrodAll] at h
     | cons d ds =>
       obtain⟨p,q,hp,hq,rfl⟩:=h
       simp only [List.all_cons,Bool.and_eq_true,decide_eq_true_eq] at ht
       exact⟨p,q,WideElems.Trod_stays hl ht.1.1 ht.1.2 hp (fun x hx=>h1 x (List.mem_append_left _ hx)) (fun x hx=>h2 x (List.mem_append_left _ hx)),
        trodAll_stays hl ht.2 hq (fun x hx=>h1 x (List.mem_append_right _ hx)) (fun x hx=>h2 x (List.mem_append_right _ hx)),rfl⟩
theorem trodAll_len {W:World} {base:Nat} {sp:Nat→Bool} {held:Bool} : ∀ {ts:List TypeId} {vs:List Value} {ds:List (DataW H)} {ps:List MemPlace},
  DataW.TrodAll enc P W base sp held ts vs ds ps→ds.length=ts.length
 | [],vs,ds,ps,h=>by cases vs <;> cases ds <;> simp_all [DataW.TrodAll]
 | t :: ts,vs,ds,ps,h=>by
   cases vs with
   | nil=>simp [DataW.TrodAll] at h
   | cons v vs =>
     cases ds with
     | nil=>simp [DataW.TrodAll] at h
     | cons d ds =>
       obtain⟨p,q,_,hq,_⟩:=h
       simpa using trodAll_len hq
theorem law_post {f:Func} {s:ChangeSpec} {W W':World} {args:Array Value} {ds gs:List (DataW H)} {before:List MemPlace} {tb:TypeId}
  (hl:laidOutB P=true) (hr:f.params.toList.all (fun t=>P.readableRec t && decide (t < P.types.size))=true) (hvars:s.vars=[])
  (hres:f.resultTypes=#[tb]) (htb:P.underlying tb=some .bool)
  (hfn:∀ ds:List (DataW H),ds.length=f.params.toList.length→s.fn H ds = { results:=[.lit (.bool true)],args:=ds })
  (hW:DataW.Whole enc P f.params.toList s.vars false W args.toList ds gs before) (hb:Below W.heap.size W W') :
  s.post enc P f false true false false W args (.bool true) W':=by
 have hW':=hW
 obtain⟨p,q,hA,hV,rfl,hz,hn⟩:=hW
 rw [hvars] at hV
 obtain⟨rfl,rfl⟩:=trodVars_none hV
 have hlt:∀ x∈p ++ [],x.block < W.heap.size:=fun x hx=>hW'.lt x hx
 have hf:=hfn ds (trodAll_len hA)
 have hargs:∀ sp:Nat→Bool,(∀ x∈p ++ [],sp x.block=true)→DataW.TrodAll enc P W' 0 sp true f.params.toList args.toList ds p:=fun sp hsp =>
  trodAll_stays hl hr hA (fun x hx=>hb.same (hlt x (by simpa using hx))) (fun x hx=>hsp x (by simpa using hx))
 have hold:∀ x∈p ++ [],(fun b=>decide (b < W.heap.size)) x.block=true:=fun x hx=>by simpa using hlt x hx
 have hresl:∀ (b:Nat) (sp:Nat→Bool) (hd:Bool),DataW.TrodAll enc P W' b sp hd f.resultTypes.toList ((Value.bool true).resultList f.resultTypes.size) [.lit (.bool true)] []:=by
  intro b sp hd
  rw [hres]
  exact trodAll_cons_mk (shut_bool htb true) trodAll_mk0
 have hfe:s.fn H (ds ++ []) = { results:=[.lit (.bool true)],args:=ds } := by rw [List.append_nil];exact hf
 refine⟨ds,[],p ++ [],[],p,[],hW',?_,?_,?_,World.keptBut_mono (fun x hx=>⟨hx,?_⟩) (hb.frame (· ∈ p ++ [])),fun _=>?_⟩
 ·rw [hfe];exact hresl _ _ _
 ·rw [hfe];exact hargs _ hold
 ·rw [hfe,hvars];rfl
 ·simpa using hx
 ·refine⟨ok_one hres rfl (okWide_bool_mk htb _),.lit (.bool true) :: ds,[],([] ++ p) ++ [],⟨[] ++ p,[],?_,?_,rfl,?_,fun h=>by cases h⟩,?_⟩
  ·have:=trodAll_append (hargs (fun _=>true) (fun _ _=>rfl)) (hresl 0 (fun _=>true) true)
   simpa using this
  ·rw [hvars];rfl
  ·intro b off hp
   have hin:MemPlace.cell b off∈p ++ []:=by simpa using hp
   rw [hb.frozen (hlt _ hin)]
   exact hz b off hin
  ·intro x hx _
   simpa using hx
end
end Kit
end
section
namespace FloatNum
open Go Go.RowKit
def IsD (d:Ieee.Datum) (n:Int):Prop:=∃ s m k,d=.number s m (-(k:Nat):Int)∧Ieee.signed s m 0=n * 2 ^ k
def rungOf (a:Nat):Nat:=(1074 - (52 - a.log2)) * 2 ^ 52+a * 2 ^ (52 - a.log2)
def wordOf (n:Int):Nat:=Ieee.double.word (decide (n < 0)) (rungOf n.natAbs)
def IsF (b:Nat) (n:Int):Prop:=if n=0 then b=0∨b=2 ^ 63 else b=wordOf n
theorem zbe (s:Bool) (m:Nat):Ieee.signed s m 0=if s then -(m:Int) else m:=by
 unfold Ieee.signed;cases s <;> simp
theorem signed_up (s:Bool) (m u:Nat):Ieee.signed s m u=Ieee.signed s m 0 * 2 ^ u:=by
 unfold Ieee.signed
 cases s <;> simp [Nat.shiftLeft_eq,Int.natCast_mul,Int.natCast_pow,Int.neg_mul]
theorem signed_abs (s:Bool) (m:Nat):(Ieee.signed s m 0).natAbs=m:=by
 rw [zbe];cases s <;> simp
theorem pow2 (k:Nat):0 < 2 ^ k:=Nat.two_pow_pos k
theorem pow2i (k:Nat):(0:Int) < 2 ^ k:=Int.pow_pos Zb3
theorem log2_shift (a k:Nat) (h:a≠0):(a * 2 ^ k).log2=a.log2+k:=by
 have h2:a * 2 ^ k≠0:=Nat.mul_ne_zero h (Nat.ne_of_gt (pow2 k))
 apply Nat.le_antisymm
 ·apply Nat.le_of_lt_succ
  rw [Nat.log2_lt h2]
  have:=(Nat.log2_lt (k:=a.log2+1) h).1 (lt_succ_self _)
  rw [show (a.log2+k).succ=(a.log2+1)+k by omega,Nat.pow_add]
  exact Nat.mul_lt_mul_of_pos_right this (pow2 k)
 ·rw [Nat.le_log2 h2,Nat.pow_add]
  exact Nat.mul_le_mul_right _ (Nat.log2_self_le h)
theorem cut_exact (n drop q:Nat) (hq:q≠0) (h:n=q * 2 ^ drop) (w:Ieee.Toward) (s:Bool):w.cut s n drop=q:=by
 have hd:drop≤n.log2+2:=by
  rw [h,log2_shift q drop hq];omega
 unfold Ieee.Toward.cut
 have hg:1 <<< min drop (n.log2+2)=2 ^ drop:=by rw [Nat.min_eq_left hd,Nat.one_shiftLeft]
 simp only [hg]
 have h1:n / 2 ^ drop=q:=by rw [h,Nat.mul_div_cancel _ (pow2 drop)]
 have h2:n % 2 ^ drop=0:=by rw [h,Nat.mul_mod_left]
 rw [h1,h2]
 have:=pow2 drop
 cases w <;> simp <;> omega
theorem cut_zero (w:Ieee.Toward) (s:Bool) (drop:Nat):w.cut s 0 drop=0:=by
 unfold Ieee.Toward.cut
 have hg:0 < 1 <<< min drop (Nat.log2 0+2):=by rw [Nat.one_shiftLeft];exact pow2 _
 have e:∀ g:Nat,0 < g→(g == 0)=false:=fun g h=>by simp;omega
 cases w <;> simp
theorem write_is {d:Ieee.Datum} {n:Int} (h:IsD d n) (hn:n.natAbs < 2 ^ 53):IsF (Ieee.double.write d) n:=by
 obtain⟨s,m,k,rfl,hv⟩:=h
 have hm:m=n.natAbs * 2 ^ k:=by
  exact Z2x
 unfold IsF
 show if n=0 then Ieee.double.nearest s m (-(k:Int))=0∨Ieee.double.nearest s m (-(k:Int))=2 ^ 63 else _
 by_cases h0:n=0
 ·subst h0
  have hm0:m=0:=by simpa using hm
  subst hm0
  rw [if_pos rfl]
  unfold Ieee.Format.nearest Ieee.Format.word
  rw [if_pos rfl]
  cases s
  ·left;rfl
  ·right;decide
 ·rw [if_neg h0]
  have ha:n.natAbs≠0:=by omega
  have hs:s=decide (n < 0):=by
   rw [zbe] at hv
   have hp:=pow2i k
   have hmp:(0:Int) < m:=by
    have:0 < m:=by rw [hm];exact Nat.mul_pos Zb3 (pow2 k)
    omega
   cases s
   ·have:0 < n * 2 ^ k:=by rw [← hv];simpa using hmp
    have:0 < n:=Int.pos_of_mul_pos_left this hp
    simp;omega
   ·have:n * 2 ^ k < 0:=by rw [← hv];simp;omega
    have:n < 0:=by
     apply Int.lt_of_not_ge
     intro hge
     have:=Int.mul_nonneg hge (Int.le_of_lt hp)
     omega
    simp;exact this
  subst hs
  have hL:n.natAbs.log2 < 53:=(Nat.log2_lt ha).2 hn
  have hml:m.log2=n.natAbs.log2+k:=by rw [hm,log2_shift _ _ ha]
  have hm0:m≠0:=by rw [hm];exact Nat.mul_ne_zero ha (Nat.ne_of_gt (pow2 k))
  show Ieee.double.nearest (decide (n < 0)) m (-(k:Int))=wordOf n
  unfold Ieee.Format.nearest wordOf
  rw [if_neg hm0]
  have hlp:Ieee.double.leastPlace = -1074:=by decide
  have hfb:Ieee.double.fractionBits=52:=rfl
  have hbin:Ieee.double.binade=2 ^ 52:=rfl
  have hlast:max (-(k:Int)+(m.log2:Int) - (Ieee.double.fractionBits:Int)) Ieee.double.leastPlace = -((52 - n.natAbs.log2:Nat):Int):=by
   rw [hml,hlp,hfb];omega
  dsimp only
  rw [hlast,hlp,hbin]
  generalize ht:52 - n.natAbs.log2=t
  have ht2:t≤52:=by omega
  have hkept:Ieee.Toward.even.cut (decide (n < 0)) (m <<< (-(k:Int) - -(t:Int)).toNat) (-(t:Int) - -(k:Int)).toNat=n.natAbs * 2 ^ t:=by
   apply cut_exact _ _ _ (Nat.mul_ne_zero ha (Nat.ne_of_gt (pow2 t)))
   rw [Nat.shiftLeft_eq,hm]
   rcases Nat.lt_or_ge k t with h1 | h1
   ·have e1:(-(k:Int) - -(t:Int)).toNat=t - k:=by omega
    have e2:(-(t:Int) - -(k:Int)).toNat=0:=by omega
    rw [e1,e2,Nat.mul_assoc, ← Nat.pow_add,show k+(t - k)=t by omega];simp
   ·have e1:(-(k:Int) - -(t:Int)).toNat=0:=by omega
    have e2:(-(t:Int) - -(k:Int)).toNat=k - t:=by omega
    rw [e1,e2,Nat.pow_zero,Nat.mul_one,Nat.mul_assoc, ← Nat.pow_add,show t+(k - t)=k by omega]
  rw [hkept]
  have e3:(-(t:Int) - -1074).toNat=1074 - t:=by omega
  have hle:n.natAbs * 2 ^ t < 2 ^ 53:=by
   exact Z20
  have hinf:Ieee.double.infRung=2047 * 2 ^ 52:=by decide
  have hr:rungOf n.natAbs=(1074 - t) * 2 ^ 52+n.natAbs * 2 ^ t:=by unfold rungOf;rw [ht]
  have h1:(1074 - t) * 2 ^ 52≤1074 * 2 ^ 52:=Nat.mul_le_mul_right _ Zb3
  have h2:(1074 - t) * 2 ^ 52+n.natAbs * 2 ^ t≤2047 * 2 ^ 52:=Nat.le_trans (Nat.add_le_add h1 (Nat.le_of_lt hle)) Zbc
  rw [e3,hinf,hr,Nat.min_eq_left h2]
theorem read_is {b:Nat} {n:Int} (h:IsF b n) (hn:n.natAbs < 2 ^ 53):IsD (Ieee.double.read b) n:=by
 have hlp:Ieee.double.leastPlace = -1074:=by decide
 have hbin:Ieee.double.binade=2 ^ 52:=rfl
 have hsw:Ieee.double.signWeight=2 ^ 63:=rfl
 have hinf:Ieee.double.infRung=2047 * 2 ^ 52:=by decide
 unfold IsF at h
 by_cases h0:n=0
 ·subst h0
  rw [if_pos rfl] at h
  rcases h with rfl | rfl
  ·exact⟨false,0,1074,by decide,by rw [zbe,Int.zero_mul];rfl⟩
  ·exact⟨true,0,1074,by decide,by rw [zbe,Int.zero_mul];rfl⟩
 ·rw [if_neg h0] at h
  have ha:n.natAbs≠0:=by omega
  have hL:n.natAbs.log2 < 53:=(Nat.log2_lt ha).2 hn
  generalize ht:52 - n.natAbs.log2=t at *
  have hr:rungOf n.natAbs=(1074 - t) * 2 ^ 52+n.natAbs * 2 ^ t:=by unfold rungOf;rw [ht]
  have hle:n.natAbs * 2 ^ t < 2 ^ 53:=by
   exact Z20
  have hge:2 ^ 52≤n.natAbs * 2 ^ t:=by
   have h1:=Nat.log2_self_le ha
   have h2:2 ^ n.natAbs.log2 * 2 ^ t≤n.natAbs * 2 ^ t:=Nat.mul_le_mul_right _ h1
   rw [← Nat.pow_add,show n.natAbs.log2+t=52 by omega] at h2
   exact h2
  generalize hA:n.natAbs * 2 ^ t=A at *
  refine⟨decide (n < 0),A,t,?_,?_⟩
  ·subst h
   unfold wordOf Ieee.Format.read Ieee.Format.word
   rw [hr,hsw,hbin,hlp,hinf]
   generalize hR:(1074 - t) * 2 ^ 52+A=R
   have hRu:R < 2047 * 2 ^ 52:=by
    have:(1074 - t) * 2 ^ 52≤1074 * 2 ^ 52:=Nat.mul_le_mul_right _ Zb3
    omega
   have hRl:2 ^ 52≤R:=by omega
   have hneg:((if decide (n < 0)=true then 2 ^ 63+R else R) / 2 ^ 63 % 2 == 1)=decide (n < 0):=by
    by_cases hs:n < 0
    ·simp [hs];omega
    ·simp [hs];omega
   have hrung:(if decide (n < 0)=true then 2 ^ 63+R else R) % 2 ^ 63=R:=by
    by_cases hs:n < 0
    ·simp [hs];omega
    ·simp [hs];omega
   simp only [hneg,hrung]
   rw [if_neg Zb3,if_pos hRu]
   have hd:R / 2 ^ 52=1074 - t+1:=by omega
   have hmo:2 ^ 52+R % 2 ^ 52=A:=by omega
   rw [hd,hmo]
   congr 1
   omega
  ·rw [zbe]
   have hAi:(A:Int)=(n.natAbs:Int) * 2 ^ t:=by rw [← hA];simp
   by_cases hs:n < 0
   ·simp only [hs,decide_true,if_true]
    rw [hAi,show (n.natAbs:Int) = -n by omega,Int.neg_mul,Int.neg_neg]
   ·simp only [hs,decide_false,Bool.false_eq_true,if_false]
    rw [hAi,show (n.natAbs:Int)=n by omega]
theorem IsD.opposite {d:Ieee.Datum} {n:Int} (h:IsD d n):IsD d.opposite (-n):=by
 obtain⟨s,m,k,rfl,hv⟩:=h
 refine⟨!s,m,k,rfl,?_⟩
 rw [Int.neg_mul, ← hv,zbe,zbe]
 cases s <;> simp
theorem IsD.sum {d e:Ieee.Datum} {n p:Int} (h:IsD d n) (h':IsD e p):∃ r,d.sum e=some r∧IsD r (n+p):=by
 obtain⟨s,m,k,rfl,hv⟩:=h
 obtain⟨t,q,j,rfl,hw⟩:=h'
 refine⟨_,rfl,?_⟩
 have hb:min (-(k:Int)) (-(j:Int)) = -((max k j:Nat):Int):=by omega
 generalize hM:max k j=M at hb
 have e1:(-(k:Int) - -(M:Int)).toNat=M - k:=by omega
 have e2:(-(j:Int) - -(M:Int)).toNat=M - j:=by omega
 simp only [hb,e1,e2]
 have hT:Ieee.signed s m (M - k)+Ieee.signed t q (M - j)=(n+p) * 2 ^ M:=by
  rw [signed_up,signed_up t,hv,hw,Int.mul_assoc,Int.mul_assoc, ← Int.pow_add, ← Int.pow_add,show k+(M - k)=M by omega,show j+(M - j)=M by omega, ← Int.add_mul]
 rw [hT]
 refine⟨_,_,M,rfl,?_⟩
 rw [zbe]
 have hp:=pow2i M
 by_cases hz:(n+p) * 2 ^ M=0
 ·rw [hz];cases s <;> cases t <;> simp
 ·rw [if_neg hz]
  by_cases hs:(n+p) * 2 ^ M < 0
  ·simp only [hs,decide_true,if_true];omega
  ·simp only [hs,decide_false,Bool.false_eq_true,if_false];omega
theorem IsF.add {a b:Nat} {n p:Int} (h:IsF a n) (h':IsF b p) (hn:n.natAbs < 2 ^ 53) (hp:p.natAbs < 2 ^ 53) (hs:(n+p).natAbs < 2 ^ 53) :
  ∃ r,floatBits .add .f64 a b=some r∧IsF r (n+p):=by
 obtain⟨d,h1,h2⟩:=(read_is h hn).sum (read_is h' hp)
 refine⟨Ieee.double.write d,?_,write_is h2 hs⟩
 show ((Ieee.double.read a).sum (Ieee.double.read b)).map _=_
 rw [h1];rfl
theorem IsF.sub {a b:Nat} {n p:Int} (h:IsF a n) (h':IsF b p) (hn:n.natAbs < 2 ^ 53) (hp:p.natAbs < 2 ^ 53) (hs:(n - p).natAbs < 2 ^ 53) :
  ∃ r,floatBits .sub .f64 a b=some r∧IsF r (n - p):=by
 obtain⟨d,h1,h2⟩:=(read_is h hn).sum (read_is h' hp).opposite
 refine⟨Ieee.double.write d,?_,write_is (by rw [Int.sub_eq_add_neg];exact h2) hs⟩
 show ((Ieee.double.read a).sum (Ieee.double.read b).opposite).map _=_
 rw [h1];rfl
theorem signed_mul (s t:Bool) (m q:Nat):Ieee.signed (s ^^ t) (m * q) 0=Ieee.signed s m 0 * Ieee.signed t q 0:=by
 rw [zbe,zbe,zbe]
 cases s <;> cases t <;> simp [Int.neg_mul,Int.mul_neg]
theorem IsF.mul {a b:Nat} {n p:Int} (h:IsF a n) (h':IsF b p) (hn:n.natAbs < 2 ^ 53) (hp:p.natAbs < 2 ^ 53) (hs:(n * p).natAbs < 2 ^ 53) :
  ∃ r,floatBits .mul .f64 a b=some r∧IsF r (n * p):=by
 obtain⟨s,m,k,e1,hv⟩:=read_is h hn
 obtain⟨t,q,j,e2,hw⟩:=read_is h' hp
 refine⟨Ieee.double.write (.number (s ^^ t) (m * q) (-(k:Int) + -(j:Int))),?_,write_is ⟨s ^^ t,m * q,k+j,?_,?_⟩ hs⟩
 ·show ((Ieee.double.read a).product (Ieee.double.read b)).map _=_
  rw [e1,e2];rfl
 ·congr 1;omega
 ·rw [signed_mul,hv,hw,Int.pow_add]
  simp only [Int.mul_assoc,Int.mul_left_comm]
theorem read_small {b:Nat} {s:Bool} {m:Nat} {e:Int} (h:Ieee.double.read b=.number s m e):m < 2 ^ 53:=by
 have hbin:Ieee.double.binade=2 ^ 52:=rfl
 unfold Ieee.Format.read at h
 rw [hbin] at h
 dsimp only at h
 split at h
 ·injection h with h1 h2 h3
  omega
 ·split at h
  ·injection h with h1 h2 h3
   have:b % Ieee.double.signWeight % 2 ^ 52 < 2 ^ 52:=Nat.mod_lt _ Zbc
   omega
  ·split at h <;> cases h
theorem IsF.quarter {a:Nat} {n:Int} (h:IsF a (4 * n)) (hn:(4 * n).natAbs < 2 ^ 53) :
  ∃ r,floatBits .quo .f64 a 4616189618054758400=some r∧IsF r n:=by
 obtain⟨s,m,k,e1,hv⟩:=read_is h hn
 have e2:Ieee.double.read 4616189618054758400=.number false (2 ^ 52) (-50):=by decide
 have hl:(2 ^ 52:Nat).log2=52:=by decide
 have hq:∃ u,52≤u∧(Ieee.double.read a).quotient 54 (Ieee.double.read 4616189618054758400)=some (.number s (m * 2 ^ (u - 52+1)) (-((k+(u - 52+1)+2:Nat):Int))):=by
  have hm:=read_small e1
  have hlog:m.log2≤52:=by
   by_cases h0:m=0
   ·subst h0;decide
   ·have:=(Nat.log2_lt (k:=53) h0).2 hm;omega
  refine⟨106 - m.log2,by omega,?_⟩
  rw [e1,e2]
  show (if (2 ^ 52:Nat)=0 then (if m=0 then none else some (Ieee.Datum.infinity (s ^^ false))) else some (Ieee.Datum.number (s ^^ false) (2 * ((m <<< (54+(2 ^ 52:Nat).log2 - m.log2)) / 2 ^ 52)+((m <<< (54+(2 ^ 52:Nat).log2 - m.log2)) % 2 ^ 52 != 0).toNat) (-(k:Int) - -50 - ((54+(2 ^ 52:Nat).log2 - m.log2:Nat):Int) - 1)))=_
  rw [if_neg Zbc,hl,Nat.shiftLeft_eq]
  generalize hv2:106 - m.log2=v
  have hsp:m * 2 ^ v=m * 2 ^ (v - 52) * 2 ^ 52:=by rw [Nat.mul_assoc, ← Nat.pow_add,show v - 52+52=v by omega]
  rw [hsp,Nat.mul_div_cancel _ (pow2 52),Nat.mul_mod_left]
  have e5:2 * (m * 2 ^ (v - 52))+((0:Nat) != 0).toNat=m * 2 ^ (v - 52+1):=by
   show 2 * (m * 2 ^ (v - 52))=_;rw [Nat.pow_succ, ← Nat.mul_assoc m,Nat.mul_comm 2]
  rw [e5,Bool.xor_false]
  congr 2
  omega
 obtain⟨u,hu,hq⟩:=hq
 refine⟨Ieee.double.write (.number s (m * 2 ^ (u - 52+1)) (-((k+(u - 52+1)+2:Nat):Int))),?_,write_is ⟨_,_,_,rfl,?_⟩ Zb3⟩
 ·show ((Ieee.double.read a).quotient 54 (Ieee.double.read 4616189618054758400)).map _=_
  rw [hq];rfl
 ·have:Ieee.signed s (m * 2 ^ (u - 52+1)) 0=Ieee.signed s m 0 * 2 ^ (u - 52+1):=by
   rw [zbe,zbe];cases s <;> simp [Int.neg_mul]
  generalize u - 52+1=v at this ⊢
  rw [this,hv,show (k+v+2:Nat)=k+(v+2) by omega,Int.pow_add 2 k,Int.pow_add 2 v]
  have e4:(2:Int) ^ 2=4:=by decide
  rw [e4]
  simp only [Int.mul_left_comm,Int.mul_comm]
theorem IsF.toInt {a:Nat} {n:Int} (h:IsF a n) (hn:n.natAbs < 2 ^ 53) (dst:IntKind) (h1:dst.min≤n) (h2:n≤dst.max):floatToIntVal .f64 a dst=some n:=by
 obtain⟨s,m,k,e1,hv⟩:=read_is h hn
 have hm:m=n.natAbs * 2 ^ k:=by
  exact Z2x
 have hz:(FloatKind.f64.decode a).toInt .zero=some n:=by
  show (Ieee.double.read a).toInt .zero=some n
  rw [e1]
  show some (Ieee.signed s (Ieee.Toward.zero.cut s (m <<< (-(k:Int)).toNat) (-(-(k:Int))).toNat) 0)=some n
  have e3:(-(k:Int)).toNat=0:=by omega
  have e4:(-(-(k:Int))).toNat=k:=by omega
  rw [e3,e4,Nat.shiftLeft_zero]
  have hc:Ieee.Toward.zero.cut s m k=n.natAbs:=by
   by_cases h0:n=0
   ·subst h0
    have:m=0:=by simpa using hm
    rw [this,cut_zero];rfl
   ·exact cut_exact _ _ _ Zb3 hm _ _
  rw [hc]
  congr 1
  have hp:=pow2i k
  have e5:Ieee.signed s n.natAbs 0 * 2 ^ k=n * 2 ^ k:=by
   rw [← hv,zbe,zbe,hm];cases s <;> simp [Int.neg_mul]
  exact Int.eq_of_mul_eq_mul_right (Int.ne_of_gt hp) e5
 unfold floatToIntVal
 rw [hz]
 simp [h1,h2]
theorem IsF.ofInt (n:Int) (hn:n.natAbs < 2 ^ 53):IsF (FloatKind.f64.nearest n) n:=by
 refine write_is (d:=.number (n < 0) n.natAbs 0) ⟨_,_,0,rfl,?_⟩ hn
 rw [zbe]
 by_cases hs:n < 0
 ·simp only [hs,decide_true,if_true];omega
 ·simp only [hs,decide_false,Bool.false_eq_true,if_false];omega
abbrev G:=Int × Int
def gadd (p q:G):G:=(p.1+q.1,p.2+q.2)
def gmul (p q:G):G:=(p.1 * q.1 - p.2 * q.2,p.1 * q.2+p.2 * q.1)
def Bd (B:Nat) (p:G):Prop:=p.1.natAbs≤B∧p.2.natAbs≤B
def IsC (v:Value) (p:G):Prop:=∃ a b,v=.complex .f64 a b∧IsF a p.1∧IsF b p.2
def IsU (q:G):Prop:=q=(1,0)∨q=(-1,0)∨q=(0,1)∨q=(0, -1)
def upow (e:Int):Nat→G
 | 0=>(1,0)
 | n+1=>(-(e * (upow e n).2),e * (upow e n).1)
theorem upow_u {e:Int} (he:e=1∨e = -1):∀ n,IsU (upow e n)
 | 0=>.inl rfl
 | n+1=>by
   have h:=upow_u he n
   unfold upow
   rcases he with rfl | rfl <;> rcases h with h | h | h | h <;> rw [h] <;> simp [IsU]
theorem upow_add (e:Int) (m:Nat):∀ n,gmul (upow e m) (upow e n)=upow e (m+n)
 | 0=>by simp [upow,gmul]
 | n+1=>by
   have h:=upow_add e m n
   have h1:(gmul (upow e m) (upow e n)).1=(upow e (m+n)).1:=by rw [h]
   have h2:(gmul (upow e m) (upow e n)).2=(upow e (m+n)).2:=by rw [h]
   show _=(-(e * (upow e (m+n)).2),e * (upow e (m+n)).1)
   rw [← h1, ← h2]
   unfold gmul
   show (_,_)=_
   simp only [upow]
   congr 1
   ·simp only [Int.mul_add,Int.mul_neg,Int.neg_add,Int.mul_left_comm];omega
   ·simp only [Int.mul_sub,Int.mul_neg,Int.mul_left_comm];omega
theorem upow_one (e:Int):upow e 1=(0,e):=by simp [upow]
theorem Bd.add {A B:Nat} {p q:G} (h:Bd A p) (h':Bd B q):Bd (A+B) (gadd p q):=by
 unfold Bd gadd at *
 omega
theorem Bd.turn {B:Nat} {p q:G} (h:Bd B p) (hq:IsU q):Bd B (gmul p q):=by
 unfold Bd gmul at *
 rcases hq with rfl | rfl | rfl | rfl <;> simp <;> omega
theorem IsU.bd {q:G} (h:IsU q):Bd 1 q:=by rcases h with rfl | rfl | rfl | rfl <;> simp [Bd]
theorem Bd.mul {A B:Nat} {p q:G} (h:Bd A p) (h':Bd B q):(p.1 * q.1).natAbs≤A * B∧(p.2 * q.2).natAbs≤A * B∧(p.1 * q.2).natAbs≤A * B∧(p.2 * q.1).natAbs≤A * B:=by
 simp only [Int.natAbs_mul]
 exact⟨Nat.mul_le_mul h.1 h'.1,Nat.mul_le_mul h.2 h'.2,Nat.mul_le_mul h.1 h'.2,Nat.mul_le_mul h.2 h'.1⟩
theorem isF_zero:IsF 0 0:=by unfold IsF;simp
theorem isF_one:IsF 4607182418800017408 1:=by unfold IsF;decide
theorem isF_neg:IsF 13830554455654793216 (-1):=by unfold IsF;decide
theorem IsC.add {P:Program} {u v:Value} {p q:G} (h:IsC u p) (h':IsC v q) {A B:Nat} (ha:Bd A p) (hb:Bd B q) (hs:A+B < 2 ^ 53) :
  ∃ r,(∀ (w:World) (t:TypeId),(binOp .add t u v).run P w=.ok r w)∧IsC r (gadd p q):=by
 obtain⟨a,b,rfl,h1,h2⟩:=h
 obtain⟨c,d,rfl,h3,h4⟩:=h'
 have hsum:=ha.add hb
 unfold Bd gadd at *
 obtain⟨x,e1,e2⟩:=h1.add h3 Zb3 Zb3 Zb3
 obtain⟨y,e3,e4⟩:=h2.add h4 Zb3 Zb3 Zb3
 refine⟨.complex .f64 x y,fun w t=>run_complex_sum w .add (.inl rfl) t .f64 a b c d x y ?_,x,y,rfl,e2,e4⟩
 unfold cSumBits
 rw [e1,e3];rfl
theorem IsC.mul {P:Program} {u v:Value} {p q:G} (h:IsC u p) (h':IsC v q) {A B:Nat} (ha:Bd A p) (hb:Bd B q) (hA:A < 2 ^ 53) (hB:B < 2 ^ 53) (hs:A * B+A * B < 2 ^ 53) :
  ∃ r,(∀ (w:World) (t:TypeId),(binOp .mul t u v).run P w=.ok r w)∧IsC r (gmul p q):=by
 obtain⟨a,b,rfl,h1,h2⟩:=h
 obtain⟨c,d,rfl,h3,h4⟩:=h'
 obtain⟨m1,m2,m3,m4⟩:=ha.mul hb
 obtain⟨b1,b2⟩:=ha
 obtain⟨b3,b4⟩:=hb
 have p1:p.1.natAbs < 2 ^ 53:=Nat.lt_of_le_of_lt b1 hA
 have p2:p.2.natAbs < 2 ^ 53:=Nat.lt_of_le_of_lt b2 hA
 have p3:q.1.natAbs < 2 ^ 53:=Nat.lt_of_le_of_lt b3 hB
 have p4:q.2.natAbs < 2 ^ 53:=Nat.lt_of_le_of_lt b4 hB
 generalize hAB:A * B=AB at *
 have q1:(p.1 * q.1).natAbs < 2 ^ 53:=by omega
 have q2:(p.2 * q.2).natAbs < 2 ^ 53:=by omega
 have q3:(p.1 * q.2).natAbs < 2 ^ 53:=by omega
 have q4:(p.2 * q.1).natAbs < 2 ^ 53:=by omega
 obtain⟨ac,e1,f1⟩:=h1.mul h3 p1 p3 q1
 obtain⟨bd,e2,f2⟩:=h2.mul h4 p2 p4 q2
 obtain⟨ad,e3,f3⟩:=h1.mul h4 p1 p4 q3
 obtain⟨bc,e4,f4⟩:=h2.mul h3 p2 p3 q4
 obtain⟨x,e5,f5⟩:=f1.sub f2 q1 q2 Zb3
 obtain⟨y,e6,f6⟩:=f3.add f4 q3 q4 Zb3
 refine⟨.complex .f64 x y,fun w t=>run_complex_mul w t a b c d x y ?_,x,y,rfl,f5,f6⟩
 unfold cMulBits
 rw [e1,e2,e3,e4]
 show (floatBits .sub .f64 ac bd).bind _=_
 rw [e5]
 show (floatBits .add .f64 ad bc).bind _=_
 rw [e6];rfl
def gpart (p:Nat→G) (e:Int) (k:Nat):Nat→G
 | 0=>(0,0)
 | m+1=>gadd (gpart p e k m) (gmul (p m) (upow e (k * m)))
theorem gpart_bd {p:Nat→G} {e:Int} {B:Nat} (he:e=1∨e = -1) (hp:∀ i,Bd B (p i)) (k:Nat):∀ m,Bd (m * B) (gpart p e k m)
 | 0=>by simp [gpart,Bd]
 | m+1=>by
   rw [Nat.succ_mul]
   exact (gpart_bd he hp k m).add ((hp m).turn (upow_u he _))
def SumsR (p:Nat→G) (e:Int) (k m:Nat) (S:Nat→Value):Prop:=∀ i,i < 4→IsC (S i) (if i < k then gpart p e i 4 else if i=k then gpart p e k m else (0,0))
theorem SumsR.start (p:Nat→G) (e:Int):SumsR p e 0 0 (fun _=>.complex .f64 0 0):=fun i hi=>by
 have:(if i < 0 then gpart p e i 4 else if i=0 then gpart p e 0 0 else (0,0))=(0,0):=by
  rw [if_neg Zb3];split <;> rfl
 rw [this];exact⟨0,0,rfl,isF_zero,isF_zero⟩
theorem SumsR.next {p:Nat→G} {e:Int} {k:Nat} {S:Nat→Value} (h:SumsR p e k 4 S):SumsR p e (k+1) 0 S:=fun i hi=>by
 have:=h i hi
 by_cases h1:i < k
 ·rw [if_pos h1] at this;rw [if_pos Zb3];exact this
 ·by_cases h2:i=k
  ·subst h2;rw [if_neg h1,if_pos rfl] at this;rw [if_pos Zb3];exact this
  ·rw [if_neg h1,if_neg h2] at this;rw [if_neg Zb3]
   by_cases h3:i=k+1
   ·rw [if_pos h3];exact this
   ·rw [if_neg h3];exact this
theorem SumsR.at {p:Nat→G} {e:Int} {k m:Nat} {S:Nat→Value} (h:SumsR p e k m S) (hk:k < 4):IsC (S k) (gpart p e k m):=by
 have:=h k hk
 rw [if_neg Zb3,if_pos rfl] at this;exact this
theorem SumsR.step {p:Nat→G} {e:Int} {k m:Nat} {S:Nat→Value} (h:SumsR p e k m S) {v:Value} (hv:IsC v (gpart p e k (m+1))):SumsR p e k (m+1) (fun i=>if i=k then v else S i):=fun i hi=>by
 by_cases h2:i=k
 ·subst h2;simp only [if_pos,if_neg (Nat.lt_irrefl i)];exact hv
 ·have:=h i hi
  rw [if_neg h2] at this
  simp only [if_neg h2]
  exact this
theorem SumsR.all {p:Nat→G} {e:Int} {S:Nat→Value} (h:SumsR p e 4 0 S) {i:Nat} (hi:i < 4):IsC (S i) (gpart p e i 4):=by
 have:=h i hi
 rw [if_pos hi] at this;exact this
def FillR (p:Nat→G) (k:Nat) (X:Nat→Value):Prop:=∀ i,i < 4→IsC (X i) (if i < k then p i else (0,0))
theorem FillR.start (p:Nat→G):FillR p 0 (fun _=>.complex .f64 0 0):=fun i hi=>by
 rw [if_neg Zb3];exact⟨0,0,rfl,isF_zero,isF_zero⟩
theorem FillR.step {p:Nat→G} {k:Nat} {X:Nat→Value} (h:FillR p k X) {v:Value} (hv:IsC v (p k)):FillR p (k+1) (fun i=>if i=k then v else X i):=fun i hi=>by
 by_cases e:i=k
 ·subst e;simp only [if_true];rw [if_pos Zb3];exact hv
 ·simp only [if_neg e]
  have:=h i hi
  by_cases h1:i < k
  ·rw [if_pos h1] at this;rw [if_pos Zb3];exact this
  ·rw [if_neg h1] at this;rw [if_neg Zb3];exact this
theorem FillR.all {p:Nat→G} {X:Nat→Value} (h:FillR p 4 X) {i:Nat} (hi:i < 4):IsC (X i) (p i):=by
 have:=h i hi
 rw [if_pos hi] at this;exact this
def l4 (a b c d:Int):Nat→Int
 | 0=>a
 | 1=>b
 | 2=>c
 | _=>d
def lp (a b c d:Int) (i:Nat):G:=(l4 a b c d i,0)
def In16 (a:Int):Prop := -32768≤a∧a≤32767
theorem l4_in {a b c d:Int} (ha:In16 a) (hb:In16 b) (hc:In16 c) (hd:In16 d):∀ i,In16 (l4 a b c d i)
 | 0=>ha
 | 1=>hb
 | 2=>hc
 | _+3=>hd
theorem lp_bd {a b c d:Int} (ha:In16 a) (hb:In16 b) (hc:In16 c) (hd:In16 d) (i:Nat):Bd 32768 (lp a b c d i):=by
 have:=l4_in ha hb hc hd i
 unfold In16 at this
 unfold lp Bd
 exact⟨by show (l4 a b c d i).natAbs≤32768;omega,by show (0:Int).natAbs≤32768;decide⟩
end FloatNum
end
section
namespace CFour
open Go Go.ChangeShapes Go.WideShapes Go.ChangeAt Go.RowKit
open FloatNum
def Four (g:Nat) (S:Nat→Value) (w:World):Prop:=(∀ i,i < 4→w.cell? ⟨g,i,none⟩=some (S i))∧(∀ i,i < 4→w.frozen? ⟨g,i,none⟩=false)∧g < w.heap.size
theorem Four.below {g:Nat} {S:Nat→Value} {w w':World} (h:Four g S w) {B:Nat} (hb:Below B w w') (hg:g < B):Four g S w':=by
 refine⟨fun i hi=>?_,fun i hi=>?_,Nat.lt_of_lt_of_le h.2.2 hb.size⟩
 ·rw [hb.cell (p:=⟨g,i,none⟩) hg];exact h.1 i hi
 ·rw [hb.frozen (p:=⟨g,i,none⟩) hg];exact h.2.1 i hi
theorem Four.drew {g:Nat} {S:Nat→Value} {w:World} (h:Four g S w):Four g S w.drew:=h
theorem Four.set {g:Nat} {S:Nat→Value} {w:World} (h:Four g S w) {k:Nat} (hk:k < 4) (v:Value):Four g (fun i=>if i=k then v else S i) (w.setCell ⟨g,k,none⟩ v):=by
 refine⟨fun i hi=>?_,fun i hi=>?_,?_⟩
 ·by_cases e:i=k
  ·subst e
   simp only [if_true]
   exact World.cell?_setCell_same' _ _ _ (by rw [h.1 i hi];rfl)
  ·simp only [if_neg e]
   rw [World.cell?_setCell_other _ _ _ _ (by intro q;cases q;exact e rfl)]
   exact h.1 i hi
 ·rw [World.frozen?_setCell];exact h.2.1 i hi
 ·simp;exact h.2.2
theorem Four.other {g g' k:Nat} {S:Nat→Value} {w:World} (h:Four g S w) (v:Value) (hg:g≠g'):Four g S (w.setCell ⟨g',k,none⟩ v):=by
 refine⟨fun i hi=>?_,fun i hi=>?_,?_⟩
 ·rw [World.cell?_setCell_other _ _ _ _ (by intro q;cases q;exact hg rfl)]
  exact h.1 i hi
 ·rw [World.frozen?_setCell];exact h.2.1 i hi
 ·simp;exact h.2.2
theorem Four.new (w:World) (v:Value) (T:TypeId):Four w.heap.size (fun _=>v) (w.alloc (.cells #[v,v,v,v] T)):=by
 exact Z22
theorem Four.box (w:World) (c:Nat→Value) (T:TypeId):Four w.heap.size c (w.alloc (.cells #[c 0,c 1,c 2,c 3] T)):=by
 exact Z22
theorem lt4 {k:Nat} (h:k < 4):k=0∨k=1∨k=2∨k=3:=by omega
abbrev agg4 (S:Nat→Value):Value:=.agg #[S 0,S 1,S 2,S 3]
def z0:Value:=.complex .f64 0 0
theorem ix0 (c:Nat→Value) (w:World):(Instr.index 178 (agg4 c) (Jj Jq 0)).run Tryz.prog w=.ok (c 0) w:=by kernel_rfl
theorem ix1 (c:Nat→Value) (w:World):(Instr.index 178 (agg4 c) (Jj Jq 1)).run Tryz.prog w=.ok (c 1) w:=by kernel_rfl
theorem ix2 (c:Nat→Value) (w:World):(Instr.index 178 (agg4 c) (Jj Jq 2)).run Tryz.prog w=.ok (c 2) w:=by kernel_rfl
theorem ix3 (c:Nat→Value) (w:World):(Instr.index 178 (agg4 c) (Jj Jq 3)).run Tryz.prog w=.ok (c 3) w:=by kernel_rfl
theorem st_c (x y:Nat):∀ (w:World) (a:Addr) (m:Mode),(store a (.complex .f64 x y) m).run Tryz.prog w=stored Tryz.prog w a (.complex .f64 x y) m:=fun w a m=>run_store _ w a _ m rfl
theorem zao {w:World} {b:Nat} {x y z u:Value} (h0:w.cell? ⟨b,0,none⟩=some x) (h1:w.cell? ⟨b,1,none⟩=some y) (h2:w.cell? ⟨b,2,none⟩=some z) (h3:w.cell? ⟨b,3,none⟩=some u):w.rangeAt b 0 [x,y,z,u]:=by
 exact Z2b
theorem turned_to (c:Nat→Value) (p:Nat→G) (q:Value) (e:Int) (he:e=1∨e = -1) (B:Nat) (hB:B≤2 ^ 48) (hc:∀ i,i < 4→IsC (c i) (p i)) (hp:∀ i,Bd B (p i)) (hq:IsC q (0,e)) (w:World) :
  Calls Tryz.prog 155 #[agg4 c,q] w fun e' w'=>(∃ S,e'=.returned (agg4 S)∧∀ i,i < 4→IsC (S i) (gpart p e i 4))∧Below w.heap.size w w':=by
 have HC:=hid hc
 have HP:=hid hp
 have HQ:=hid hq
 have HE:=hid he
 have HBB:=hid hB
 clear hc hp hq he hB
 go_enter Tryz.func155,Tryz.ntmps155
 go_wp2_with fail
 go_loopw [6,11] (fun s u wr=>∃ (k:Nat) (S:Nat→Value),k≤4∧u=Jj Jq k∧Hid (IsC s (upow e k))∧Hid (SumsR p e k 0 S)∧Hid (Four (w.heap.size+1+1) S wr)∧Hid (Four (w.heap.size+1) (fun _=>z0) wr)∧Hid (Four w.heap.size c wr)∧Hid (Below w.heap.size w wr)) (fun _ u _=>4 - (intOf u).toNat)
 case atStart =>
  have h2:=Four.new ((w.alloc (.cells #[c 0,c 1,c 2,c 3] 178)).alloc (.cells #[z0,z0,z0,z0] 178)) z0 178
  have h1:=(Four.new (w.alloc (.cells #[c 0,c 1,c 2,c 3] 178)) z0 178).below ((Below.refl _ _).alloc (le_refl _) (.cells #[z0,z0,z0,z0] 178)) Zb7
  have h0:=(Four.box w c 178).below (((Below.refl _ _).alloc (le_refl _) (.cells #[z0,z0,z0,z0] 178)).alloc Zb7 (.cells #[z0,z0,z0,z0] 178)) Zb7
  have e2:((w.alloc (.cells #[c 0,c 1,c 2,c 3] 178)).alloc (.cells #[z0,z0,z0,z0] 178)).heap.size=w.heap.size+1+1:=by simp
  have e1:(w.alloc (.cells #[c 0,c 1,c 2,c 3] 178)).heap.size=w.heap.size+1:=by simp
  rw [e2] at h2
  rw [e1] at h1
  exact⟨0,fun _=>z0,by omega,rfl,hid ⟨_,_,rfl,isF_one,isF_zero⟩,hid (SumsR.start p e),hid h2,hid h1,hid h0,hid ((((Below.refl _ _).alloc (le_refl _) _).alloc Zb7 _).alloc Zba _)⟩
 case round =>
  obtain⟨k,S,hk,rfl,hs,hS,hF,hR,hX,hBw⟩:=hrel
  by_cases hlt:k < 4
  ·obtain⟨s2,hs1,hs2⟩:=IsC.mul (P:=Tryz.prog) hs.out HQ.out (upow_u HE.out k).bd (B:=1) (by rcases HE.out with rfl | rfl <;> simp [Bd]) Zbc Zbc Zbc
   rw [← upow_one,upow_add] at hs2
   have HS2:=hid hs2
   clear hs2
   have c0:=hX.out.1 0 Zb3
   have c1:=hX.out.1 1 Zb3
   have c2:=hX.out.1 2 Zb3
   have c3:=hX.out.1 3 Zb3
   go_wp2
   clear c0 c1 c2 c3
   go_loopw [8,15] (fun t u wr=>∃ (m:Nat) (S:Nat→Value),m≤4∧u=Jj Jq m∧Hid (IsC t (upow e (k * m)))∧Hid (SumsR p e k m S)∧Hid (Four (w.heap.size+1+1) S wr)∧Hid (Four (w.heap.size+1) (fun _=>z0) wr)∧Hid (Four w.heap.size c wr)∧Hid (Below w.heap.size w wr)) (fun _ u _=>4 - (intOf u).toNat)
   case atStart=>exact⟨0,S,by omega,rfl,hid ⟨_,_,rfl,isF_one,isF_zero⟩,hS,hF,hR,hX,hBw⟩
   case round =>
    obtain⟨m,S1,hm,rfl,ht,hT,hG,hR1,hX1,hB1⟩:=hrel
    by_cases hlm:m < 4
    ·obtain⟨v,hv1,hv2⟩:=IsC.mul (P:=Tryz.prog) (HC.out m hlm) ht.out (HP.out m) (upow_u HE.out (k * m)).bd (Nat.lt_of_le_of_lt HBB.out Zbc) Zbc (by have:=HBB.out;omega)
     obtain⟨x,hx1,hx2⟩:=IsC.add (P:=Tryz.prog) (hT.out.at hlt) hv2 (gpart_bd HE.out HP.out k m) ((HP.out m).turn (upow_u HE.out (k * m))) (by have:=HBB.out;have:m * B≤3 * B:=Nat.mul_le_mul_right _ Zb3;omega)
     obtain⟨y,hy1,hy2⟩:=IsC.mul (P:=Tryz.prog) ht.out hs.out (upow_u HE.out (k * m)).bd (upow_u HE.out k).bd Zbc Zbc Zbc
     rw [upow_add] at hy2
     have HY:Hid (IsC y (upow e (k * (m+1)))):=hid hy2
     have HT:=hid (hT.out.step hx2)
     have HG:=hid (hG.out.set hlt x)
     have HR1:=hid (hR1.out.other (g':=w.heap.size+1+1) (k:=k) x Zb3)
     have HX1:=hid (hX1.out.other (g':=w.heap.size+1+1) (k:=k) x Zb3)
     have HB1:=hid (hB1.out.setCell (p:=⟨w.heap.size+1+1,k,none⟩) Zbk x)
     obtain⟨xa,xb,rfl, -⟩:=hx2
     clear hy2 hv2
     have c0:=hG.out.1 0 Zb3
     have c1:=hG.out.1 1 Zb3
     have c2:=hG.out.1 2 Zb3
     have c3:=hG.out.1 3 Zb3
     have f0:=hG.out.2.1 0 Zb3
     have f1:=hG.out.2.1 1 Zb3
     have f2:=hG.out.2.1 2 Zb3
     have f3:=hG.out.2.1 3 Zb3
     have hst:=st_c xa xb
     have x0:=ix0 c
     have x1:=ix1 c
     have x2:=ix2 c
     have x3:=ix3 c
     obtain rfl | rfl | rfl | rfl:=lt4 hlt <;> obtain rfl | rfl | rfl | rfl:=lt4 hlm
     all_goals
      go_wp2
      go_roundw
      case rel=>exact⟨_,_,by omega,by go_num,HY,HT,HG,HR1,HX1,HB1⟩
      case measure=>simp [intOf]
    ·have hm4:m=4:=by omega
     subst hm4
     have HN:=hid hT.out.next
     clear hlm hm
     go_wp2
     go_roundw
     case rel=>first | exact⟨k+1,S1,by omega,by go_num,HS2,HN,hG,hR1,hX1,hB1⟩ | exact⟨_,_,⟨k+1,S1,by omega,by go_num,HS2,HN,hG,hR1,hX1,hB1⟩,rfl⟩
     case measure=>simp [intOf];omega
  ·have hk4:k=4:=by omega
   subst hk4
   have hAll:=hS.out
   refine Z7z ?_;intro c0 c1 c2 c3 d0 d1 d2 d3 f0 f1 f2 f3
   clear hlt hk
   obtain⟨a0,b0,s0, -⟩:=hAll.all (i:=0) Zb3
   obtain⟨a1,b1,s1, -⟩:=hAll.all (i:=1) Zb3
   obtain⟨a2,b2,s2, -⟩:=hAll.all (i:=2) Zb3
   obtain⟨a3,b3,s3, -⟩:=hAll.all (i:=3) Zb3
   have t0:=st_c a0 b0
   have t1:=st_c a1 b1
   have t2:=st_c a2 b2
   have t3:=st_c a3 b3
   have HA:=hid (fun i hi=>hAll.all (i:=i) hi)
   clear hAll
   have HS0:=hid s0
   have HS1:=hid s1
   have HS2:=hid s2
   have HS3:=hid s3
   go_wp2
   refine bodyPost_ret (Kit.zbi rfl _ _ (w.heap.size+1) 0 [.complex .f64 a0 b0,.complex .f64 a1 b1,.complex .f64 a2 b2,.complex .f64 a3 b3] _ rfl (zao Zb6 Zb6 Zb6 Zb6) Tryz.underlying178 rfl Zb5) rfl ?_
   exact Z5h
end CFour
end
end Go.Proofs.YtchpdhhpkljdhaaGreatDoor
