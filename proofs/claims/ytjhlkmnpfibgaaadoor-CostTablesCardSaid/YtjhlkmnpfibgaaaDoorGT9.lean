/- -/
import Derived.Test.YtjhlkmnpfibgaaaDoorGT8
open Nat (le_refl lt_of_succ_lt lt_succ_self)
set_option linter.unusedVariables false
set_option linter.unusedSimpArgs false
set_option maxRecDepth 100000
set_option maxHeartbeats 16000000
namespace Go.Proofs.YtjhlkmnpfibgaaaDoor
namespace CSat
end CSat
namespace CTensor
end CTensor
open Go Go.ChangeShapes Go.WideShapes Go.ChangeAt Go.RowKit Go.Deep
section
namespace CConv
open Go Go.ChangeShapes Go.WideShapes Go.ChangeAt Go.RowKit
open Plain CSat CShape CTensor
def zbe (B:Nat) (x0 x1 x2 x8 x11 x12 x13 x14 x15 x16 x17 x18:Value) (K S P O Z:Int) (WA BA:Option Addr) (nW cW nB cB:Nat) (wd:World):Prop:=wd.rangeAt B 0 [x0,x1,x2,.int .i64 K,.int .i64 S,.int .i64 P,.int .i64 O,.int .i8 Z,x8,.slice WA nW cW,.slice BA nB cB,x11,x12,x13,x14,x15,x16,x17,x18]
theorem zbe.new (x0 x1 x2 x8 x11 x12 x13 x14 x15 x16 x17 x18:Value) (K S P O Z:Int) (WA BA:Option Addr) (nW cW nB cB:Nat) (T:TypeId) (w:World):zbe w.heap.size x0 x1 x2 x8 x11 x12 x13 x14 x15 x16 x17 x18 K S P O Z WA BA nW cW nB cB (w.alloc (.cells #[x0,x1,x2,.int .i64 K,.int .i64 S,.int .i64 P,.int .i64 O,.int .i8 Z,x8,.slice WA nW cW,.slice BA nB cB,x11,x12,x13,x14,x15,x16,x17,x18] T)):=fun j v hj=>by
 rw [Nat.zero_add,Kit.zak]
 simpa using hj
theorem zbe.below {B B':Nat} {x0 x1 x2 x8 x11 x12 x13 x14 x15 x16 x17 x18:Value} {K S P O Z:Int} {WA BA:Option Addr} {nW cW nB cB:Nat} {w w':World} (h:zbe B x0 x1 x2 x8 x11 x12 x13 x14 x15 x16 x17 x18 K S P O Z WA BA nW cW nB cB w) (hB:B < B') (hb:Below B' w w'):zbe B x0 x1 x2 x8 x11 x12 x13 x14 x15 x16 x17 x18 K S P O Z WA BA nW cW nB cB w':=fun j v hj =>
 (hb.cell (p:=⟨B,0+j,none⟩) hB).trans (h j v hj)
theorem zbe.at {B:Nat} {x0 x1 x2 x8 x11 x12 x13 x14 x15 x16 x17 x18:Value} {K S P O Z:Int} {WA BA:Option Addr} {nW cW nB cB:Nat} {w:World} (h:zbe B x0 x1 x2 x8 x11 x12 x13 x14 x15 x16 x17 x18 K S P O Z WA BA nW cW nB cB w) (i:Nat) (v:Value) (hi:([x0,x1,x2,.int .i64 K,.int .i64 S,.int .i64 P,.int .i64 O,.int .i8 Z,x8,.slice WA nW cW,.slice BA nB cB,x11,x12,x13,x14,x15,x16,x17,x18]:List Value)[i]?=some v):w.cell? ⟨B,i,none⟩=some v:=by
 have:=h i v hi
 rwa [Nat.zero_add] at this
end CConv
end
section
namespace CFix
open Go Go.ChangeShapes Go.WideShapes Go.ChangeAt Go.RowKit
open Plain CSat
theorem right_yes (s:Int) (h1:0≤s) (h2:s≤62) (w:World) :
  Calls Tryd.prog 66 #[.int .i64 s] w fun e w'=>e=.returned (.bool true)∧w=w':=by
 go_enter Tryd.func66,Tryd.ntmps66
 go_wp2
 go_ret
 exact⟨rfl,rfl⟩
theorem right_no (s:Int) (h:s < 0∨62 < s) (w:World) :
  Calls Tryd.prog 66 #[.int .i64 s] w fun e w'=>e=.returned (.bool false)∧w=w':=by
 rcases h with h | h
 ·go_enter Tryd.func66,Tryd.ntmps66
  go_wp2
  go_ret
  exact⟨rfl,rfl⟩
 ·by_cases h0:0≤s
  ·have hd:decide (s≤62)=false:=by simp;omega
   go_enter Tryd.func66,Tryd.ntmps66
   go_wp2
   go_ret
   exact⟨rfl,rfl⟩
  ·go_enter Tryd.func66,Tryd.ntmps66
   go_wp2
   go_ret
   exact⟨rfl,rfl⟩
def zbu (m s:Int):Bool:=decide (0 < m∧0≤s∧s≤62)
theorem isRight_yes (m s z:Int) (h:zbu m s=true) (w:World) :
  Calls Tryd.prog 60 #[.agg #[.int .i32 m,.int .i64 s,.int .i8 z]] w fun e w'=>e=.returned (.bool true)∧Below w.heap.size w w':=by
 obtain⟨h1,h2,h3⟩:0 < m∧0≤s∧s≤62:=by simpa [zbu] using h
 clear h
 go_enter Tryd.func60,Tryd.ntmps60
 go_wp2_with (go_at_call 66;refine (right_yes _ (by omega) (by omega) _).mono ?_;rintro e w' ⟨rfl,rfl⟩)
 go_ret
 exact⟨rfl,(Below.refl _ _).alloc (le_refl _) _⟩
theorem isRight_no (m s z:Int) (h:zbu m s=false) (w:World) :
  Calls Tryd.prog 60 #[.agg #[.int .i32 m,.int .i64 s,.int .i8 z]] w fun e w'=>e=.returned (.bool false)∧Below w.heap.size w w':=by
 have h0:¬ (0 < m∧0≤s∧s≤62):=by simpa [zbu] using h
 clear h
 by_cases h1:0 < m
 ·have h2:s < 0∨62 < s:=by omega
  clear h0
  go_enter Tryd.func60,Tryd.ntmps60
  go_wp2_with (go_at_call 66;refine (right_no _ h2 _).mono ?_;rintro e w' ⟨rfl,rfl⟩)
  go_ret
  exact⟨rfl,(Below.refl _ _).alloc (le_refl _) _⟩
 ·have hd:decide (0 < m)=false:=by simpa using h1
  clear h0
  go_enter Tryd.func60,Tryd.ntmps60
  go_wp2_with fail
  go_ret
  exact⟨rfl,(Below.refl _ _).alloc (le_refl _) _⟩
end CFix
end
section
namespace Kit
def RowsAt (w:World) (B:Nat) (k:IntKind) (A:Option Addr) (rows:List (List Int)):Prop :=
 ∃ vs:List Value,vs.length=rows.length∧Rd w B A vs∧∀ (i:Nat) (row:List Int),rows[i]?=some row→∃ (Ai:Option Addr) (n ci:Nat),row.length=n∧vs[i]?=some (.slice Ai n ci)∧n≤ci∧ci≤maxLen∧Rd w B Ai (row.map (.int k))
theorem RowsAt.below {w w':World} {B:Nat} {k:IntKind} {A:Option Addr} {rows:List (List Int)} (h:RowsAt w B k A rows) (hb:Below B w w'):RowsAt w' B k A rows:=by
 obtain⟨vs,h1,h2,h3⟩:=h
 refine⟨vs,h1,h2.below hb,fun i row hr=>?_⟩
 obtain⟨Ai,n,ci,e,a,b,c,d⟩:=h3 i row hr
 exact⟨Ai,n,ci,e,a,b,c,d.below hb⟩
theorem RowsAt.row {w:World} {B:Nat} {k:IntKind} {A:Option Addr} {rows:List (List Int)} (h:RowsAt w B k A rows) {i:Nat} (hi:i < rows.length) :
  ∃ (b o:Nat) (Ai:Option Addr) (n ci:Nat),A=some ⟨b,o,none⟩∧b < B∧w.cell? ⟨b,o+i,none⟩=some (.slice Ai n ci)∧rows[i].length=n∧n≤ci∧ci≤maxLen∧Rd w B Ai (rows[i].map (.int k)):=by
 obtain⟨vs,h1,h2,h3⟩:=h
 obtain⟨Ai,n,ci,e,a,b,c,d⟩:=h3 i _ (List.getElem?_eq_getElem hi)
 obtain⟨bb,o,rfl,hb,hc⟩:=h2.plain (by omega)
 exact⟨bb,o,Ai,n,ci,rfl,hb,hc i _ a,e,b,c,d⟩
section
variable {H:Type} {enc:TypeId × Value→H} {P:Program} {w:World} {base b0:Nat} {spare:Nat→Bool} {held:Bool} {r:Reach}
theorem trod_islice {t e:TypeId} {k:IntKind} {fuel:Nat} {cs:List Value} {x:DataW H × List MemPlace} (ht:P.underlying t=some (.slice e)) (he:P.underlying e=some (.int k)) (hc:P.cellsOf e=1)
  (h:DataW.trod enc P w base spare held fuel t cs=some x) :
  ∃ (A:Option Addr) (zs:List Int) (n c:Nat),cs=[.slice A n c]∧zs.length=n∧n≤c∧c≤maxLen∧(∀ n∈zs,(Lit.int k n).wf=true)∧Rd w w.heap.size A (zs.map (.int k)):=by
 rcases open_ints ht he hc h with ⟨rfl,_⟩ | ⟨a,len,cap,zs,rfl,_,hl,hm,hz,_,hcell,hwz⟩
 ·exact⟨none,[],0,0,rfl,rfl,by simp,by simp,by simp,Rd.nil⟩
 ·have hlz:len≤zs.length:=by rw [hz];split <;> omega
  refine⟨some a,zs.take len,len,cap,rfl,by rw [List.length_take,Nat.min_eq_left hlz],hl,hm,fun n hn=>hwz n (List.mem_of_mem_take hn),fun j u hu=>?_⟩
  rw [List.getElem?_map,List.getElem?_take] at hu
  split at hu
  ·rename_i hj
   have hjz:j < zs.length:=by omega
   rw [List.getElem?_eq_getElem hjz] at hu
   simp only [Option.map_some,Option.some.injEq] at hu
   subst hu
   have h1:=hcell j hjz
   rw [List.getD_eq_getElem?_getD,List.getElem?_eq_getElem hjz,Option.getD_some] at h1
   exact⟨a,rfl,by have:=block_lt h1;rwa [add_block] at this,h1⟩
  ·simp at hu
theorem pick {α β:Type} {Q:Nat→α→β→Prop} : ∀ (n:Nat),(∀ i,i < n→∃ a b,Q i a b)→∃ (l:List α) (m:List β),l.length=n∧m.length=n∧∀ i a b,l[i]?=some a→m[i]?=some b→Q i a b
 | 0,_=>⟨[],[],rfl,rfl,fun i a b h=>by simp at h⟩
 | n+1,h=>by
   obtain⟨l,m,h1,h2,h3⟩:=pick n (fun i hi=>h i (by omega))
   obtain⟨a,b,hab⟩:=h n (by omega)
   refine⟨l ++ [a],m ++ [b],by simp [h1],by simp [h2],fun i x y hx hy=>?_⟩
   rcases Nat.lt_or_ge i n with hi | hi
   ·rw [List.getElem?_append_left (by omega)] at hx hy
    exact h3 i x y hx hy
   ·rw [List.getElem?_append_right (by omega)] at hx hy
    have:i=n:=by
     rcases Nat.lt_or_ge (i - l.length) 1 with h8 | h8
     ·omega
     ·rw [List.getElem?_eq_none (by simpa using h8)] at hx;cases hx
    subst this
    simp [h1] at hx
    simp [h2] at hy
    subst hx hy
    exact hab
theorem open_irows {t e i:TypeId} {k:IntKind} {v:Value} {d:DataW H} {ps:List MemPlace} (ht:P.underlying t=some (.slice e)) (he:P.underlying e=some (.slice i)) (hi:P.underlying i=some (.int k)) (hc:P.cellsOf e=1) (hci:P.cellsOf i=1)
  (hval:Value.okWide P w r b0 t v) (hd:DataW.Trod enc P w base spare held t v d ps) :
  ∃ (A:Option Addr) (rows:List (List Int)) (n c:Nat),v=.slice A n c∧rows.length=n∧n≤c∧c≤maxLen∧(∀ row∈rows,∀ n∈row,(Lit.int k n).wf=true)∧RowsAt w w.heap.size k A rows:=by
 obtain⟨a0,len,cap,rfl⟩:=okWide_slice ht hval
 obtain⟨fuel,hf⟩:=hd
 rcases DataW.trod_slice ht hf with ⟨hcs,_⟩ | ⟨a,len',cap',elems,rest,n,_,hcs,_,hb,hl,hm,hlen,hel,hsp,hns⟩
 ·simp [Value.cells] at hcs
  obtain⟨rfl,rfl,rfl⟩:=hcs
  exact⟨none,[],0,0,rfl,rfl,by simp,by simp,by simp,[],rfl,Rd.nil,fun i row h=>by simp at h⟩
 ·simp [Value.cells] at hcs
  obtain⟨rfl,rfl,rfl⟩:=hcs
  have each:∀ j,j < len→∃ (u:Value) (row:List Int),w.cell? (a.add j)=some u∧(∃ (Ai:Option Addr) (m ci:Nat),row.length=m∧u=.slice Ai m ci∧m≤ci∧ci≤maxLen∧(∀ n∈row,(Lit.int k n).wf=true)∧Rd w w.heap.size Ai (row.map (.int k))):=by
   intro j hj
   have h1:=hel j hj
   rw [List.getElem?_eq_getElem (by omega),hc,Nat.mul_one,Option.bind_eq_some_iff] at h1
   obtain⟨cs',hcs,hy⟩:=h1
   obtain⟨Ai,row,m,ci,rfl,e1,e2,e3,e4,e5⟩:=trod_islice he hi hci hy
   exact⟨_,row,cell_of_cells?_one hcs,Ai,m,ci,e1,rfl,e2,e3,e4,e5⟩
  obtain⟨vs,rows,g1,g2,g3⟩:=pick len each
  refine⟨some a,rows,len,cap,rfl,g2,hl,hm,?_,vs,g1.trans g2.symm,?_,?_⟩
  ·intro row hrow
   obtain⟨j,hj⟩:=List.getElem?_of_mem hrow
   have hj2:j < vs.length:=by have:=(List.getElem?_eq_some_iff.1 hj).1;omega
   obtain⟨_,_,_,_,_,_,_,_,h8,_⟩:=g3 j _ _ (List.getElem?_eq_getElem hj2) hj
   exact h8
  ·intro j u hu
   have hj2:j < rows.length:=by have:=(List.getElem?_eq_some_iff.1 hu).1;omega
   obtain⟨h1,_⟩:=g3 j _ _ hu (List.getElem?_eq_getElem hj2)
   exact⟨a,rfl,by have:=block_lt h1;rwa [add_block] at this,h1⟩
  ·intro j row hrow
   have hj2:j < vs.length:=by have:=(List.getElem?_eq_some_iff.1 hrow).1;omega
   obtain⟨_,Ai,m,ci,e1,e2,e3,e4,e5,e6⟩:=g3 j _ _ (List.getElem?_eq_getElem hj2) hrow
   exact⟨Ai,m,ci,e1,by rw [List.getElem?_eq_getElem hj2,e2],e3,e4,e6⟩
end
end Kit
end
end Go.Proofs.YtjhlkmnpfibgaaaDoor
