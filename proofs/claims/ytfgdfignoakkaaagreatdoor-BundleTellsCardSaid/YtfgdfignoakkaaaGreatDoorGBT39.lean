/- -/
import Derived.Laws.CopyOwn
import Derived.Test.YtfgdfignoakkaaaGreatDoorGBT37
import Derived.Test.YtfgdfignoakkaaaGreatDoorGBT38
open Go.Lib (hid)
open Nat (le_refl lt_of_succ_lt lt_succ_self)
set_option linter.unusedVariables false
set_option linter.unusedSimpArgs false
set_option maxRecDepth 100000
set_option maxHeartbeats 16000000
namespace Go.Proofs.YtfgdfignoakkaaaGreatDoor
namespace CConv
end CConv
namespace CDense
end CDense
namespace CFix
end CFix
namespace CGraph
end CGraph
namespace CJoin
end CJoin
namespace CKind
end CKind
namespace CLeb
end CLeb
namespace COctet
end COctet
namespace CPack
end CPack
namespace CSat
end CSat
namespace CShape
end CShape
namespace CSpan
end CSpan
namespace CTensor
end CTensor
namespace Kit
end Kit
open Go Go.ChangeShapes Go.WideShapes Go.ChangeAt Go.RowKit Go.Deep
section
namespace CCrc
open Go Go.ChangeShapes Go.WideShapes Go.ChangeAt Go.RowKit
open CrcNum
theorem cell_in {w:World} {b o:Nat} {v:Value} (h:w.cell? ⟨b,o,none⟩=some v):b < w.heap.size:=by
 unfold World.cell? at h
 rcases Nat.lt_or_ge b w.heap.size with hlt | hge
 ·exact hlt
 ·rw [show w.heap[(⟨b,o,none⟩:Addr).block]?=none from Array.getElem?_eq_none hge] at h
  cases h
theorem za5.size {w:World} (h:za5 w):0 < w.heap.size:=cell_in (h 0 (by decide))
theorem za5.below {w w':World} {n:Nat} (h:za5 w) (hb:Below n w w') (hn:0 < n):za5 w':=fun j hj=>(hb.cell (p:=⟨0,j,none⟩) hn).trans (h j hj)
end CCrc
end
section
namespace CPkW
open LebNum CLeb COctet CKind CPack CPk
theorem lay_self (x:Nd) {nW nB:Nat} (hW:nW=x.nW) (hB:nB=x.nB):ndLay x x.WA nW x.cW x.BA nB x.cB=x:=by subst hW;subst hB;rfl
theorem rd_lt {w:World} {B:Nat} {A:Option Addr} {xs:List Value} (h:Kit.Rd w B A xs) (hx:xs≠[]) {ad:Addr} (hA:A=some ad):ad.block < B:=by
 obtain⟨x,t,rfl⟩:=List.exists_cons_of_ne_nil hx
 obtain⟨ad',h1,h2, -⟩:=h 0 x rfl
 rw [hA] at h1;cases h1;exact h2
end CPkW
end
section
namespace CPkI
open Kit
variable {P:Program}
theorem run_copy_rowS (w:World) (dT sT ty elem:TypeId) (g dLen dCap:Nat) (a:Addr) (sLen sCap:Nat) (cur:Array Value) (t:TypeId) (cs:List Value) (s n:Nat)
  (hu:P.underlying dT=some (.slice elem)) (hs:(P.info? elem).map (·.size)=some s)
  (hg:w.heap[g]?=some (.cells cur t (0,0))) (hn:Nat.min sLen dLen=n) (hc:cs.length=n * s)
  (hsrc:∀ j v,cs[j]?=some v→w.cell? (a.add j)=some v) (hfit:cs.length≤cur.size) (h1:∀ v∈cs,v.oneCell'=true) :
  (Builtin.copy_ #[dT,sT] ty #[.slice (some ⟨g,0,none⟩) dLen dCap,.slice (some a) sLen sCap]).run P w =
    .ok (goInt n) (w.setRow g (cs ++ cur.toList.drop cs.length).toArray):=by
 have hl:=run_loadCells_list (P:=P) w a cs hsrc
 have hst:=run_storeCells_at P g 0 t cs 0 cur w hg (by simpa using hfit) h1
 cases hq:P.info? elem with
 | none=>simp [hq] at hs
 | some i =>
   have hi:i.size=s:=by simpa [hq] using hs
   simp [Builtin.copy_,run_underlying hu,Builtin.lenOf,Builtin.firstCells,sizeOf,typeInfo,hq,hi,hn, ← hc,hl,hst]
theorem run_copy_noneS (w:World) (dT sT ty elem:TypeId) (d a:Option Addr) (dLen dCap sLen sCap:Nat) (s:Nat) (hu:P.underlying dT=some (.slice elem)) (hs:(P.info? elem).map (·.size)=some s) (hn:Nat.min sLen dLen=0) :
  (Builtin.copy_ #[dT,sT] ty #[.slice d dLen dCap,.slice a sLen sCap]).run P w=.ok (goInt 0) w:=by
 cases hq:P.info? elem with
 | none=>simp [hq] at hs
 | some i =>
   have hl:∀ (x:Addr),(loadCells x 0).run P w=.ok #[] w:=fun x=>by simpa using run_loadCells_list (P:=P) w x [] (by simp)
   cases d <;> cases a <;> simp [Builtin.copy_,run_underlying hu,Builtin.lenOf,Builtin.firstCells,sizeOf,typeInfo,hq,hn,storeCells,hl]
theorem wpList_copy_into {w:World} {ops:Array Oper} {rest:List Oper} {o:Oper} {a:Act} {Q:Exit→Act→World→Prop} (hgd:o.guard=none) (d s':Operand) (dT sT:TypeId)
  (ho:o.op=.call { callee:=.builtin .copy,args:=#[d,s'],argTypes:=#[dT,sT] }) (elem:TypeId) (hu:P.underlying dT=some (.slice elem)) (sz:Nat) (hsz:(P.info? elem).map (·.size)=some sz)
  (g n:Nat) (A:Option Addr) (m c2:Nat) (hd:a.eval d=.slice (some ⟨g,0,none⟩) n n) (hs:a.eval s'=.slice A m c2) (base:Nat) (zs:List Value)
  (hown:w.ownsRow base elem sz (.slice (some ⟨g,0,none⟩) n n) n zs) (news:List Value) (hl:news.length=n * sz) (hm:n≤m) {B:Nat} (hr:Rd w B A news) (h1:∀ v∈news,v.oneCell'=true)
  (h:∀ w',w'.ownsRow base elem sz (.slice (some ⟨g,0,none⟩) n n) n news→w.grownBy w' (some g)→wpList P ops Q rest (a.put o.dst (goInt n)) w') :
  wpList P ops Q (o :: rest) a w:=by
 have hmin:Nat.min m n=n:=Nat.min_eq_right hm
 by_cases h0:news=[]
 ·have hz:n * sz=0:=by rw [← hl,h0];rfl
  by_cases hn0:n=0
  ·subst hn0
   refine wpList_plain hgd fun K hK=>?_
   have hrun:=run_copy_noneS (P:=P) w dT sT o.type elem (some ⟨g,0,none⟩) A 0 0 m c2 sz hu hsz (by simp)
   have hzs:zs=[]:=List.eq_nil_of_length_eq_zero (by simpa using hown.1)
   unfold Oper.wp
   simp [execOp,ho,resolve,invoke,builtin,hd,hs,hrun,Result.andThen]
   refine hK _ _ (h w ?_ ⟨rfl,rfl,rfl,le_refl _,fun _ _ _=>rfl⟩)
   rw [h0, ← hzs];exact hown
  ·have hs0:sz=0:=by
    rcases Nat.mul_eq_zero.1 hz with e | e
    ·exact absurd e hn0
    ·exact e
   subst hs0
   subst h0
   refine wpList_plain hgd fun K hK=>?_
   have hzs:zs=[]:=List.eq_nil_of_length_eq_zero (by simpa using hown.1)
   subst hzs
   have hrun:(Builtin.copy_ #[dT,sT] o.type #[.slice (some ⟨g,0,none⟩) n n,.slice A m c2]).run P w=.ok (goInt n) w:=by
    have hl0:∀ (x:Addr),(loadCells x 0).run P w=.ok #[] w:=fun x=>by simpa using run_loadCells_list (P:=P) w x [] (by simp)
    cases hq:P.info? elem with
    | none=>simp [hq] at hsz
    | some i =>
      have hi:i.size=0:=by simpa [hq] using hsz
      cases A <;> simp [Builtin.copy_,run_underlying hu,Builtin.lenOf,Builtin.firstCells,sizeOf,typeInfo,hq,hi,hmin,storeCells,hl0]
   unfold Oper.wp
   simp [execOp,ho,resolve,invoke,builtin,hd,hs,hrun,Result.andThen]
   exact hK _ _ (h w hown ⟨rfl,rfl,rfl,le_refl _,fun _ _ _=>rfl⟩)
 ·obtain⟨ad,rfl, -, -⟩:=hr.at_ (j:=0) (by cases news with | nil=>exact absurd rfl h0 | cons x t=>simp)
  rcases hown.2 with ⟨h2,_⟩ | ⟨g',cap,cur,h2,hb,hg,hn,hcm,hcs,_⟩
  ·cases h2
  ·simp only [Value.slice.injEq,Option.some.injEq,Addr.mk.injEq] at h2
   obtain⟨⟨rfl,_,_⟩,_,rfl⟩:=h2
   refine wpList_plain hgd fun K hK=>?_
   have hrun:=run_copy_rowS (P:=P) w dT sT o.type elem g n n ad m c2 cur elem news sz n hu hsz hg hmin hl (fun j v hv=>by
    obtain⟨ad',e,_,hc⟩:=hr j v hv
    cases e
    exact hc) (by omega) h1
   have hd0:cur.toList.drop news.length=[]:=List.drop_eq_nil_of_le (by rw [hl,Array.length_toList];omega)
   rw [hd0,List.append_nil] at hrun
   unfold Oper.wp
   simp [execOp,ho,resolve,invoke,builtin,hd,hs,hrun,Result.andThen]
   refine hK _ _ (h _ ⟨hl,.inr ⟨g,n,news.toArray,rfl,hb,setRow_heap w g cur _ elem _ hg,le_refl _,hcm,by simp [hl],by simp [← hl]⟩⟩ ⟨rfl,rfl,rfl,by simp [World.setRow],fun k _ hk=>setRow_other w g k _ (fun e=>hk (by rw [e]))⟩)
end CPkI
end
section
namespace CCost
open Plain CSat CFix CShape CTensor CConv CKind CGraph CDense CBund
def outT (X:Nat→Nd) (t0:Tri) (n:Nat):Tri:=(shL X t0 n).getD n tri0
def FreshT3 (B:Nat) (wd:World):Prop :=
 (wd.cell? ⟨B,0,none⟩=some (.int .i64 0)∧wd.cell? ⟨B,1,none⟩=some (.int .i64 0)∧wd.cell? ⟨B,2,none⟩=some (.int .i64 0)) ∧
 wd.frozen? ⟨B,0,none⟩=false∧wd.frozen? ⟨B,1,none⟩=false∧wd.frozen? ⟨B,2,none⟩=false
theorem FreshT3.new (T:TypeId) (w:World):FreshT3 w.heap.size (w.alloc (.cells #[.int .i64 0,.int .i64 0,.int .i64 0] T)) :=
 ⟨⟨Kit.zab _ _ _ _,Kit.zab _ _ _ _,Kit.zab _ _ _ _⟩,World.frozen?_alloc_at _ _ _ _ rfl,World.frozen?_alloc_at _ _ _ _ rfl,World.frozen?_alloc_at _ _ _ _ rfl⟩
theorem FreshT3.below {B B':Nat} {w w':World} (h:FreshT3 B w) (hB:B < B') (hb:Below B' w w'):FreshT3 B w':=by
 obtain⟨⟨h1,h2,h3⟩,h5,h6,h7⟩:=h
 exact⟨⟨(hb.cell (p:=⟨B,0,none⟩) hB).trans h1,(hb.cell (p:=⟨B,1,none⟩) hB).trans h2,(hb.cell (p:=⟨B,2,none⟩) hB).trans h3⟩,
  (hb.frozen (p:=⟨B,0,none⟩) hB).trans h5,(hb.frozen (p:=⟨B,1,none⟩) hB).trans h6,(hb.frozen (p:=⟨B,2,none⟩) hB).trans h7⟩
theorem stopAt_nzC {X:Nat→Nd} {t0:Tri} : ∀ {n:Nat} {r:Nat × Int},zbl X t0 n=some r→r.2≠0
 | 0,r,h=>by cases h
 | n+1,r,h=>by
   rw [zbl] at h
   cases hs:zbl X t0 n with
   | some q=>rw [hs] at h;cases h;exact stopAt_nzC hs
   | none =>
     rw [hs] at h
     dsimp only at h
     split at h
     ·cases h
     ·rename_i hz;cases h;exact hz
theorem outS_nzC {X:Nat→Nd} {t0:Tri} {n:Nat} {k z:Int} (h:outS X t0 n=some (k,z)):z≠0:=by
 unfold outS at h
 split at h
 ·cases h;decide
 ·split at h
  ·cases h;decide
  ·split at h
   ·cases h;decide
   ·cases hs:zbl X t0 n with
    | none=>rw [hs] at h;cases h
    | some r=>rw [hs] at h;cases h;exact stopAt_nzC hs
end CCost
end
section
namespace CGuard
open Plain CSat CFix CShape CTensor CConv CSpan CKind CGraph CJoin
def FcPost (Y:Nat→NdW) (r0:Rch) (n:Nat) (w:World) (e:Ending) (w':World):Prop :=
 ((∃ k z,outG Y r0 n=some (k,z)∧e=.returned (.tuple #[.slice none 0 0,.int .i64 k,.int .i64 z])) ∨
   (outG Y r0 n=none∧∃ v,e=.returned (.tuple #[v,.int .i64 (n:Int),.int .i64 0])∧w'.ownsRow w.heap.size 172 2 v (n+1) (rvV (rcL Y r0 n))))∧Below w.heap.size w w'
theorem info_c2:(Tryz.prog.info? 172).map (fun i=>(i.zero,i.size,i.bytes))=some (some (.agg #[.int .i8 0,.int .i8 0]),2,2):=by kernel_rfl
theorem own_newC (w:World) (base:Nat) (hb:base≤w.heap.size) (t:Rch):(w.alloc (.cells #[.int .i8 t.1,.int .i8 t.2] 172)).ownsRow base 172 2 (.slice (some ⟨w.heap.size,0,none⟩) 1 1) 1 (rvV [t]) :=
 ⟨rfl,.inr ⟨w.heap.size,1,_,rfl,hb,heap_alloc_new w _,le_refl _,by unfold maxLen;omega,rfl,rfl⟩⟩
theorem cflow_to (Y:Nat→NdW) (r0:Rch) (h0:RBd r0) (n c:Nat) (hn:n≤50) (A:Option Addr) (w:World) (hT:zad w) (hX:∀ j,j < n→(Y j).1.Small) (hA:NodesAt w w.heap.size A n fun j=>(Y j).1)
  (hY:∀ j,j < n→NdL w w.heap.size (Y j).1 (Y j).2.1 (Y j).2.2∧(Y j).1.nW≤20000∧(Y j).1.nB≤20000) :
  Calls Tryz.prog 99 #[.slice A n c,.agg #[.int .i8 r0.1,.int .i8 r0.2]] w (FcPost Y r0 n w):=by
 obtain⟨q0,q1⟩:=rchNew r0.1 r0.2 172 w
 have HB0:=hid ((Below.refl w.heap.size w).alloc (le_refl _) (.cells #[.int .i8 r0.1,.int .i8 r0.2] 172))
 have HS0:Hid (w.heap.size < (w.alloc (.cells #[.int .i8 r0.1,.int .i8 r0.2] 172)).heap.size):=hid (by simp)
 have HA:=hid hA
 have HY:=hid hY
 have HT:=hid hT
 have HX:=hid hX
 have HR0:=hid h0
 obtain⟨i0,hi0,hi1,hi2,hi3⟩:=info_parts info_c2
 have hout:outG Y r0 n=if n=0 then some (-1,12) else if 8 < n then some (-1,4) else if r0.2 < r0.1 then some (-1,2) else (zbo Y r0 n).map fun r=>((r.1:Int),r.2):=rfl
 have HOUT:=hid hout
 clear hA hY hout h0 hT hX
 go_enter Tryz.func99,Tryz.ntmps99
 go_upto_region 1 with fail
 generalize w.alloc (.cells #[.int .i8 r0.1,.int .i8 r0.2] 172)=W0 at q0 q1 HB0 HS0 ⊢
 by_cases h0:n=0
 ·subst h0
  go_wp2_with fail
  go_ret3
  exact⟨.inl ⟨-1,12,by rw [HOUT.out];rfl,rfl⟩,HB0.out⟩
 ·have h1:((n:Int) == 0)=false:=by simp;omega
  have h1b:¬ (n:Int)=0:=by omega
  by_cases h2:8 < n
  ·have h3:(n:Int) > 8:=by omega
   have ho:outG Y r0 n=some (-1,4):=by rw [HOUT.out];simp [h0,h2]
   have HO:=hid ho
   clear h0 h2 ho HOUT
   go_wp2_with fail
   go_ret3
   exact⟨.inl ⟨-1,4,HO.out,rfl⟩,HB0.out⟩
  ·have h3:¬ (n:Int) > 8:=by omega
   by_cases h4:r0.2 < r0.1
   ·have ho:outG Y r0 n=some (-1,2):=by rw [HOUT.out];simp [h0,h2,h4]
    have HO:=hid ho
    have CE:=hid (fun w:World=>zbb r0.1 r0.2 w)
    rw [show decide (r0.2 < r0.1)=true by simp [h4]] at CE
    clear h0 h2 h4 ho HOUT
    go_wp2_with (go_at_call 130;(with_reducible refine (CE.out _).mono ?_);rintro e w1 ⟨rfl,hb⟩;have HB1:=hid (HB0.out.trans (hb.mono HB0.out.size));clear hb)
    go_ret3
    exact⟨.inl ⟨-1,2,HO.out,rfl⟩,HB1.out⟩
   ·have ho:outG Y r0 n=(zbo Y r0 n).map fun r=>((r.1:Int),r.2):=by rw [HOUT.out];simp [h0,h2,h4]
    have HO9:=hid ho
    have CE:=hid (fun w:World=>zbb r0.1 r0.2 w)
    rw [show decide (r0.2 < r0.1)=false by simp;omega] at CE
    clear h0 h2 h4 ho HOUT
    go_wp2_with (go_at_call 130;(with_reducible refine (CE.out _).mono ?_);rintro e w1 ⟨rfl,hb⟩;(have HB1:=hid (HB0.out.trans (hb.mono HB0.out.size)));(have h7:=(hb.cell (p:=⟨w.heap.size,0,none⟩) HS0.out).trans q0);(have h8:=(hb.cell (p:=⟨w.heap.size,1,none⟩) HS0.out).trans q1);clear hb q0 q1 HB0 HS0)
    have HO0:=hid (own_newC w1 w.heap.size HB1.out.size r0)
    have HBS:=hid (HB1.out.alloc HB1.out.size (.cells #[.int .i8 r0.1,.int .i8 r0.2] 172))
    generalize w1.alloc (.cells #[.int .i8 r0.1,.int .i8 r0.2] 172)=WS at HO0 HBS ⊢
    clear h7 h8 HB1 CE
    go_loopw [7,27] (fun v u wr=>∃ k:Nat,k≤n∧u=.int .i64 k∧Hid (zbo Y r0 k=none)∧Hid (wr.ownsRow w.heap.size 172 2 v (k+1) (rvV (rcL Y r0 k)))∧Hid (Below w.heap.size w wr)) (fun _ u _=>n - (intOf u).toNat)
    case atStart=>exact⟨0,Nat.zero_le _,rfl,hid rfl,HO0,HBS⟩
    case round =>
     obtain⟨k,hk,rfl,hst,HO,HB⟩:=hrel
     clear HO0 HBS
     by_cases hlt:k < n
     ·obtain⟨Av,cv,rfl, -, -,hrd⟩:=Kit.za2 HO.out
      obtain⟨ba,oa,rfl,hba,hra⟩:=(HA.out.below HB.out) k hlt
      have k0:(0:Int)≤(k:Int):=by omega
      have k1:(k:Int) < (n:Int):=by omega
      have hlen:=rcL_len Y r0 k
      have hall:=rcL_bd Y r0 HR0.out k (fun j hj=>⟨_,_,(HY.out j (by omega)).1.ok⟩)
      obtain⟨hyl,hyw,hyb⟩:=HY.out k hlt
      have hys:=HX.out k hlt
      obtain⟨y,hy⟩:∃ y,Y k=y:=⟨_,rfl⟩
      rw [hy] at hyl hyw hyb hys
      simp only [hy] at hra
      obtain⟨x,ws,bs⟩:=y
      simp only [] at hyl hyw hyb hra hys
      obtain⟨L,hL⟩:∃ L,rcL Y r0 k=L:=⟨_,rfl⟩
      rw [hL] at hlen hall hrd HO
      have HRA:=hid hra
      have HYK:=hid hy
      have HLL:=hid hL
      have HRD:=hid hrd
      have hend:stopG (x,ws,bs) L≠0→outG Y r0 n=some ((k:Int),stopG (x,ws,bs) L):=by
       intro h
       have:=stopGA_end (Y:=Y) (r0:=r0) hlt hst.out (by rw [hy,hL];exact h)
       rw [hy,hL] at this
       rw [HO9.out,this];rfl
      have hgo:stopG (x,ws,bs) L=0→zbo Y r0 (k+1)=none:=fun h=>stopGA_go hst.out (by rw [hy,hL];exact h)
      have hst2:stopG (x,ws,bs) L=(nxZ (x,ws,bs) L).2.2:=by
       unfold stopG nxZ
       cases zb2 (x,ws,bs).1 L.length <;> simp
      have hnx:stopG (x,ws,bs) L=0→nextR (x,ws,bs) L=((nxZ (x,ws,bs) L).1,(nxZ (x,ws,bs) L).2.1):=by
       intro h
       unfold nextR nxZ
       unfold stopG at h
       cases ht:zb2 (x,ws,bs).1 L.length with
       | false=>rw [ht] at h;simp at h
       | true=>simp
      have CN:Hid (∀ wx,Below w.heap.size w wx→Kit.Rd wx wx.heap.size Av (rvV L)→Calls Tryz.prog 131 #[.slice Av (k+1) cv,.agg x.val] wx fun e w'=>e=.returned (.tuple #[.agg #[.int .i8 (nxZ (x,ws,bs) L).1,.int .i8 (nxZ (x,ws,bs) L).2.1],.int .i64 (nxZ (x,ws,bs) L).2.2])∧Below wx.heap.size wx w') :=
       hid (fun wx hb hr=>cnext_to (w:=wx) (x,ws,bs) L (k+1) hlen (by omega) hall Av cv (HT.out.grown hb) hys hr (NdL.belowG hyl hb) hyw hyb)
      obtain⟨ra,hra2⟩:∃ ra,(nxZ (x,ws,bs) L).1=ra:=⟨_,rfl⟩
      obtain⟨rb,hrb2⟩:∃ rb,(nxZ (x,ws,bs) L).2.1=rb:=⟨_,rfl⟩
      obtain⟨z,hz⟩:∃ z,(nxZ (x,ws,bs) L).2.2=z:=⟨_,rfl⟩
      rw [hra2,hrb2,hz] at CN
      rw [hra2,hrb2] at hnx
      rw [hst2,hz] at hend hgo hnx
      have HEND:=hid hend
      have HGO:=hid hgo
      have HNX0:=hid hnx
      obtain⟨m,hm⟩:∃ m,k+1=m:=⟨_,rfl⟩
      have HMK:=hid hm
      have hmi:((k+1:Nat):Int)=(m:Int):=by rw [hm]
      rw [hm] at CN HO
      try rw [hm]
      clear hrd hra hba hy hL hyl hyw hyb hys hend hgo hnx hst2 hra2 hrb2 hz hlen hall hm
      go_upto_region 12 with (first
       | (refine nd_load_mid rfl _ rfl ba (oa+k * 19) x rfl HRA.out ?_)
       | (refine zaq rfl _ _ rfl wr.heap.size nd0 x rfl rfl (NdBox.new nd0 _ wr) ?_
          intro w2 hbx hbl hsz1
          have HNX:=hid hbx.1
          have hh:Below wr.heap.size wr w2:=((Below.refl _ _).alloc (le_refl _) _).trans hbl
          have HH:=hid hh
          have HB2:=hid (HB.out.trans (hh.mono HB.out.size))
          have HRD2:=hid ((HRD.out.below hh).more hh.size)
          clear hbx hbl hsz1 hh)
       | (refine zac rfl _ rfl wr.heap.size x rfl HNX.out ?_)
       | (go_at_call 131
          refine (CN.out _ HB2.out HRD2.out).mono ?_
          rintro e w3 ⟨rfl,hb⟩
          have HB3:=hid (HB2.out.trans (hb.mono HB2.out.size))
          have HH3:=hid (HH.out.trans (hb.mono HH.out.size))
          clear hb HNX))
      have HO3:=hid (Kit.own_below HO.out (HH3.out.alloc HH3.out.size (.cells #[.int .i8 ra,.int .i8 rb] 172)))
      have HB4:=hid (HB3.out.alloc HB3.out.size (.cells #[.int .i8 ra,.int .i8 rb] 172))
      obtain⟨q0,q1⟩:=rchNew ra rb 172 w3
      generalize w3.alloc (.cells #[.int .i8 ra,.int .i8 rb] 172)=W4 at HO3 HB4 q0 q1 ⊢
      clear HB2 HB3 HRD2 HH HH3
      by_cases hz0:z=0
      ·have HGO2:=hid (HGO.out hz0)
       have HNX2:=hid (HNX0.out hz0)
       clear HEND HGO HNX0
       subst hz0
       go_wp2_with (at_builtin;refine Kit.zaj _ rfl (.tmp 42) (.tmp 44) _ rfl w.heap.size 172 i0 (.agg #[.int .i8 0,.int .i8 0]) 2 2 Tryz.underlying169 hi0 hi1 hi2 hi3 rfl (by decide) _ m (rvV L) rfl (HO3.out.alloc _) _ _ 1 1 [.int .i8 ra,.int .i8 rb] rfl rfl (Kit.Rd.new _ _ _ (lt_succ_self _)) (Kit.zbh .i8 [ra,rb]) (by have:=HMK.out;unfold maxLen;omega) (by have:=HMK.out;omega) (by have:=HB4.out.size;simp;omega) ?_;intro v5 w5 hown5 hg5 hat5;(have hB5:Below w.heap.size w w5:=(HB4.out.alloc HB4.out.size _).grown hg5 (by have:=HB4.out.size;simp;omega) (fun q hq=>Kit.zam HO3.out q hq));(have e5:rvV L ++ [.int .i8 ra,.int .i8 rb]=rvV (rcL Y r0 (k+1)):=by rw [rcL,rvV_append,HYK.out,HLL.out,HNX2.out];rfl);rw [e5, ← HMK.out] at hown5;(have HO5:=hid hown5);(have HB5:=hid hB5);clear hown5 hg5 hat5 hB5 e5)
       go_roundw
       case rel=>exact⟨k+1,by omega,by go_num,HGO2,HO5,HB5⟩
       case measure=>simp [intOf];omega
      ·have hz2:(z != 0)=true:=by simpa using hz0
       have HE9:=hid (HEND.out hz0)
       clear HEND HGO HNX0
       go_wp2_with fail
       go_ret3
       exact⟨.inl ⟨k,z,HE9.out,rfl⟩,HB4.out⟩
     ·obtain rfl:k=n:=by omega
      have ho:outG Y r0 k=none:=by rw [HO9.out,hst.out];rfl
      have HO8:=hid ho
      clear ho
      go_wp2_with fail
      go_ret3
      exact⟨.inr ⟨HO8.out,_,rfl,HO.out⟩,HB.out⟩
end CGuard
end
end Go.Proofs.YtfgdfignoakkaaaGreatDoor
