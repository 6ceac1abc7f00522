/- -/
import Derived.Test.YtceehogkckdbkaaDoorGH6
open Go.Lib (hid)
open Nat (le_refl lt_of_succ_lt lt_succ_self)
set_option linter.unusedVariables false
set_option linter.unusedSimpArgs false
set_option maxRecDepth 100000
set_option maxHeartbeats 16000000
namespace Go.Proofs.YtceehogkckdbkaaDoor
namespace CConv
end CConv
namespace CFix
end CFix
namespace CSat
end CSat
namespace CShape
end CShape
namespace CTensor
end CTensor
open Go Go.ChangeShapes Go.WideShapes Go.ChangeAt Go.RowKit
section
namespace CSpan
open Plain CSat CFix CShape CTensor CConv
theorem res_2 {fn:Func} {a b:Tmp} (h:fn.results=#[.tmp a,.tmp b]) (tmps:Array Value) (P:Program) (w:World):(results fn tmps).run P w=.ok (.tuple #[tmps.getD a undef,tmps.getD b undef]) w:=by
 simp [results,h]
def dnF (ws:List Int) (lo hi z:Int) (g:Bool) (k:Nat):Int :=
 if g then min (min (ws.getD k 0 * (lo - z)) (ws.getD k 0 * (hi - z))) 0 else min (ws.getD k 0 * (lo - z)) (ws.getD k 0 * (hi - z))
def upF (ws:List Int) (lo hi z:Int) (g:Bool) (k:Nat):Int :=
 if g then max (max (ws.getD k 0 * (lo - z)) (ws.getD k 0 * (hi - z))) 0 else max (ws.getD k 0 * (lo - z)) (ws.getD k 0 * (hi - z))
theorem zay {y v z:Int} (h1 : -128≤y) (h2:y≤127) (h3 : -128≤v) (h4:v≤127) (h5 : -128≤z) (h6:z≤127) : -32640≤y * (v - z)∧y * (v - z)≤32640:=term_bd h3 h4 h1 h2 h5 h6
theorem dnF_bd {ws:List Int} (hw:I8b ws) {lo hi z:Int} (l1 : -128≤lo) (l2:lo≤127) (h1 : -128≤hi) (h2:hi≤127) (z1 : -128≤z) (z2:z≤127) (g:Bool) (k:Nat) : -32640≤dnF ws lo hi z g k∧dnF ws lo hi z g k≤32640:=by
 obtain⟨a,b⟩:=hw k
 have p:=zay a b l1 l2 z1 z2
 have q:=zay a b h1 h2 z1 z2
 unfold dnF
 split <;> omega
theorem upF_bd {ws:List Int} (hw:I8b ws) {lo hi z:Int} (l1 : -128≤lo) (l2:lo≤127) (h1 : -128≤hi) (h2:hi≤127) (z1 : -128≤z) (z2:z≤127) (g:Bool) (k:Nat) : -32640≤upF ws lo hi z g k∧upF ws lo hi z g k≤32640:=by
 obtain⟨a,b⟩:=hw k
 have p:=zay a b l1 l2 z1 z2
 have q:=zay a b h1 h2 z1 z2
 unfold upF
 split <;> omega
theorem rrow_to (A:Option Addr) (ws:List Int) (n c:Nat) (hn:ws.length=n) (hn2:n≤1000000) (hw:I8b ws) (bias lo hi z:Int) (b1 : -2147483648≤bias) (b2:bias≤2147483647) (l1 : -128≤lo) (l2:lo≤127) (h1 : -128≤hi) (h2:hi≤127) (z1 : -128≤z) (z2:z≤127) (g:Bool)
  (X Y:Int) (hX:bias+psum (dnF ws lo hi z g) n=X) (hY:bias+psum (upF ws lo hi z g) n=Y) (w:World) {B:Nat} (hr:Kit.Rd w B A (I8s ws)) :
  Calls Tryd.prog 61 #[.slice A n c,.int .i32 bias,.int .i8 lo,.int .i8 hi,.int .i8 z,.bool g] w fun e w'=>e=.returned (.tuple #[.int .i64 X,.int .i64 Y])∧∃ m,w'=w.drewN m:=by
 have HX:=hid hX
 have HY:=hid hY
 have HN:=hid hn
 have HW:=hid hw
 have HR:=hid hr
 have hdb:=fun (k:Nat) (hk:k≤n)=>psum_bd (G:=dnF ws lo hi z g) (b:=32640) (n:=k) (fun j _=>dnF_bd hw l1 l2 h1 h2 z1 z2 g j)
 have hub:=fun (k:Nat) (hk:k≤n)=>psum_bd (G:=upF ws lo hi z g) (b:=32640) (n:=k) (fun j _=>upF_bd hw l1 l2 h1 h2 z1 z2 g j)
 have HDB:=hid hdb
 have HUB:=hid hub
 have eb:IntKind.i64.wrap bias=bias:=IntWalk.i64_in _ (by omega)
 clear hX hY hn hw hr hdb hub
 go_enter Tryd.func61,Tryd.ntmps61
 go_wp2_with fail
 clear eb
 go_loopw [14,15,16] (fun s t u wr=>∃ k nq:Nat,k≤n∧u=.int .i64 k∧s=.int .i64 (bias+psum (dnF ws lo hi z g) k)∧t=.int .i64 (bias+psum (upF ws lo hi z g) k)∧Hid (wr=w.drewN nq)) (fun _ _ u _=>n - (intOf u).toNat)
 case atStart=>exact⟨0,0,Nat.zero_le _,rfl,by simp [psum],by simp [psum],hid rfl⟩
 case round =>
  obtain⟨k,nq,hk,rfl,rfl,rfl,hw⟩:=hrel
  obtain rfl:=hw.out
  clear hw
  by_cases hlt:k < n
  ·obtain⟨ba,oa,rfl,_,hca⟩:=zau HR.out (j:=0) (by have:=HN.out;omega)
   have hcx:=hca k (by have:=HN.out;omega)
   have hk0:(0:Int)≤(k:Int):=by omega
   have hkn:(k:Int) < (n:Int):=by omega
   obtain⟨y1,y2⟩:=HW.out k
   obtain⟨p1,p2⟩:=zay y1 y2 l1 l2 z1 z2
   obtain⟨q1,q2⟩:=zay y1 y2 h1 h2 z1 z2
   obtain⟨d1,d2⟩:=HDB.out k (by omega)
   obtain⟨u1,u2⟩:=HUB.out k (by omega)
   have hD:dnF ws lo hi z g k=if g then min (min (ws.getD k 0 * (lo - z)) (ws.getD k 0 * (hi - z))) 0 else min (ws.getD k 0 * (lo - z)) (ws.getD k 0 * (hi - z)):=rfl
   have hU:upF ws lo hi z g k=if g then max (max (ws.getD k 0 * (lo - z)) (ws.getD k 0 * (hi - z))) 0 else max (ws.getD k 0 * (lo - z)) (ws.getD k 0 * (hi - z)):=rfl
   have s1:bias+psum (dnF ws lo hi z g) (k+1)=bias+psum (dnF ws lo hi z g) k+dnF ws lo hi z g k:=by simp only [psum];omega
   have s2:bias+psum (upF ws lo hi z g) (k+1)=bias+psum (upF ws lo hi z g) k+upF ws lo hi z g k:=by simp only [psum];omega
   have S1:=hid s1
   have S2:=hid s2
   clear s1 s2
   obtain⟨P,hP⟩:∃ P,bias+psum (dnF ws lo hi z g) k=P:=⟨_,rfl⟩
   obtain⟨Q,hQ⟩:∃ Q,bias+psum (upF ws lo hi z g) k=Q:=⟨_,rfl⟩
   have bP : -40000000000≤P∧P≤40000000000:=by omega
   have bQ : -40000000000≤Q∧Q≤40000000000:=by omega
   rw [hP,hQ]
   rw [hP] at S1
   rw [hQ] at S2
   clear hP hQ d1 d2 u1 u2
   obtain⟨bP1,bP2⟩:=bP
   obtain⟨bQ1,bQ2⟩:=bQ
   generalize dnF ws lo hi z g k=D at hD S1
   generalize upF ws lo hi z g k=U at hU S2
   generalize ws.getD k 0=y at hcx y1 y2 p1 p2 q1 q2 hD hU
   have e1:IntKind.i64.wrap y=y:=IntWalk.i64_in _ (by omega)
   have e2:IntKind.i64.wrap lo=lo:=IntWalk.i64_in _ (by omega)
   have e3:IntKind.i64.wrap hi=hi:=IntWalk.i64_in _ (by omega)
   have e4:IntKind.i64.wrap z=z:=IntWalk.i64_in _ (by omega)
   have e5:IntKind.i64.wrap (lo - z)=lo - z:=IntWalk.i64_in _ (by omega)
   have e6:IntKind.i64.wrap (hi - z)=hi - z:=IntWalk.i64_in _ (by omega)
   obtain⟨a,ha⟩:∃ a,y * (lo - z)=a:=⟨_,rfl⟩
   obtain⟨b,hb⟩:∃ b,y * (hi - z)=b:=⟨_,rfl⟩
   rw [ha] at p1 p2
   rw [hb] at q1 q2
   rw [ha,hb] at hD hU
   have e7:IntKind.i64.wrap (y * (lo - z))=a:=by rw [ha];exact IntWalk.i64_in _ (by omega)
   have e8:IntKind.i64.wrap (y * (hi - z))=b:=by rw [hb];exact IntWalk.i64_in _ (by omega)
   clear ha hb hca
   cases g with
   | false =>
     rw [if_neg (by decide)] at hD hU
     have m1:(if b < a then b else a)=D:=by rw [hD];split <;> omega
     have m2:(if a < b then b else a)=U:=by rw [hU];split <;> omega
     have bD : -32640≤D∧D≤32640:=by omega
     have bU : -32640≤U∧U≤32640:=by omega
     obtain⟨bD1,bD2⟩:=bD
     obtain⟨bU1,bU2⟩:=bU
     have e9:IntKind.i64.wrap (P+D)=P+D:=IntWalk.i64_in _ (by omega)
     have e10:IntKind.i64.wrap (Q+U)=Q+U:=IntWalk.i64_in _ (by omega)
     clear hD hU
     go_wp2_with fail
     go_quiet (fail)
     go_wp2
     go_roundw
     case rel=>exact⟨k+1,_,by omega,by go_num,congrArg _ S1.out.symm,congrArg _ S2.out.symm,hid rfl⟩
     case measure=>simp [intOf];omega
   | true =>
     rw [if_pos rfl] at hD hU
     obtain⟨mn,m1⟩:∃ mn,(if b < a then b else a)=mn:=⟨_,rfl⟩
     obtain⟨mx,m2⟩:∃ mx,(if a < b then b else a)=mx:=⟨_,rfl⟩
     have hmn:min a b=mn:=by rw [← m1];split <;> omega
     have hmx:max a b=mx:=by rw [← m2];split <;> omega
     rw [hmn] at hD
     rw [hmx] at hU
     have m3:(if 0 < mn then 0 else mn)=D:=by rw [hD];split <;> omega
     have m4:(if mx < 0 then 0 else mx)=U:=by rw [hU];split <;> omega
     clear hmn hmx
     have bD : -32640≤D∧D≤32640:=by omega
     have bU : -32640≤U∧U≤32640:=by omega
     obtain⟨bD1,bD2⟩:=bD
     obtain⟨bU1,bU2⟩:=bU
     have e9:IntKind.i64.wrap (P+D)=P+D:=IntWalk.i64_in _ (by omega)
     have e10:IntKind.i64.wrap (Q+U)=Q+U:=IntWalk.i64_in _ (by omega)
     clear hD hU
     go_wp2_with fail
     go_quiet (fail)
     go_wp2
     go_roundw
     case rel=>exact⟨k+1,_,by omega,by go_num,congrArg _ S1.out.symm,congrArg _ S2.out.symm,hid rfl⟩
     case measure=>simp [intOf];omega
  ·obtain rfl:k=n:=by omega
   rw [HX.out,HY.out]
   go_wp2_with fail
   refine bodyPost_ret (res_2 rfl _ _ _) rfl ?_
   exact⟨rfl,nq,rfl⟩
end CSpan
end
end Go.Proofs.YtceehogkckdbkaaDoor
