/- -/
import Derived.Test.YtoffcaldhojjoaaGreatDoorGVU20
import Derived.Test.YtoffcaldhojjoaaGreatDoorGVU21
import Derived.Test.YtoffcaldhojjoaaGreatDoorGVU22
open Go.Lib (hid)
open Nat (le_refl lt_of_succ_lt lt_succ_self)
set_option linter.unusedVariables false
set_option linter.unusedSimpArgs false
set_option maxRecDepth 100000
set_option maxHeartbeats 16000000
namespace Go.Proofs.YtoffcaldhojjoaaGreatDoor
namespace CConv
end CConv
namespace CDense
end CDense
namespace CFix
end CFix
namespace CSat
end CSat
namespace CTensor
end CTensor
open Go Go.ChangeShapes Go.WideShapes Go.ChangeAt Go.RowKit Go.Deep
section
namespace CKind
open Plain CSat CShape CTensor CConv CDense CDepth
theorem shape_flat (H W C:Int):zae 1 1 (zam H W C)=zae H W C:=by
 cases hs:zae H W C
 ·rw [zbe hs];decide
 ·obtain⟨a1,a2,a3,a4,a5,a6,a7⟩:=zah hs
  have:=zbs a1 a2 a3 a4 a5 a6
  rw [zas hs]
  generalize H * W * C=n at *
  exact decide_eq_true ⟨by omega,by omega,by omega,by omega,by omega,by omega,by omega⟩
theorem shape_to (x:Nd):ShapeIs 59 x:=by
 intro H W C H2 W2 C2 e u0 u1 u2 he hv w
 by_cases h0:x.kd < 1∨9 < x.kd
 ·have n1:¬ x.kd=1:=by omega
  have n2:¬ x.kd=2:=by omega
  have n3:¬ x.kd=3:=by omega
  have n4:¬ (x.kd=4∨x.kd=5):=by omega
  have e6:x.shE H W C H2 W2 C2=6:=by unfold Nd.shE;rw [if_neg n1,if_neg n2,if_neg n3,if_neg n4,if_pos h0]
  refine csh_0 x h0 H W C H2 W2 C2 e u0 u1 u2 (e6.symm.trans he) ?_ w
  rw [← hv];unfold Nd.shV;rw [if_neg n1,if_neg n2,if_neg n3,if_neg n4,e6,if_pos (by decide)]
 have hk:x.kd=1∨x.kd=2∨x.kd=3∨x.kd=4∨x.kd=5∨x.kd=6∨x.kd=7∨x.kd=8∨x.kd=9:=by omega
 clear h0
 have c0:∀ {b:Bool} {y:Int},(if b=false then (5:Int) else y)=if b=true then y else 5:=fun {b} {y} => by cases b <;> rfl
 unfold Nd.shV Nd.shE at hv
 unfold Nd.shE at he
 rcases hk with h | h | h | h | h | h | h | h | h
 all_goals simp only [h,if_true,if_false,show ¬ (2:Int)=1 by decide,show ¬ (3:Int)=1 by decide,show ¬ (4:Int)=1 by decide,show ¬ (5:Int)=1 by decide,show ¬ (6:Int)=1 by decide,show ¬ (7:Int)=1 by decide,show ¬ (8:Int)=1 by decide,show ¬ (9:Int)=1 by decide,
  show ¬ (3:Int)=2 by decide,show ¬ (4:Int)=2 by decide,show ¬ (5:Int)=2 by decide,show ¬ (6:Int)=2 by decide,show ¬ (7:Int)=2 by decide,show ¬ (8:Int)=2 by decide,show ¬ (9:Int)=2 by decide,
  show ¬ (4:Int)=3 by decide,show ¬ (5:Int)=3 by decide,show ¬ (6:Int)=3 by decide,show ¬ (7:Int)=3 by decide,show ¬ (8:Int)=3 by decide,show ¬ (9:Int)=3 by decide,
  show ((4:Int)=4∨(4:Int)=5) by decide,show ((5:Int)=4∨(5:Int)=5) by decide,show ¬ ((6:Int)=4∨(6:Int)=5) by decide,show ¬ ((7:Int)=4∨(7:Int)=5) by decide,show ¬ ((8:Int)=4∨(8:Int)=5) by decide,show ¬ ((9:Int)=4∨(9:Int)=5) by decide,
  show ¬ ((6:Int) < 1∨(9:Int) < 6) by decide,show ¬ ((7:Int) < 1∨(9:Int) < 7) by decide,show ¬ ((8:Int) < 1∨(9:Int) < 8) by decide,show ¬ ((9:Int) < 1∨(9:Int) < 9) by decide,
  show ¬ (7:Int)=6 by decide,show ¬ (8:Int)=6 by decide,show ¬ (9:Int)=6 by decide,show ¬ (6:Int)=8 by decide,show ¬ (7:Int)=8 by decide,show ¬ (9:Int)=8 by decide,show ¬ (6:Int)=9 by decide,show ¬ (7:Int)=9 by decide,show ¬ (8:Int)=9 by decide,true_and,false_and] at he hv
 ·exact csh_1 x h H W C H2 W2 C2 e u0 u1 u2 he hv w
 ·exact csh_2 x h H W C H2 W2 C2 e u0 u1 u2 he hv w
 ·exact csh_3 x h H W C H2 W2 C2 e u0 u1 u2 he hv w
 ·exact csh_4 x h H W C H2 W2 C2 e u0 u1 u2 he hv w
 ·exact csh_5 x h H W C H2 W2 C2 e u0 u1 u2 he hv w
 ·cases hd:(H == H2 && (W == W2 && C == C2))
  ·have h5:(if zae H W C=false then (5:Int) else if (H == H2 && (W == W2 && C == C2))=false then 5 else 0)=5:=by rw [hd];cases zae H W C <;> rfl
   rw [h5] at he hv
   exact csh_6n x h H W C H2 W2 C2 e u0 u1 u2 hd he (by rw [← hv,if_pos (by decide)]) w
  ·have h5:(if zae H W C=false then (5:Int) else if (H == H2 && (W == W2 && C == C2))=false then 5 else 0)=if zae H W C=true then 0 else 5:=by rw [hd];cases zae H W C <;> rfl
   rw [h5] at he hv
   refine csh_6y x h H W C H2 W2 C2 e u0 u1 u2 hd he ?_ w
   rw [← hv];cases zae H W C <;> rfl
 ·rw [c0] at he hv
  refine csh_7 x h H W C H2 W2 C2 e u0 u1 u2 he ?_ w
  rw [← hv];cases zae H W C <;> rfl
 ·refine csh_8 x h H W C H2 W2 C2 e u0 u1 u2 he ?_ w
  rw [← hv, ← he]
 ·rw [c0] at he hv
  refine csh_9 x h H W C H2 W2 C2 e u0 u1 u2 _ rfl (by rw [shape_flat];exact he) ?_ w
  rw [shape_flat, ← hv];cases zae H W C <;> rfl
end CKind
end
section
namespace CSpan
open Go Go.ChangeShapes Go.WideShapes Go.ChangeAt Go.RowKit
open Plain CSat CFix CShape CTensor CConv
theorem res_2 {fn:Func} {a b:Tmp} (h:fn.results=#[.tmp a,.tmp b]) (tmps:Array Value) (P:Program) (w:World):(results fn tmps).run P w=.ok (.tuple #[tmps.getD a undef,tmps.getD b undef]) w:=by
 simp [results,h]
def dnF (ws:List Int) (lo hi z:Int) (g:Bool) (k:Nat):Int :=
 if g then min (min (ws.getD k 0 * (lo - z)) (ws.getD k 0 * (hi - z))) 0 else min (ws.getD k 0 * (lo - z)) (ws.getD k 0 * (hi - z))
def upF (ws:List Int) (lo hi z:Int) (g:Bool) (k:Nat):Int :=
 if g then max (max (ws.getD k 0 * (lo - z)) (ws.getD k 0 * (hi - z))) 0 else max (ws.getD k 0 * (lo - z)) (ws.getD k 0 * (hi - z))
theorem zck {y v z:Int} (h1 : -128≤y) (h2:y≤127) (h3 : -128≤v) (h4:v≤127) (h5 : -128≤z) (h6:z≤127) : -32640≤y * (v - z)∧y * (v - z)≤32640:=term_bd h3 h4 h1 h2 h5 h6
theorem dnF_bd {ws:List Int} (hw:I8b ws) {lo hi z:Int} (l1 : -128≤lo) (l2:lo≤127) (h1 : -128≤hi) (h2:hi≤127) (z1 : -128≤z) (z2:z≤127) (g:Bool) (k:Nat) : -32640≤dnF ws lo hi z g k∧dnF ws lo hi z g k≤32640:=by
 obtain⟨a,b⟩:=hw k
 have p:=zck a b l1 l2 z1 z2
 have q:=zck a b h1 h2 z1 z2
 unfold dnF
 split <;> omega
theorem upF_bd {ws:List Int} (hw:I8b ws) {lo hi z:Int} (l1 : -128≤lo) (l2:lo≤127) (h1 : -128≤hi) (h2:hi≤127) (z1 : -128≤z) (z2:z≤127) (g:Bool) (k:Nat) : -32640≤upF ws lo hi z g k∧upF ws lo hi z g k≤32640:=by
 obtain⟨a,b⟩:=hw k
 have p:=zck a b l1 l2 z1 z2
 have q:=zck a b h1 h2 z1 z2
 unfold upF
 split <;> omega
theorem rrow_to (A:Option Addr) (ws:List Int) (n c:Nat) (hn:ws.length=n) (hn2:n≤1000000) (hw:I8b ws) (bias lo hi z:Int) (b1 : -2147483648≤bias) (b2:bias≤2147483647) (l1 : -128≤lo) (l2:lo≤127) (h1 : -128≤hi) (h2:hi≤127) (z1 : -128≤z) (z2:z≤127) (g:Bool)
  (X Y:Int) (hX:bias+psum (dnF ws lo hi z g) n=X) (hY:bias+psum (upF ws lo hi z g) n=Y) (w:World) {B:Nat} (hr:Kit.Rd w B A (I8s ws)) :
  Calls Tryz.prog 53 #[.slice A n c,.int .i32 bias,.int .i8 lo,.int .i8 hi,.int .i8 z,.bool g] w fun e w'=>e=.returned (.tuple #[.int .i64 X,.int .i64 Y])∧∃ m,w'=w.drewN m:=by
 have HX:=hid hX
 have HY:=hid hY
 have HN:=hid hn
 have HW:=hid hw
 have HR:=hid hr
 have hdb:=fun (k:Nat) (hk:k≤n)=>psum_bd (G:=dnF ws lo hi z g) (b:=32640) (n:=k) (fun j _=>dnF_bd hw l1 l2 h1 h2 z1 z2 g j)
 have hub:=fun (k:Nat) (hk:k≤n)=>psum_bd (G:=upF ws lo hi z g) (b:=32640) (n:=k) (fun j _=>upF_bd hw l1 l2 h1 h2 z1 z2 g j)
 have HDB:=hid hdb
 have HUB:=hid hub
 have eb:IntKind.i64.wrap bias=bias:=IntWalk.i64_in _ (by omega)
 clear hX hY hn hw hr hdb hub
 go_enter Tryz.func53,Tryz.ntmps53
 go_wp2_with fail
 clear eb
 go_loopw [14,15,16] (fun s t u wr=>∃ k nq:Nat,k≤n∧u=.int .i64 k∧s=.int .i64 (bias+psum (dnF ws lo hi z g) k)∧t=.int .i64 (bias+psum (upF ws lo hi z g) k)∧Hid (wr=w.drewN nq)) (fun _ _ u _=>n - (intOf u).toNat)
 case atStart=>exact⟨0,0,Nat.zero_le _,rfl,by simp [psum],by simp [psum],hid rfl⟩
 case round =>
  obtain⟨k,nq,hk,rfl,rfl,rfl,hw⟩:=hrel
  obtain rfl:=hw.out
  clear hw
  by_cases hlt:k < n
  ·obtain⟨ba,oa,rfl,_,hca⟩:=zb3 HR.out (j:=0) (by have:=HN.out;omega)
   have hcx:=hca k (by have:=HN.out;omega)
   have hk0:(0:Int)≤(k:Int):=by omega
   have hkn:(k:Int) < (n:Int):=by omega
   obtain⟨y1,y2⟩:=HW.out k
   obtain⟨p1,p2⟩:=zck y1 y2 l1 l2 z1 z2
   obtain⟨q1,q2⟩:=zck y1 y2 h1 h2 z1 z2
   obtain⟨d1,d2⟩:=HDB.out k (by omega)
   obtain⟨u1,u2⟩:=HUB.out k (by omega)
   have hD:dnF ws lo hi z g k=if g then min (min (ws.getD k 0 * (lo - z)) (ws.getD k 0 * (hi - z))) 0 else min (ws.getD k 0 * (lo - z)) (ws.getD k 0 * (hi - z)):=rfl
   have hU:upF ws lo hi z g k=if g then max (max (ws.getD k 0 * (lo - z)) (ws.getD k 0 * (hi - z))) 0 else max (ws.getD k 0 * (lo - z)) (ws.getD k 0 * (hi - z)):=rfl
   have s1:bias+psum (dnF ws lo hi z g) (k+1)=bias+psum (dnF ws lo hi z g) k+dnF ws lo hi z g k:=by simp only [psum];omega
   have s2:bias+psum (upF ws lo hi z g) (k+1)=bias+psum (upF ws lo hi z g) k+upF ws lo hi z g k:=by simp only [psum];omega
   have S1:=hid s1
   have S2:=hid s2
   clear s1 s2
   obtain⟨P,hP⟩:∃ P,bias+psum (dnF ws lo hi z g) k=P:=⟨_,rfl⟩
   obtain⟨Q,hQ⟩:∃ Q,bias+psum (upF ws lo hi z g) k=Q:=⟨_,rfl⟩
   have bP : -40000000000≤P∧P≤40000000000:=by omega
   have bQ : -40000000000≤Q∧Q≤40000000000:=by omega
   rw [hP,hQ]
   rw [hP] at S1
   rw [hQ] at S2
   clear hP hQ d1 d2 u1 u2
   obtain⟨bP1,bP2⟩:=bP
   obtain⟨bQ1,bQ2⟩:=bQ
   generalize dnF ws lo hi z g k=D at hD S1
   generalize upF ws lo hi z g k=U at hU S2
   generalize ws.getD k 0=y at hcx y1 y2 p1 p2 q1 q2 hD hU
   have e1:IntKind.i64.wrap y=y:=IntWalk.i64_in _ (by omega)
   have e2:IntKind.i64.wrap lo=lo:=IntWalk.i64_in _ (by omega)
   have e3:IntKind.i64.wrap hi=hi:=IntWalk.i64_in _ (by omega)
   have e4:IntKind.i64.wrap z=z:=IntWalk.i64_in _ (by omega)
   have e5:IntKind.i64.wrap (lo - z)=lo - z:=IntWalk.i64_in _ (by omega)
   have e6:IntKind.i64.wrap (hi - z)=hi - z:=IntWalk.i64_in _ (by omega)
   obtain⟨a,ha⟩:∃ a,y * (lo - z)=a:=⟨_,rfl⟩
   obtain⟨b,hb⟩:∃ b,y * (hi - z)=b:=⟨_,rfl⟩
   rw [ha] at p1 p2
   rw [hb] at q1 q2
   rw [ha,hb] at hD hU
   have e7:IntKind.i64.wrap (y * (lo - z))=a:=by rw [ha];exact IntWalk.i64_in _ (by omega)
   have e8:IntKind.i64.wrap (y * (hi - z))=b:=by rw [hb];exact IntWalk.i64_in _ (by omega)
   clear ha hb hca
   cases g with
   | false =>
     rw [if_neg (by decide)] at hD hU
     have m1:(if b < a then b else a)=D:=by rw [hD];split <;> omega
     have m2:(if a < b then b else a)=U:=by rw [hU];split <;> omega
     have bD : -32640≤D∧D≤32640:=by omega
     have bU : -32640≤U∧U≤32640:=by omega
     obtain⟨bD1,bD2⟩:=bD
     obtain⟨bU1,bU2⟩:=bU
     have e9:IntKind.i64.wrap (P+D)=P+D:=IntWalk.i64_in _ (by omega)
     have e10:IntKind.i64.wrap (Q+U)=Q+U:=IntWalk.i64_in _ (by omega)
     clear hD hU
     go_wp2_with fail
     go_quiet (fail)
     go_wp2
     go_roundw
     case rel=>exact⟨k+1,_,by omega,by go_num,congrArg _ S1.out.symm,congrArg _ S2.out.symm,hid rfl⟩
     case measure=>simp [intOf];omega
   | true =>
     rw [if_pos rfl] at hD hU
     obtain⟨mn,m1⟩:∃ mn,(if b < a then b else a)=mn:=⟨_,rfl⟩
     obtain⟨mx,m2⟩:∃ mx,(if a < b then b else a)=mx:=⟨_,rfl⟩
     have hmn:min a b=mn:=by rw [← m1];split <;> omega
     have hmx:max a b=mx:=by rw [← m2];split <;> omega
     rw [hmn] at hD
     rw [hmx] at hU
     have m3:(if 0 < mn then 0 else mn)=D:=by rw [hD];split <;> omega
     have m4:(if mx < 0 then 0 else mx)=U:=by rw [hU];split <;> omega
     clear hmn hmx
     have bD : -32640≤D∧D≤32640:=by omega
     have bU : -32640≤U∧U≤32640:=by omega
     obtain⟨bD1,bD2⟩:=bD
     obtain⟨bU1,bU2⟩:=bU
     have e9:IntKind.i64.wrap (P+D)=P+D:=IntWalk.i64_in _ (by omega)
     have e10:IntKind.i64.wrap (Q+U)=Q+U:=IntWalk.i64_in _ (by omega)
     clear hD hU
     go_wp2_with fail
     go_quiet (fail)
     go_wp2
     go_roundw
     case rel=>exact⟨k+1,_,by omega,by go_num,congrArg _ S1.out.symm,congrArg _ S2.out.symm,hid rfl⟩
     case measure=>simp [intOf];omega
  ·obtain rfl:k=n:=by omega
   rw [HX.out,HY.out]
   go_wp2_with fail
   refine bodyPost_ret (res_2 rfl _ _ _) rfl ?_
   exact⟨rfl,nq,rfl⟩
def c32 (a:Int):Int:=min (max a (-2147483648)) 2147483647
theorem c32_bd (a:Int) : -2147483648≤c32 a∧c32 a≤2147483647:=by unfold c32;omega
theorem heldZ_bds (a m s z lo hi:Int) (hl1 : -128≤lo) (hl2:lo≤127) (hh1 : -128≤hi) (hh2:hi≤127) : -128≤heldZ a m s z lo hi∧heldZ a m s z lo hi≤127:=by
 unfold heldZ zbt;split <;> (try split) <;> (try split) <;> omega
theorem min_ite (a b:Int):(if b < a then b else a)=min a b:=by split <;> omega
theorem max_ite (a b:Int):(if a < b then b else a)=max a b:=by split <;> omega
theorem zcg (a b m s z lo hi:Int) (hm1 : -2147483648≤m) (hm2:m≤2147483647) (hz1 : -128≤z) (hz2:z≤127) (hl1 : -128≤lo) (hl2:lo≤127) (hh1 : -128≤hi) (hh2:hi≤127) (w:World) :
  Calls Tryz.prog 50 #[.int .i64 a,.int .i64 b,.agg #[.int .i32 m,.int .i64 s,.int .i8 z],.int .i8 lo,.int .i8 hi] w fun e w' =>
   e=.returned (.tuple #[.int .i8 (min (heldZ (c32 a) m s z lo hi) (heldZ (c32 b) m s z lo hi)),.int .i8 (max (heldZ (c32 a) m s z lo hi) (heldZ (c32 b) m s z lo hi))])∧Below w.heap.size w w':=by
 obtain⟨a1,a2⟩:=c32_bd a
 obtain⟨b1,b2⟩:=c32_bd b
 obtain⟨ma,hma⟩:∃ x,(if a < -2147483648 then -2147483648 else a)=x:=⟨_,rfl⟩
 obtain⟨mb,hmb⟩:∃ x,(if b < -2147483648 then -2147483648 else b)=x:=⟨_,rfl⟩
 have hca:(if 2147483647 < ma then 2147483647 else ma)=c32 a:=by rw [← hma,max_ite,min_ite];rfl
 have hcb:(if 2147483647 < mb then 2147483647 else mb)=c32 b:=by rw [← hmb,max_ite,min_ite];rfl
 generalize c32 a=ca at *
 generalize c32 b=cb at *
 have e1:IntKind.i32.wrap ca=ca:=IntWalk.i32_in _ (by omega)
 have e2:IntKind.i32.wrap cb=cb:=IntWalk.i32_in _ (by omega)
 obtain⟨x,hx⟩:∃ x,heldZ ca m s z lo hi=x:=⟨_,rfl⟩
 obtain⟨y,hy⟩:∃ y,heldZ cb m s z lo hi=y:=⟨_,rfl⟩
 have k1:=min_ite x y
 have k2:=max_ite x y
 have HX:=hid hx
 have HY:=hid hy
 rw [hx,hy]
 generalize min x y=mn at *
 generalize max x y=mx at *
 have c1:=fun (w:World)=>refHeldQ ca m s z lo hi a1 a2 hm1 hm2 hz1 hz2 hl1 hl2 hh1 hh2 w
 have c2:=fun (w:World)=>refHeldQ cb m s z lo hi b1 b2 hm1 hm2 hz1 hz2 hl1 hl2 hh1 hh2 w
 rw [hx] at c1
 rw [hy] at c2
 have C1:=hid c1
 have C2:=hid c2
 have hal:Below w.heap.size w (w.alloc (.cells #[.int .i32 m,.int .i64 s,.int .i8 z] 59)):=(Below.refl _ _).alloc (le_refl _) _
 have HAL:=hid hal
 clear hx hy c1 c2 hal
 go_enter Tryz.func50,Tryz.ntmps50
 go_wp2_with (first
  | (go_at_call 65;(have hchk:=HB1);clear hchk;(refine (C2.out _).mono ?_);rintro e w2 ⟨rfl,hb2⟩;(replace HB1:=hid (HB1.out.trans (hb2.mono HB1.out.size)));clear hb2)
  | (go_at_call 65;(refine (C1.out _).mono ?_);rintro e w1 ⟨rfl,hb⟩;(obtain⟨q0,q1,q2, -, -⟩:=Kit.box_3 (hb.mono (by simp)));(have HB1:=hid (HAL.out.trans (hb.mono HAL.out.size)));clear hb))
 refine bodyPost_ret (res_2 rfl _ _ _) rfl ?_
 exact⟨rfl,HB1.out⟩
end CSpan
end
section
namespace CVerd
open Plain CSat CShape CTensor CConv CDense
def HeadAt (B:Nat) (WA BA:Option Addr) (nW cW nB cB:Nat) (D:Int) (wd:World):Prop :=
 wd.cell? ⟨B,0,none⟩=some (.slice WA nW cW)∧wd.cell? ⟨B,1,none⟩=some (.slice BA nB cB)∧wd.cell? ⟨B,2,none⟩=some (.int .i32 D)
theorem zb0 (WA BA:Option Addr) (nW cW nB cB:Nat) (D:Int) (T:TypeId) (w:World):HeadAt w.heap.size WA BA nW cW nB cB D (w.alloc (.cells #[.slice WA nW cW,.slice BA nB cB,.int .i32 D] T)):=⟨Kit.zal _ _ _ _,Kit.zal _ _ _ _,Kit.zal _ _ _ _⟩
theorem HeadAt.below {B B':Nat} {WA BA:Option Addr} {nW cW nB cB:Nat} {D:Int} {w w':World} (h:HeadAt B WA BA nW cW nB cB D w) (hB:B < B') (hb:Below B' w w'):HeadAt B WA BA nW cW nB cB D w' :=
 ⟨(hb.cell (p:=⟨B,0,none⟩) hB).trans h.1,(hb.cell (p:=⟨B,1,none⟩) hB).trans h.2.1,(hb.cell (p:=⟨B,2,none⟩) hB).trans h.2.2⟩
def verdE (H W C:Int) (nW nB:Nat) (D N:Int):Int :=
 if zae H W C=false then 5 else if N < 2∨16 < N then 2 else if (nW:Int)=N * zam H W C∧nW≤16384∧(nB:Int)=N then (if D < 0 then 11 else 0) else 9
theorem one_right {N:Int} (h:¬ (N < 2∨16 < N)):zae 1 1 N=true:=by simp [zae];omega
theorem dense_ok {H W C:Int} {nW nB:Nat} {N:Int} (h1:zae H W C=true) (h2:¬ (N < 2∨16 < N)) (h3:(nW:Int)=N * zam H W C∧nW≤16384∧(nB:Int)=N):zcb H W C N nW nB=0:=by
 unfold zcb;rw [if_pos ⟨h1,one_right h2⟩,if_pos h3]
theorem dense_nine {H W C:Int} {nW nB:Nat} {N:Int} (h1:zae H W C=true) (h2:¬ (N < 2∨16 < N)) (h3:¬ ((nW:Int)=N * zam H W C∧nW≤16384∧(nB:Int)=N)):zcb H W C N nW nB=9:=by
 unfold zcb;rw [if_pos ⟨h1,one_right h2⟩,if_neg h3]
theorem chk_5 (H W C:Int) (WA BA:Option Addr) (nW cW nB cB:Nat) (D N:Int) (h1:zae H W C=false) (w:World) :
  Calls Tryz.prog 48 #[.agg #[.int .i64 H,.int .i64 W,.int .i64 C],.agg #[.slice WA nW cW,.slice BA nB cB,.int .i32 D],.int .i64 N] w fun e' w'=>e'=.returned (.int .i64 5)∧Below w.heap.size w w':=by
 have HB1:=hid h1
 clear h1
 go_enter Tryz.func48,Tryz.ntmps48
 go_wp2_with fail
 go_at_call 16
 have hal:Below w.heap.size w ((w.alloc (.cells #[.int .i64 H,.int .i64 W,.int .i64 C] 23)).alloc (.cells #[.slice WA nW cW,.slice BA nB cB,.int .i32 D] 44)):=((Below.refl _ _).alloc (by first | exact le_refl _ | (simp;done) | (simp;omega)) _).alloc (by first | exact le_refl _ | (simp;done) | (simp;omega)) _
 refine (CShape.zax H W C false HB1.out _).mono ?_
 rintro e w1 ⟨rfl,hb⟩
 have hh:Below w.heap.size w w1:=hal.trans (hb.mono hal.size)
 have qTS0:=(zao H W C 23) w
 try simp only [World.size_alloc] at qTS0
 have TS0:=hid ((qTS0.below (B':=w.heap.size+1) (by omega) (((Below.refl _ _).alloc (by first | exact le_refl _ | (simp;done) | (simp;omega)) _).mono (by simp))).below (by first | (simp;done) | (simp;omega)) hb)
 have yTS0:w.heap.size < w1.heap.size:=by have:=hb.size;simp at this;omega
 clear qTS0
 have qTH:=(zb0 WA BA nW cW nB cB D 44) (w.alloc (.cells #[.int .i64 H,.int .i64 W,.int .i64 C] 23))
 try simp only [World.size_alloc] at qTH
 have TH:=hid (qTH.below (by first | (simp;done) | (simp;omega)) hb)
 have yTH:w.heap.size+1 < w1.heap.size:=by have:=hb.size;simp at this;omega
 clear qTH
 have HBW:Hid (Below w.heap.size w w1):=hid hh
 obtain⟨ts0p0,ts0p1,ts0p2⟩:=TS0.out
 obtain⟨thp0,thp1,thp2⟩:=TH.out
 clear hb hh hal
 go_wp2_with fail
 go_ret
 exact⟨rfl,HBW.out⟩
theorem chk_2a (H W C:Int) (WA BA:Option Addr) (nW cW nB cB:Nat) (D N:Int) (h1:zae H W C=true) (h2:N < 2) (w:World) :
  Calls Tryz.prog 48 #[.agg #[.int .i64 H,.int .i64 W,.int .i64 C],.agg #[.slice WA nW cW,.slice BA nB cB,.int .i32 D],.int .i64 N] w fun e' w'=>e'=.returned (.int .i64 2)∧Below w.heap.size w w':=by
 have HB1:=hid h1
 have q1:(N < 2)=True:=by simp [h2]
 have q2:decide (N < 2)=true:=by simp [h2]
 clear h1
 go_enter Tryz.func48,Tryz.ntmps48
 go_wp2_with fail
 go_at_call 16
 have hal:Below w.heap.size w ((w.alloc (.cells #[.int .i64 H,.int .i64 W,.int .i64 C] 23)).alloc (.cells #[.slice WA nW cW,.slice BA nB cB,.int .i32 D] 44)):=((Below.refl _ _).alloc (by first | exact le_refl _ | (simp;done) | (simp;omega)) _).alloc (by first | exact le_refl _ | (simp;done) | (simp;omega)) _
 refine (CShape.zax H W C true HB1.out _).mono ?_
 rintro e w1 ⟨rfl,hb⟩
 have hh:Below w.heap.size w w1:=hal.trans (hb.mono hal.size)
 have qTS0:=(zao H W C 23) w
 try simp only [World.size_alloc] at qTS0
 have TS0:=hid ((qTS0.below (B':=w.heap.size+1) (by omega) (((Below.refl _ _).alloc (by first | exact le_refl _ | (simp;done) | (simp;omega)) _).mono (by simp))).below (by first | (simp;done) | (simp;omega)) hb)
 have yTS0:w.heap.size < w1.heap.size:=by have:=hb.size;simp at this;omega
 clear qTS0
 have qTH:=(zb0 WA BA nW cW nB cB D 44) (w.alloc (.cells #[.int .i64 H,.int .i64 W,.int .i64 C] 23))
 try simp only [World.size_alloc] at qTH
 have TH:=hid (qTH.below (by first | (simp;done) | (simp;omega)) hb)
 have yTH:w.heap.size+1 < w1.heap.size:=by have:=hb.size;simp at this;omega
 clear qTH
 have HBW:Hid (Below w.heap.size w w1):=hid hh
 obtain⟨ts0p0,ts0p1,ts0p2⟩:=TS0.out
 obtain⟨thp0,thp1,thp2⟩:=TH.out
 clear hb hh hal
 go_wp2_with fail
 go_ret
 exact⟨rfl,HBW.out⟩
theorem chk_2b (H W C:Int) (WA BA:Option Addr) (nW cW nB cB:Nat) (D N:Int) (h1:zae H W C=true) (h2:¬ N < 2) (h3:16 < N) (w:World) :
  Calls Tryz.prog 48 #[.agg #[.int .i64 H,.int .i64 W,.int .i64 C],.agg #[.slice WA nW cW,.slice BA nB cB,.int .i32 D],.int .i64 N] w fun e' w'=>e'=.returned (.int .i64 2)∧Below w.heap.size w w':=by
 have HB1:=hid h1
 have q1:decide (N < 2)=false:=by simp [h2]
 have q2:(16 < N)=True:=by simp [h3]
 have q3:decide (16 < N)=true:=by simp [h3]
 clear h1
 go_enter Tryz.func48,Tryz.ntmps48
 go_wp2_with fail
 go_at_call 16
 have hal:Below w.heap.size w ((w.alloc (.cells #[.int .i64 H,.int .i64 W,.int .i64 C] 23)).alloc (.cells #[.slice WA nW cW,.slice BA nB cB,.int .i32 D] 44)):=((Below.refl _ _).alloc (by first | exact le_refl _ | (simp;done) | (simp;omega)) _).alloc (by first | exact le_refl _ | (simp;done) | (simp;omega)) _
 refine (CShape.zax H W C true HB1.out _).mono ?_
 rintro e w1 ⟨rfl,hb⟩
 have hh:Below w.heap.size w w1:=hal.trans (hb.mono hal.size)
 have qTS0:=(zao H W C 23) w
 try simp only [World.size_alloc] at qTS0
 have TS0:=hid ((qTS0.below (B':=w.heap.size+1) (by omega) (((Below.refl _ _).alloc (by first | exact le_refl _ | (simp;done) | (simp;omega)) _).mono (by simp))).below (by first | (simp;done) | (simp;omega)) hb)
 have yTS0:w.heap.size < w1.heap.size:=by have:=hb.size;simp at this;omega
 clear qTS0
 have qTH:=(zb0 WA BA nW cW nB cB D 44) (w.alloc (.cells #[.int .i64 H,.int .i64 W,.int .i64 C] 23))
 try simp only [World.size_alloc] at qTH
 have TH:=hid (qTH.below (by first | (simp;done) | (simp;omega)) hb)
 have yTH:w.heap.size+1 < w1.heap.size:=by have:=hb.size;simp at this;omega
 clear qTH
 have HBW:Hid (Below w.heap.size w w1):=hid hh
 obtain⟨ts0p0,ts0p1,ts0p2⟩:=TS0.out
 obtain⟨thp0,thp1,thp2⟩:=TH.out
 clear hb hh hal
 go_wp2_with fail
 go_ret
 exact⟨rfl,HBW.out⟩
theorem chk_9 (H W C:Int) (WA BA:Option Addr) (nW cW nB cB:Nat) (D N:Int) (h1:zae H W C=true) (h2:¬ (N < 2∨16 < N)) (h3:¬ ((nW:Int)=N * zam H W C∧nW≤16384∧(nB:Int)=N)) (w:World) :
  Calls Tryz.prog 48 #[.agg #[.int .i64 H,.int .i64 W,.int .i64 C],.agg #[.slice WA nW cW,.slice BA nB cB,.int .i32 D],.int .i64 N] w fun e' w'=>e'=.returned (.int .i64 9)∧Below w.heap.size w w':=by
 have hE:zcb H W C N nW nB=9:=dense_nine h1 h2 h3
 have hS:zcc H W C N nW nB=#[.int .i64 0,.int .i64 0,.int .i64 0]:=by unfold zcc;rw [hE];rfl
 have HB1:=hid h1
 have HE:=hid hE
 have HS:=hid hS
 have q1:decide (N < 2)=false:=by simp;omega
 have q2:decide (16 < N)=false:=by simp;omega
 have q3:¬ N < 2:=by omega
 have q4:¬ 16 < N:=by omega
 clear h1 hE hS h2 h3
 go_enter Tryz.func48,Tryz.ntmps48
 go_wp2_with fail
 go_at_call 16
 have hal:Below w.heap.size w ((w.alloc (.cells #[.int .i64 H,.int .i64 W,.int .i64 C] 23)).alloc (.cells #[.slice WA nW cW,.slice BA nB cB,.int .i32 D] 44)):=((Below.refl _ _).alloc (by first | exact le_refl _ | (simp;done) | (simp;omega)) _).alloc (by first | exact le_refl _ | (simp;done) | (simp;omega)) _
 refine (CShape.zax H W C true HB1.out _).mono ?_
 rintro e w1 ⟨rfl,hb⟩
 have hh:Below w.heap.size w w1:=hal.trans (hb.mono hal.size)
 have qTS0:=(zao H W C 23) w
 try simp only [World.size_alloc] at qTS0
 have TS0:=hid ((qTS0.below (B':=w.heap.size+1) (by omega) (((Below.refl _ _).alloc (by first | exact le_refl _ | (simp;done) | (simp;omega)) _).mono (by simp))).below (by first | (simp;done) | (simp;omega)) hb)
 have yTS0:w.heap.size < w1.heap.size:=by have:=hb.size;simp at this;omega
 clear qTS0
 have qTH:=(zb0 WA BA nW cW nB cB D 44) (w.alloc (.cells #[.int .i64 H,.int .i64 W,.int .i64 C] 23))
 try simp only [World.size_alloc] at qTH
 have TH:=hid (qTH.below (by first | (simp;done) | (simp;omega)) hb)
 have yTH:w.heap.size+1 < w1.heap.size:=by have:=hb.size;simp at this;omega
 clear qTH
 have HBW:Hid (Below w.heap.size w w1):=hid hh
 obtain⟨ts0p0,ts0p1,ts0p2⟩:=TS0.out
 obtain⟨thp0,thp1,thp2⟩:=TH.out
 clear hb hh hal
 go_wp2_with fail
 go_at_call 62
 have hal:Below w1.heap.size w1 w1:=Below.refl _ _
 refine (dshape_to H W C _ _ _ _ _ _ _ _ _ _ _ _ _ _ _ _ _ _ _ _ _ _ _ 9 #[.int .i64 0,.int .i64 0,.int .i64 0] HE.out HS.out _).mono ?_
 rintro e w2 ⟨rfl,hb⟩
 have hh:Below w1.heap.size w1 w2:=hal.trans (hb.mono hal.size)
 replace TS0:=hid (TS0.out.below yTS0 hh)
 replace yTS0:=Nat.lt_of_lt_of_le yTS0 hh.size
 replace TH:=hid (TH.out.below yTH hh)
 replace yTH:=Nat.lt_of_lt_of_le yTH hh.size
 replace HBW:=hid (HBW.out.trans (hh.mono HBW.out.size))
 clear ts0p0 ts0p1 ts0p2 thp0 thp1 thp2
 obtain⟨ts0p0,ts0p1,ts0p2⟩:=TS0.out
 obtain⟨thp0,thp1,thp2⟩:=TH.out
 clear hb hh hal
 go_wp2_with fail
 go_ret
 exact⟨rfl,by have hbw:=HBW.out;go_grown⟩
theorem chk_11 (H W C:Int) (WA BA:Option Addr) (nW cW nB cB:Nat) (D N:Int) (h1:zae H W C=true) (h2:¬ (N < 2∨16 < N)) (h3:(nW:Int)=N * zam H W C∧nW≤16384∧(nB:Int)=N) (h4:D < 0) (w:World) :
  Calls Tryz.prog 48 #[.agg #[.int .i64 H,.int .i64 W,.int .i64 C],.agg #[.slice WA nW cW,.slice BA nB cB,.int .i32 D],.int .i64 N] w fun e' w'=>e'=.returned (.int .i64 11)∧Below w.heap.size w w':=by
 have hE:zcb H W C N nW nB=0:=dense_ok h1 h2 h3
 have hS:zcc H W C N nW nB=#[.int .i64 1,.int .i64 1,.int .i64 N]:=by unfold zcc;rw [hE];rfl
 have HB1:=hid h1
 have HE:=hid hE
 have HS:=hid hS
 have q1:decide (N < 2)=false:=by simp;omega
 have q2:decide (16 < N)=false:=by simp;omega
 have q3:¬ N < 2:=by omega
 have q4:¬ 16 < N:=by omega
 have q5:decide (D < 0)=true:=by simp [h4]
 have q6:(D < 0)=True:=by simp [h4]
 clear h1 hE hS h2 h3
 go_enter Tryz.func48,Tryz.ntmps48
 go_wp2_with fail
 go_at_call 16
 have hal:Below w.heap.size w ((w.alloc (.cells #[.int .i64 H,.int .i64 W,.int .i64 C] 23)).alloc (.cells #[.slice WA nW cW,.slice BA nB cB,.int .i32 D] 44)):=((Below.refl _ _).alloc (by first | exact le_refl _ | (simp;done) | (simp;omega)) _).alloc (by first | exact le_refl _ | (simp;done) | (simp;omega)) _
 refine (CShape.zax H W C true HB1.out _).mono ?_
 rintro e w1 ⟨rfl,hb⟩
 have hh:Below w.heap.size w w1:=hal.trans (hb.mono hal.size)
 have qTS0:=(zao H W C 23) w
 try simp only [World.size_alloc] at qTS0
 have TS0:=hid ((qTS0.below (B':=w.heap.size+1) (by omega) (((Below.refl _ _).alloc (by first | exact le_refl _ | (simp;done) | (simp;omega)) _).mono (by simp))).below (by first | (simp;done) | (simp;omega)) hb)
 have yTS0:w.heap.size < w1.heap.size:=by have:=hb.size;simp at this;omega
 clear qTS0
 have qTH:=(zb0 WA BA nW cW nB cB D 44) (w.alloc (.cells #[.int .i64 H,.int .i64 W,.int .i64 C] 23))
 try simp only [World.size_alloc] at qTH
 have TH:=hid (qTH.below (by first | (simp;done) | (simp;omega)) hb)
 have yTH:w.heap.size+1 < w1.heap.size:=by have:=hb.size;simp at this;omega
 clear qTH
 have HBW:Hid (Below w.heap.size w w1):=hid hh
 obtain⟨ts0p0,ts0p1,ts0p2⟩:=TS0.out
 obtain⟨thp0,thp1,thp2⟩:=TH.out
 clear hb hh hal
 go_wp2_with fail
 go_at_call 62
 have hal:Below w1.heap.size w1 w1:=Below.refl _ _
 refine (dshape_to H W C _ _ _ _ _ _ _ _ _ _ _ _ _ _ _ _ _ _ _ _ _ _ _ 0 #[.int .i64 1,.int .i64 1,.int .i64 N] HE.out HS.out _).mono ?_
 rintro e w2 ⟨rfl,hb⟩
 have hh:Below w1.heap.size w1 w2:=hal.trans (hb.mono hal.size)
 replace TS0:=hid (TS0.out.below yTS0 hh)
 replace yTS0:=Nat.lt_of_lt_of_le yTS0 hh.size
 replace TH:=hid (TH.out.below yTH hh)
 replace yTH:=Nat.lt_of_lt_of_le yTH hh.size
 replace HBW:=hid (HBW.out.trans (hh.mono HBW.out.size))
 clear ts0p0 ts0p1 ts0p2 thp0 thp1 thp2
 obtain⟨ts0p0,ts0p1,ts0p2⟩:=TS0.out
 obtain⟨thp0,thp1,thp2⟩:=TH.out
 clear hb hh hal
 go_wp2_with fail
 go_ret
 exact⟨rfl,by have hbw:=HBW.out;go_grown⟩
theorem chk_0 (H W C:Int) (WA BA:Option Addr) (nW cW nB cB:Nat) (D N:Int) (h1:zae H W C=true) (h2:¬ (N < 2∨16 < N)) (h3:(nW:Int)=N * zam H W C∧nW≤16384∧(nB:Int)=N) (h4:¬ D < 0) (w:World) :
  Calls Tryz.prog 48 #[.agg #[.int .i64 H,.int .i64 W,.int .i64 C],.agg #[.slice WA nW cW,.slice BA nB cB,.int .i32 D],.int .i64 N] w fun e' w'=>e'=.returned (.int .i64 0)∧Below w.heap.size w w':=by
 have hE:zcb H W C N nW nB=0:=dense_ok h1 h2 h3
 have hS:zcc H W C N nW nB=#[.int .i64 1,.int .i64 1,.int .i64 N]:=by unfold zcc;rw [hE];rfl
 have HB1:=hid h1
 have HE:=hid hE
 have HS:=hid hS
 have q1:decide (N < 2)=false:=by simp;omega
 have q2:decide (16 < N)=false:=by simp;omega
 have q3:¬ N < 2:=by omega
 have q4:¬ 16 < N:=by omega
 have q5:decide (D < 0)=false:=by simp [h4]
 clear h1 hE hS h2 h3
 go_enter Tryz.func48,Tryz.ntmps48
 go_wp2_with fail
 go_at_call 16
 have hal:Below w.heap.size w ((w.alloc (.cells #[.int .i64 H,.int .i64 W,.int .i64 C] 23)).alloc (.cells #[.slice WA nW cW,.slice BA nB cB,.int .i32 D] 44)):=((Below.refl _ _).alloc (by first | exact le_refl _ | (simp;done) | (simp;omega)) _).alloc (by first | exact le_refl _ | (simp;done) | (simp;omega)) _
 refine (CShape.zax H W C true HB1.out _).mono ?_
 rintro e w1 ⟨rfl,hb⟩
 have hh:Below w.heap.size w w1:=hal.trans (hb.mono hal.size)
 have qTS0:=(zao H W C 23) w
 try simp only [World.size_alloc] at qTS0
 have TS0:=hid ((qTS0.below (B':=w.heap.size+1) (by omega) (((Below.refl _ _).alloc (by first | exact le_refl _ | (simp;done) | (simp;omega)) _).mono (by simp))).below (by first | (simp;done) | (simp;omega)) hb)
 have yTS0:w.heap.size < w1.heap.size:=by have:=hb.size;simp at this;omega
 clear qTS0
 have qTH:=(zb0 WA BA nW cW nB cB D 44) (w.alloc (.cells #[.int .i64 H,.int .i64 W,.int .i64 C] 23))
 try simp only [World.size_alloc] at qTH
 have TH:=hid (qTH.below (by first | (simp;done) | (simp;omega)) hb)
 have yTH:w.heap.size+1 < w1.heap.size:=by have:=hb.size;simp at this;omega
 clear qTH
 have HBW:Hid (Below w.heap.size w w1):=hid hh
 obtain⟨ts0p0,ts0p1,ts0p2⟩:=TS0.out
 obtain⟨thp0,thp1,thp2⟩:=TH.out
 clear hb hh hal
 go_wp2_with fail
 go_at_call 62
 have hal:Below w1.heap.size w1 w1:=Below.refl _ _
 refine (dshape_to H W C _ _ _ _ _ _ _ _ _ _ _ _ _ _ _ _ _ _ _ _ _ _ _ 0 #[.int .i64 1,.int .i64 1,.int .i64 N] HE.out HS.out _).mono ?_
 rintro e w2 ⟨rfl,hb⟩
 have hh:Below w1.heap.size w1 w2:=hal.trans (hb.mono hal.size)
 replace TS0:=hid (TS0.out.below yTS0 hh)
 replace yTS0:=Nat.lt_of_lt_of_le yTS0 hh.size
 replace TH:=hid (TH.out.below yTH hh)
 replace yTH:=Nat.lt_of_lt_of_le yTH hh.size
 replace HBW:=hid (HBW.out.trans (hh.mono HBW.out.size))
 clear ts0p0 ts0p1 ts0p2 thp0 thp1 thp2
 obtain⟨ts0p0,ts0p1,ts0p2⟩:=TS0.out
 obtain⟨thp0,thp1,thp2⟩:=TH.out
 clear hb hh hal
 go_wp2_with fail
 go_ret
 exact⟨rfl,by have hbw:=HBW.out;go_grown⟩
theorem chk_to (H W C:Int) (WA BA:Option Addr) (nW cW nB cB:Nat) (D N:Int) (e:Int) (he:verdE H W C nW nB D N=e) (w:World) :
  Calls Tryz.prog 48 #[.agg #[.int .i64 H,.int .i64 W,.int .i64 C],.agg #[.slice WA nW cW,.slice BA nB cB,.int .i32 D],.int .i64 N] w fun e' w'=>e'=.returned (.int .i64 e)∧Below w.heap.size w w':=by
 unfold verdE at he
 by_cases h1:zae H W C=false
 ·rw [if_pos h1] at he;subst he
  exact chk_5 H W C WA BA nW cW nB cB D N h1 w
 ·rw [if_neg h1] at he
  replace h1:zae H W C=true:=by simpa using h1
  by_cases h2:N < 2∨16 < N
  ·rw [if_pos h2] at he;subst he
   by_cases h3:N < 2
   ·exact chk_2a H W C WA BA nW cW nB cB D N h1 h3 w
   ·exact chk_2b H W C WA BA nW cW nB cB D N h1 h3 (by omega) w
  ·rw [if_neg h2] at he
   by_cases h3:(nW:Int)=N * zam H W C∧nW≤16384∧(nB:Int)=N
   ·rw [if_pos h3] at he
    by_cases h4:D < 0
    ·rw [if_pos h4] at he;subst he
     exact chk_11 H W C WA BA nW cW nB cB D N h1 h2 h3 h4 w
    ·rw [if_neg h4] at he;subst he
     exact chk_0 H W C WA BA nW cW nB cB D N h1 h2 h3 h4 w
   ·rw [if_neg h3] at he;subst he
    exact chk_9 H W C WA BA nW cW nB cB D N h1 h2 h3 w
end CVerd
end
end Go.Proofs.YtoffcaldhojjoaaGreatDoor
