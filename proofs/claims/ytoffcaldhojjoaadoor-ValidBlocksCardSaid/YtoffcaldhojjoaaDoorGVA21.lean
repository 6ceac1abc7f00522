/- -/
import Derived.Test.YtoffcaldhojjoaaDoorGVA19
open Go.Lib (hid)
open Nat (le_refl lt_of_succ_lt lt_succ_self)
set_option linter.unusedVariables false
set_option linter.unusedSimpArgs false
set_option maxRecDepth 100000
set_option maxHeartbeats 16000000
namespace Go.Proofs.YtoffcaldhojjoaaDoor
namespace CConv
end CConv
namespace CFix
end CFix
namespace CSat
end CSat
namespace CTensor
end CTensor
open Go Go.ChangeShapes Go.WideShapes Go.ChangeAt Go.RowKit Go.Deep
section
namespace CSpan
open Go Go.ChangeShapes Go.WideShapes Go.ChangeAt Go.RowKit
open Plain CSat CFix CShape CTensor CConv
theorem res_2 {fn:Func} {a b:Tmp} (h:fn.results=#[.tmp a,.tmp b]) (tmps:Array Value) (P:Program) (w:World):(results fn tmps).run P w=.ok (.tuple #[tmps.getD a undef,tmps.getD b undef]) w:=by
 simp [results,h]
def dnF (ws:List Int) (lo hi z:Int) (g:Bool) (k:Nat):Int :=
 if g then min (min (ws.getD k 0 * (lo - z)) (ws.getD k 0 * (hi - z))) 0 else min (ws.getD k 0 * (lo - z)) (ws.getD k 0 * (hi - z))
def upF (ws:List Int) (lo hi z:Int) (g:Bool) (k:Nat):Int :=
 if g then max (max (ws.getD k 0 * (lo - z)) (ws.getD k 0 * (hi - z))) 0 else max (ws.getD k 0 * (lo - z)) (ws.getD k 0 * (hi - z))
theorem zcj {y v z:Int} (h1 : -128≤y) (h2:y≤127) (h3 : -128≤v) (h4:v≤127) (h5 : -128≤z) (h6:z≤127) : -32640≤y * (v - z)∧y * (v - z)≤32640:=term_bd h3 h4 h1 h2 h5 h6
theorem dnF_bd {ws:List Int} (hw:I8b ws) {lo hi z:Int} (l1 : -128≤lo) (l2:lo≤127) (h1 : -128≤hi) (h2:hi≤127) (z1 : -128≤z) (z2:z≤127) (g:Bool) (k:Nat) : -32640≤dnF ws lo hi z g k∧dnF ws lo hi z g k≤32640:=by
 obtain⟨a,b⟩:=hw k
 have p:=zcj a b l1 l2 z1 z2
 have q:=zcj a b h1 h2 z1 z2
 unfold dnF
 split <;> omega
theorem upF_bd {ws:List Int} (hw:I8b ws) {lo hi z:Int} (l1 : -128≤lo) (l2:lo≤127) (h1 : -128≤hi) (h2:hi≤127) (z1 : -128≤z) (z2:z≤127) (g:Bool) (k:Nat) : -32640≤upF ws lo hi z g k∧upF ws lo hi z g k≤32640:=by
 obtain⟨a,b⟩:=hw k
 have p:=zcj a b l1 l2 z1 z2
 have q:=zcj a b h1 h2 z1 z2
 unfold upF
 split <;> omega
theorem rrow_to (A:Option Addr) (ws:List Int) (n c:Nat) (hn:ws.length=n) (hn2:n≤1000000) (hw:I8b ws) (bias lo hi z:Int) (b1 : -2147483648≤bias) (b2:bias≤2147483647) (l1 : -128≤lo) (l2:lo≤127) (h1 : -128≤hi) (h2:hi≤127) (z1 : -128≤z) (z2:z≤127) (g:Bool)
  (X Y:Int) (hX:bias+psum (dnF ws lo hi z g) n=X) (hY:bias+psum (upF ws lo hi z g) n=Y) (w:World) {B:Nat} (hr:Kit.Rd w B A (I8s ws)) :
  Calls Tryd.prog 50 #[.slice A n c,.int .i32 bias,.int .i8 lo,.int .i8 hi,.int .i8 z,.bool g] w fun e w'=>e=.returned (.tuple #[.int .i64 X,.int .i64 Y])∧∃ m,w'=w.drewN m:=by
 have HX:=hid hX
 have HY:=hid hY
 have HN:=hid hn
 have HW:=hid hw
 have HR:=hid hr
 have hdb:=fun (k:Nat) (hk:k≤n)=>psum_bd (G:=dnF ws lo hi z g) (b:=32640) (n:=k) (fun j _=>dnF_bd hw l1 l2 h1 h2 z1 z2 g j)
 have hub:=fun (k:Nat) (hk:k≤n)=>psum_bd (G:=upF ws lo hi z g) (b:=32640) (n:=k) (fun j _=>upF_bd hw l1 l2 h1 h2 z1 z2 g j)
 have HDB:=hid hdb
 have HUB:=hid hub
 have eb:IntKind.i64.wrap bias=bias:=IntWalk.i64_in _ (by omega)
 clear hX hY hn hw hr hdb hub
 go_enter Tryd.func50,Tryd.ntmps50
 go_wp2_with fail
 clear eb
 go_loopw [14,15,16] (fun s t u wr=>∃ k nq:Nat,k≤n∧u=.int .i64 k∧s=.int .i64 (bias+psum (dnF ws lo hi z g) k)∧t=.int .i64 (bias+psum (upF ws lo hi z g) k)∧Hid (wr=w.drewN nq)) (fun _ _ u _=>n - (intOf u).toNat)
 case atStart=>exact⟨0,0,Nat.zero_le _,rfl,by simp [psum],by simp [psum],hid rfl⟩
 case round =>
  obtain⟨k,nq,hk,rfl,rfl,rfl,hw⟩:=hrel
  obtain rfl:=hw.out
  clear hw
  by_cases hlt:k < n
  ·obtain⟨ba,oa,rfl,_,hca⟩:=zb0 HR.out (j:=0) (by have:=HN.out;omega)
   have hcx:=hca k (by have:=HN.out;omega)
   have hk0:(0:Int)≤(k:Int):=by omega
   have hkn:(k:Int) < (n:Int):=by omega
   obtain⟨y1,y2⟩:=HW.out k
   obtain⟨p1,p2⟩:=zcj y1 y2 l1 l2 z1 z2
   obtain⟨q1,q2⟩:=zcj y1 y2 h1 h2 z1 z2
   obtain⟨d1,d2⟩:=HDB.out k (by omega)
   obtain⟨u1,u2⟩:=HUB.out k (by omega)
   have hD:dnF ws lo hi z g k=if g then min (min (ws.getD k 0 * (lo - z)) (ws.getD k 0 * (hi - z))) 0 else min (ws.getD k 0 * (lo - z)) (ws.getD k 0 * (hi - z)):=rfl
   have hU:upF ws lo hi z g k=if g then max (max (ws.getD k 0 * (lo - z)) (ws.getD k 0 * (hi - z))) 0 else max (ws.getD k 0 * (lo - z)) (ws.getD k 0 * (hi - z)):=rfl
   have s1:bias+psum (dnF ws lo hi z g) (k+1)=bias+psum (dnF ws lo hi z g) k+dnF ws lo hi z g k:=by simp only [psum];omega
   have s2:bias+psum (upF ws lo hi z g) (k+1)=bias+psum (upF ws lo hi z g) k+upF ws lo hi z g k:=by simp only [psum];omega
   have S1:=hid s1
   have S2:=hid s2
   clear s1 s2
   obtain⟨P,hP⟩:∃ P,bias+psum (dnF ws lo hi z g) k=P:=⟨_,rfl⟩
   obtain⟨Q,hQ⟩:∃ Q,bias+psum (upF ws lo hi z g) k=Q:=⟨_,rfl⟩
   have bP : -40000000000≤P∧P≤40000000000:=by omega
   have bQ : -40000000000≤Q∧Q≤40000000000:=by omega
   rw [hP,hQ]
   rw [hP] at S1
   rw [hQ] at S2
   clear hP hQ d1 d2 u1 u2
   obtain⟨bP1,bP2⟩:=bP
   obtain⟨bQ1,bQ2⟩:=bQ
   generalize dnF ws lo hi z g k=D at hD S1
   generalize upF ws lo hi z g k=U at hU S2
   generalize ws.getD k 0=y at hcx y1 y2 p1 p2 q1 q2 hD hU
   have e1:IntKind.i64.wrap y=y:=IntWalk.i64_in _ (by omega)
   have e2:IntKind.i64.wrap lo=lo:=IntWalk.i64_in _ (by omega)
   have e3:IntKind.i64.wrap hi=hi:=IntWalk.i64_in _ (by omega)
   have e4:IntKind.i64.wrap z=z:=IntWalk.i64_in _ (by omega)
   have e5:IntKind.i64.wrap (lo - z)=lo - z:=IntWalk.i64_in _ (by omega)
   have e6:IntKind.i64.wrap (hi - z)=hi - z:=IntWalk.i64_in _ (by omega)
   obtain⟨a,ha⟩:∃ a,y * (lo - z)=a:=⟨_,rfl⟩
   obtain⟨b,hb⟩:∃ b,y * (hi - z)=b:=⟨_,rfl⟩
   rw [ha] at p1 p2
   rw [hb] at q1 q2
   rw [ha,hb] at hD hU
   have e7:IntKind.i64.wrap (y * (lo - z))=a:=by rw [ha];exact IntWalk.i64_in _ (by omega)
   have e8:IntKind.i64.wrap (y * (hi - z))=b:=by rw [hb];exact IntWalk.i64_in _ (by omega)
   clear ha hb hca
   cases g with
   | false =>
     rw [if_neg (by decide)] at hD hU
     have m1:(if b < a then b else a)=D:=by rw [hD];split <;> omega
     have m2:(if a < b then b else a)=U:=by rw [hU];split <;> omega
     have bD : -32640≤D∧D≤32640:=by omega
     have bU : -32640≤U∧U≤32640:=by omega
     obtain⟨bD1,bD2⟩:=bD
     obtain⟨bU1,bU2⟩:=bU
     have e9:IntKind.i64.wrap (P+D)=P+D:=IntWalk.i64_in _ (by omega)
     have e10:IntKind.i64.wrap (Q+U)=Q+U:=IntWalk.i64_in _ (by omega)
     clear hD hU
     go_wp2_with fail
     go_quiet (fail)
     go_wp2
     go_roundw
     case rel=>exact⟨k+1,_,by omega,by go_num,congrArg _ S1.out.symm,congrArg _ S2.out.symm,hid rfl⟩
     case measure=>simp [intOf];omega
   | true =>
     rw [if_pos rfl] at hD hU
     obtain⟨mn,m1⟩:∃ mn,(if b < a then b else a)=mn:=⟨_,rfl⟩
     obtain⟨mx,m2⟩:∃ mx,(if a < b then b else a)=mx:=⟨_,rfl⟩
     have hmn:min a b=mn:=by rw [← m1];split <;> omega
     have hmx:max a b=mx:=by rw [← m2];split <;> omega
     rw [hmn] at hD
     rw [hmx] at hU
     have m3:(if 0 < mn then 0 else mn)=D:=by rw [hD];split <;> omega
     have m4:(if mx < 0 then 0 else mx)=U:=by rw [hU];split <;> omega
     clear hmn hmx
     have bD : -32640≤D∧D≤32640:=by omega
     have bU : -32640≤U∧U≤32640:=by omega
     obtain⟨bD1,bD2⟩:=bD
     obtain⟨bU1,bU2⟩:=bU
     have e9:IntKind.i64.wrap (P+D)=P+D:=IntWalk.i64_in _ (by omega)
     have e10:IntKind.i64.wrap (Q+U)=Q+U:=IntWalk.i64_in _ (by omega)
     clear hD hU
     go_wp2_with fail
     go_quiet (fail)
     go_wp2
     go_roundw
     case rel=>exact⟨k+1,_,by omega,by go_num,congrArg _ S1.out.symm,congrArg _ S2.out.symm,hid rfl⟩
     case measure=>simp [intOf];omega
  ·obtain rfl:k=n:=by omega
   rw [HX.out,HY.out]
   go_wp2_with fail
   refine bodyPost_ret (res_2 rfl _ _ _) rfl ?_
   exact⟨rfl,nq,rfl⟩
end CSpan
end
section
namespace CJoin
open Plain CSat CFix CShape CTensor CConv
theorem one_to (x y:Int) (hx1 : -128≤x) (hx2:x≤127) (hy1 : -128≤y) (hy2:y≤127) (x0 x1 x2:Value) (K S P O Z Y:Int) (WA BA:Option Addr) (nW cW nB cB:Nat) (m1 s1 z1 m2 s2 z2 lo hi:Int) (hnb:NBd Z Y m1 z1 m2 z2 lo hi) (R:Int) (hR:oneZ x y Z Y m1 s1 z1 m2 s2 lo hi=R) (w:World) :
  Calls Tryd.prog 78 #[.int .i8 x,.int .i8 y,.agg #[x0,x1,x2,.int .i64 K,.int .i64 S,.int .i64 P,.int .i64 O,.int .i8 Z,.int .i8 Y,.slice WA nW cW,.slice BA nB cB,.int .i32 m1,.int .i64 s1,.int .i8 z1,.int .i32 m2,.int .i64 s2,.int .i8 z2,.int .i8 lo,.int .i8 hi]] w fun e w'=>e=.returned (.int .i8 R)∧Below w.heap.size w w':=by
 obtain⟨⟨hZ1,hZ2⟩,⟨hY1,hY2⟩,⟨hm3,hm1⟩,⟨hz1,hz2⟩,⟨hm4,hm2⟩,⟨hz3,hz4⟩,⟨hl1,hl2⟩,⟨hh1,hh2⟩⟩:=hnb
 cases hh:(zay m1 s1 && zay m2 s2)
 ·unfold oneZ at hR
  rw [hh,if_neg (by decide)] at hR
  subst hR
  have HH:=hid hh
  clear hh
  go_enter Tryd.func78,Tryd.ntmps78
  go_wp2_with (first
  | (go_at_call 90
     have hal:Below w.heap.size w (w.alloc (.cells #[x0,x1,x2,.int .i64 K,.int .i64 S,.int .i64 P,.int .i64 O,.int .i8 Z,.int .i8 Y,.slice WA nW cW,.slice BA nB cB,.int .i32 m1,.int .i64 s1,.int .i8 z1,.int .i32 m2,.int .i64 s2,.int .i8 z2,.int .i8 lo,.int .i8 hi] 67)):=(Below.refl _ _).alloc (by first | exact le_refl _ | (simp;done) | (simp;omega)) _
     refine (scales_to x0 x1 x2 K S P O Z Y WA BA nW cW nB cB m1 s1 z1 m2 s2 z2 lo hi _).mono ?_
     rintro e w1 ⟨rfl,hb⟩
     have hh:Below w.heap.size w w1:=hal.trans (hb.mono hal.size)
     have qTN:=(zax.new x0 x1 x2 (.int .i8 Y) (.int .i32 m1) (.int .i64 s1) (.int .i8 z1) (.int .i32 m2) (.int .i64 s2) (.int .i8 z2) (.int .i8 lo) (.int .i8 hi) K S P O Z WA BA nW cW nB cB 67) w
     try simp only [World.size_alloc] at qTN
     have TN:=hid (qTN.below (by first | (simp;done) | (simp;omega)) hb)
     have yTN:w.heap.size < w1.heap.size:=by have:=hb.size;simp at this;omega
     clear qTN
     have HBW:Hid (Below w.heap.size w w1):=hid hh
     rw [HH.out]
     clear hb hh hal)
  | (refine wpList_load_mid rfl 67 (.tmp 5) rfl (w.heap.size) 0 rfl [x0,x1,x2,.int .i64 K,.int .i64 S,.int .i64 P,.int .i64 O,.int .i8 Z,.int .i8 Y,.slice WA nW cW,.slice BA nB cB,.int .i32 m1,.int .i64 s1,.int .i8 z1,.int .i32 m2,.int .i64 s2,.int .i8 z2,.int .i8 lo,.int .i8 hi] _ (zax.new x0 x1 x2 (.int .i8 Y) (.int .i32 m1) (.int .i64 s1) (.int .i8 z1) (.int .i32 m2) (.int .i64 s2) (.int .i8 z2) (.int .i8 lo) (.int .i8 hi) K S P O Z WA BA nW cW nB cB 67 w) Tryd.underlying67 rfl (by kernel_rfl) ?_))
  go_ret
  exact⟨rfl,HBW.out⟩
 ·obtain⟨hr1,hr2⟩:zay m1 s1=true∧zay m2 s2=true:=by simpa using hh
  obtain⟨b1,b2⟩:=round_term hx1 hx2 hZ1 hZ2 hm1 hr1
  obtain⟨b3,b4⟩:=round_term hy1 hy2 hY1 hY2 hm2 hr2
  unfold oneZ at hR
  rw [hh,if_pos rfl] at hR
  obtain⟨t1,ht1⟩:∃ t1,zbb ((x - Z) * m1) s1.toNat=t1:=⟨_,rfl⟩
  obtain⟨t2,ht2⟩:∃ t2,zbb ((y - Y) * m2) s2.toNat=t2:=⟨_,rfl⟩
  rw [ht1] at b1 b2 hR
  rw [ht2] at b3 b4 hR
  have w1:IntKind.i64.wrap (t1+t2)=t1+t2:=IntWalk.i64_in _ (by omega)
  have w2:IntKind.i64.wrap (t1+t2+z1)=t1+t2+z1:=IntWalk.i64_in _ (by omega)
  have w3:IntKind.i64.wrap z1=z1:=IntWalk.i64_in _ (by omega)
  have HH:=hid hh
  have HR1:=hid hr1
  have HR2:=hid hr2
  have HT1:=hid ht1
  have HT2:=hid ht2
  have HC:=hid hR
  clear hh hr1 hr2 ht1 ht2 hR
  go_enter Tryd.func78,Tryd.ntmps78
  go_wp2_with (first
  | (go_at_call 90
     have hal:Below w.heap.size w (w.alloc (.cells #[x0,x1,x2,.int .i64 K,.int .i64 S,.int .i64 P,.int .i64 O,.int .i8 Z,.int .i8 Y,.slice WA nW cW,.slice BA nB cB,.int .i32 m1,.int .i64 s1,.int .i8 z1,.int .i32 m2,.int .i64 s2,.int .i8 z2,.int .i8 lo,.int .i8 hi] 67)):=(Below.refl _ _).alloc (by first | exact le_refl _ | (simp;done) | (simp;omega)) _
     refine (scales_to x0 x1 x2 K S P O Z Y WA BA nW cW nB cB m1 s1 z1 m2 s2 z2 lo hi _).mono ?_
     rintro e w1 ⟨rfl,hb⟩
     have hh:Below w.heap.size w w1:=hal.trans (hb.mono hal.size)
     have qTN:=(zax.new x0 x1 x2 (.int .i8 Y) (.int .i32 m1) (.int .i64 s1) (.int .i8 z1) (.int .i32 m2) (.int .i64 s2) (.int .i8 z2) (.int .i8 lo) (.int .i8 hi) K S P O Z WA BA nW cW nB cB 67) w
     try simp only [World.size_alloc] at qTN
     have TN:=hid (qTN.below (by first | (simp;done) | (simp;omega)) hb)
     have yTN:w.heap.size < w1.heap.size:=by have:=hb.size;simp at this;omega
     clear qTN
     have HBW:Hid (Below w.heap.size w w1):=hid hh
     rw [HH.out]
     clear hb hh hal)
  | (refine wpList_load_mid rfl 67 (.tmp 5) rfl (w.heap.size) 0 rfl [x0,x1,x2,.int .i64 K,.int .i64 S,.int .i64 P,.int .i64 O,.int .i8 Z,.int .i8 Y,.slice WA nW cW,.slice BA nB cB,.int .i32 m1,.int .i64 s1,.int .i8 z1,.int .i32 m2,.int .i64 s2,.int .i8 z2,.int .i8 lo,.int .i8 hi] _ (zax.new x0 x1 x2 (.int .i8 Y) (.int .i32 m1) (.int .i64 s1) (.int .i8 z1) (.int .i32 m2) (.int .i64 s2) (.int .i8 z2) (.int .i8 lo) (.int .i8 hi) K S P O Z WA BA nW cW nB cB 67 w) Tryd.underlying67 rfl (by kernel_rfl) ?_))
  refine wp_region_held_drew (S:=fun w'=>zax w.heap.size x0 x1 x2 (.int .i8 Y) (.int .i32 m1) (.int .i64 s1) (.int .i8 z1) (.int .i32 m2) (.int .i64 s2) (.int .i8 z2) (.int .i8 lo) (.int .i8 hi) K S P O Z WA BA nW cW nB cB w') (by kernel_rfl) TN.out (fun hHeld=>?_)
  replace HBW:Hid (Below w.heap.size w w1.drew):=hid HBW.out.drew
  clear TN
  replace yTN:w.heap.size < w1.drew.heap.size:=yTN
  generalize w1.drew=W1 at HBW yTN hHeld ⊢
  refine Tk.x 0 rfl ?_
  try simp only [Tk.put]
  refine Tk.x 1 rfl ?_
  try simp only [Tk.put]
  refine Tk.y 2 (v:=?_) rfl ?_ ?_
  rotate_left
  ·intro wS hSw
   have q7:=hSw.at 7 _ rfl
   clear hSw
   first | (go_simp;done) | (go_simp;with_reducible rfl)
  try simp only [Tk.put]
  refine Tk.x 3 rfl ?_
  try simp only [Tk.put]
  refine Tk.y 4 (v:=?_) rfl ?_ ?_
  rotate_left
  ·intro wS hSw
   have q11:=hSw.at 11 _ rfl;have q12:=hSw.at 12 _ rfl;have q13:=hSw.at 13 _ rfl
   clear hSw
   first | (go_simp;done) | (go_simp;with_reducible rfl)
  try simp only [Tk.put]
  refine Tk.x 6 rfl ?_
  try simp only [Tk.put]
  refine Tk.x 7 rfl ?_
  try simp only [Tk.put]
  refine Tk.y 8 (v:=?_) rfl ?_ ?_
  rotate_left
  ·intro wS hSw
   have q8:=hSw.at 8 _ rfl
   clear hSw
   first | (go_simp;done) | (go_simp;with_reducible rfl)
  try simp only [Tk.put]
  refine Tk.x 9 rfl ?_
  try simp only [Tk.put]
  refine Tk.y 10 (v:=?_) rfl ?_ ?_
  rotate_left
  ·intro wS hSw
   have q14:=hSw.at 14 _ rfl;have q15:=hSw.at 15 _ rfl;have q16:=hSw.at 16 _ rfl
   clear hSw
   first | (go_simp;done) | (go_simp;with_reducible rfl)
  try simp only [Tk.put]
  refine Tk.x 13 rfl ?_
  try simp only [Tk.put]
  refine Tk.x 14 rfl ?_
  try simp only [Tk.put]
  refine Tk.y 15 (v:=?_) rfl ?_ ?_
  rotate_left
  ·intro wS hSw
   have q13:=hSw.at 13 _ rfl
   clear hSw
   first | (go_simp;done) | (go_simp;with_reducible rfl)
  try simp only [Tk.put]
  refine Tk.x 16 rfl ?_
  try simp only [Tk.put]
  refine Tk.x 18 rfl ?_
  try simp only [Tk.put]
  refine Tk.y 19 (v:=?_) rfl ?_ ?_
  rotate_left
  ·intro wS hSw
   have q17:=hSw.at 17 _ rfl
   clear hSw
   first | (go_simp;done) | (go_simp;with_reducible rfl)
  try simp only [Tk.put]
  refine Tk.x 20 rfl ?_
  try simp only [Tk.put]
  refine Tk.y 21 (v:=?_) rfl ?_ ?_
  rotate_left
  ·intro wS hSw
   have q18:=hSw.at 18 _ rfl
   clear hSw
   first | (go_simp;done) | (go_simp;with_reducible rfl)
  try simp only [Tk.put]
  refine Tk.s 5 rfl (fun Kq hK=>?_)
  go_simp
  go_at_call 92
  refine (scaled_to x Z m1 s1 z1 t1 hx1 hx2 hZ1 hZ2 hm1 HR1.out HT1.out _).mono ?_
  rintro e W2 ⟨rfl,hb1⟩
  have hS1:zax w.heap.size x0 x1 x2 (.int .i8 Y) (.int .i32 m1) (.int .i64 s1) (.int .i8 z1) (.int .i32 m2) (.int .i64 s2) (.int .i8 z2) (.int .i8 lo) (.int .i8 hi) K S P O Z WA BA nW cW nB cB W2:=hHeld.below yTN hb1
  replace HBW:=hid (HBW.out.trans (hb1.mono HBW.out.size))
  replace yTN:=Nat.lt_of_lt_of_le yTN hb1.size
  clear hHeld hb1
  dsimp only
  refine hK.out _ _ ?_ (fun hHeld=>?_)
  ·exact hS1
  clear hK Kq
  try simp only [Tk.put]
  refine Tk.s 11 rfl (fun Kq hK=>?_)
  go_simp
  go_at_call 92
  refine (scaled_to y Y m2 s2 z2 t2 hy1 hy2 hY1 hY2 hm2 HR2.out HT2.out _).mono ?_
  rintro e W3 ⟨rfl,hb1⟩
  have hS1:zax w.heap.size x0 x1 x2 (.int .i8 Y) (.int .i32 m1) (.int .i64 s1) (.int .i8 z1) (.int .i32 m2) (.int .i64 s2) (.int .i8 z2) (.int .i8 lo) (.int .i8 hi) K S P O Z WA BA nW cW nB cB W3:=hHeld.below yTN hb1
  replace HBW:=hid (HBW.out.trans (hb1.mono HBW.out.size))
  replace yTN:=Nat.lt_of_lt_of_le yTN hb1.size
  clear hHeld hb1
  dsimp only
  refine hK.out _ _ ?_ (fun hHeld=>?_)
  ·exact hS1
  clear hK Kq
  try simp only [Tk.put]
  refine Tk.x 12 rfl ?_
  try simp only [Tk.put]
  refine Tk.x 17 rfl ?_
  try simp only [Tk.put]
  refine Tk.s 22 rfl (fun Kq hK=>?_)
  go_simp
  go_at_call 91
  refine (jclamp_to _ lo hi R HC.out hl1 hl2 hh1 hh2 _).mono ?_
  rintro e W4 ⟨rfl,rfl⟩
  dsimp only
  refine hK.out _ _ ?_ (fun hHeld=>?_)
  ·exact hHeld
  clear hK Kq
  try simp only [Tk.put]
  refine Tk.x 23 rfl ?_
  try simp only [Tk.put]
  refine wpAnyH_done (by kernel_rfl) ?_ _
  go_wp2_with fail
  go_ret
  exact⟨rfl,HBW.out⟩
end CJoin
end
end Go.Proofs.YtoffcaldhojjoaaDoor
