/- -/
import Derived.Test.YtchpdhhpkljdhaaGreatDoorGD21
open Go.Value renaming int→Jj
open Go.IntKind renaming i64→Jq
open Go.Lib (hid)
open Nat (le_refl lt_of_succ_lt lt_succ_self)
set_option linter.unusedVariables false
set_option linter.unusedSimpArgs false
set_option maxRecDepth 100000
set_option maxHeartbeats 16000000
namespace Go.Proofs.YtchpdhhpkljdhaaGreatDoor
namespace CConv
end CConv
namespace CSat
end CSat
open Go Go.ChangeShapes Go.WideShapes Go.ChangeAt Go.RowKit Go.Deep
section
namespace CDense
open Go Go.ChangeShapes Go.WideShapes Go.ChangeAt Go.RowKit
open Plain CSat CShape CTensor CConv
theorem refSum_to (A:Option Addr) (zs:List Int) (n c:Nat) (hn:zs.length=n) (hn2:n≤1000000) (hz:I8b zs) (WA:Option Addr) (ws:List Int) (nW cW:Nat) (hws:ws.length=nW) (hwb:I8b ws) (hW2:nW≤1000000)
  (BA:Option Addr) (bs:List Int) (nB cB:Nat) (hbs:bs.length=nB) (hb32:∀ q, -2147483648≤bs.getD q 0∧bs.getD q 0≤2147483647) (o:Nat) (ho:o < nB) (hon:o * n+n≤nW) (Z:Int) (z1 : -128≤Z) (z2:Z≤127)
  (w:World) {B1 B2 B3:Nat} (hr:Kit.Rd w B1 A (I8s zs)) (hrw:Kit.Rd w B2 WA (I8s ws)) (hrb:Kit.Rd w B3 BA (I32v bs)) (R:Int) (hR:bs.getD o 0+psum (termF zs ws 0 (o * n) Z) n=R) :
  Calls Tryz.prog 132 #[.slice A n c,.slice WA nW cW,.slice BA nB cB,.int .i8 Z,Jj Jq (o:Int)] w fun e w'=>e=.returned (Jj Jq R)∧∃ q,w'=w.drewN q:=by
 obtain⟨bb,ob,rfl,hbb,hcb⟩:=zax hrb (j:=0) Zb3
 have hcb0:=hcb o Zb3
 obtain⟨r1,r2⟩:=hb32 o
 have hon0:(0:Int)≤(o:Int):=by omega
 have hon1:(o:Int) < (nB:Int):=by omega
 generalize bs.getD o 0=bo at r1 r2 hcb0 hR
 have e0:IntKind.i64.wrap bo=bo:=IntWalk.i64_in _ Zb3
 obtain⟨P,hP⟩:∃ P,o * n=P:=⟨_,rfl⟩
 have hmul:IntKind.i64.wrap ((o:Int) * (n:Int))=(P:Int):=by rw [← Int.natCast_mul,hP];exact IntWalk.i64_in _ Zb3
 rw [hP] at hR hon
 have HR:=hid hR
 have HA:=hid hr
 have HB:=hid hrw
 have HZ:=hid hz
 have HWB:=hid hwb
 have HN:=hid hn
 have HWS:=hid hws
 clear hR hr hrw hz hwb hn hws hrb hcb hbs hP hb32
 go_enter Tryz.func132,Tryz.ntmps132
 go_wp2_with fail
 clear hcb0
 go_loopw [11,12] (fun s u wr=>∃ k nq:Nat,k≤n∧u=Jj Jq k∧s=Jj Jq (bo+psum (termF zs ws 0 P Z) k)∧Hid (wr=w.drewN nq)) (fun _ u _=>n - (intOf u).toNat)
 case atStart=>exact⟨0,0,Nat.zero_le _,rfl,congrArg (Value.int .i64) (by simp [psum]),hid rfl⟩
 case round =>
  obtain⟨k,nq,hk,rfl,rfl,hw⟩:=hrel
  obtain rfl:=hw.out
  clear hw
  by_cases hlt:k < n
  ·obtain⟨b1,o1,rfl,_,hcx0⟩:=zax HA.out (j:=0) Zbe
   obtain⟨b2,o2,rfl,_,hcy0⟩:=zax HB.out (j:=0) Zbm
   obtain⟨p,hp⟩:∃ p,P+k=p:=⟨_,rfl⟩
   have hcx:=hcx0 k Zbe
   have hcy:=hcy0 p Zbm
   clear hcx0 hcy0
   refine Z93 ?_;intro hk0
   have hkn:(k:Int) < (n:Int):=by omega
   have hp0:(0:Int)≤(p:Int):=by omega
   have hpm:(p:Int) < (nW:Int):=by omega
   have hadd:IntKind.i64.wrap ((P:Int)+(k:Int))=(p:Int):=by rw [← Int.natCast_add,hp];exact IntWalk.i64_in _ Zb3
   obtain⟨x1,x2⟩:=HZ.out k
   obtain⟨y1,y2⟩:=HWB.out p
   obtain⟨t1,t2⟩:=term_bd x1 x2 y1 y2 z1 z2
   obtain⟨q1,q2⟩:=psum_bd (G:=termF zs ws 0 P Z) (b:=32640) (n:=k) (fun j (_:j < k)=>termF_bd (zs:=zs) (ws:=ws) (st:=0) (o:=P) (c:=j) HZ.out HWB.out z1 z2)
   have hnext:bo+psum (termF zs ws 0 P Z) k+ws.getD p 0 * (zs.getD k 0 - Z)=bo+psum (termF zs ws 0 P Z) (k+1):=by
    simp only [psum];unfold termF;rw [hp,Nat.zero_add,Int.add_assoc]
   generalize zs.getD k 0=x at hcx x1 x2 t1 t2 hnext
   generalize ws.getD p 0=y at hcy y1 y2 t1 t2 hnext
   have e6:IntKind.i64.wrap (bo+psum (termF zs ws 0 P Z) k+y * (x - Z))=bo+psum (termF zs ws 0 P Z) (k+1):=by rw [← hnext];exact IntWalk.i64_in _ Zb3
   obtain⟨u1,hu1⟩:∃ u1,bo+psum (termF zs ws 0 P Z) k=u1:=⟨_,rfl⟩
   obtain⟨u2,hu2⟩:∃ u2,bo+psum (termF zs ws 0 P Z) (k+1)=u2:=⟨_,rfl⟩
   have HU2:=hid hu2
   rw [hu1,hu2] at e6
   rw [hu1]
   have e1:IntKind.i64.wrap x=x:=IntWalk.i64_in _ Zb3
   have e2:IntKind.i64.wrap y=y:=IntWalk.i64_in _ Zb3
   have e3:IntKind.i64.wrap Z=Z:=IntWalk.i64_in _ Zb3
   have e4:IntKind.i64.wrap (x - Z)=x - Z:=IntWalk.i64_in _ Zb3
   have e5:IntKind.i64.wrap (y * (x - Z))=y * (x - Z):=IntWalk.i64_in _ Zb3
   clear hu1 hu2 t1 t2 hnext hp q1 q2
   exact Z2a
  ·obtain rfl:k=n:=by omega
   rw [HR.out]
   go_wp2_with fail
   go_ret
   exact⟨rfl,nq,rfl⟩
theorem refLine_yes (A:Option Addr) (zs:List Int) (n c:Nat) (hn:zs.length=n) (hn1:1≤n) (hn2:n≤1000000) (hz:I8b zs) (WA:Option Addr) (ws:List Int) (nW cW:Nat) (hws:ws.length=nW) (hwb:I8b ws)
  (BA:Option Addr) (bs:List Int) (nB cB:Nat) (hbs:bs.length=nB) (hb32:∀ q, -2147483648≤bs.getD q 0∧bs.getD q 0≤2147483647) (hB1:1≤nB) (hB2:nB≤1000000) (hnW:n * nB=nW) (hW2:nW≤1000000) (Z:Int) (z1 : -128≤Z) (z2:Z≤127) (F:Nat→Int) (hF:∀ o,lineF zs ws bs n Z o=F o)
  (w:World) (hr:Kit.Rd w w.heap.size A (I8s zs)) (hrw:Kit.Rd w w.heap.size WA (I8s ws)) (hrb:Kit.Rd w w.heap.size BA (I32v bs)) :
  Calls Tryz.prog 91 #[.slice A n c,.slice WA nW cW,.slice BA nB cB,.int .i8 Z] w (Owned w 21 nB (I32v (rowL F nB))):=by
 have hB0b:((nB:Int) == 0)=false:=by simp;omega
 have hN0b:((n:Int) == 0)=false:=by simp;omega
 have hmulw:IntKind.i64.wrap ((n:Int) * (nB:Int))=(nW:Int):=by rw [← Int.natCast_mul,hnW];exact IntWalk.i64_in _ Zb3
 refine Z9n ?_;intro HN HZ HWS HWB
 have HNW:=hid hnW
 have HF:=hid hF
 have HR:=hid hr
 have HRW:=hid hrw
 have HRB:=hid hrb
 have HBS:=hid hbs
 have HB32:=hid hb32
 clear hn hz hws hwb hnW hF hr hrw hrb hbs hb32
 obtain⟨i0,hi0,hi1,hi2,hi3⟩:=zbf info_i32d
 have HI:=hid (And.intro hi0 (And.intro hi1 (And.intro hi2 hi3)))
 clear hi0 hi1 hi2 hi3
 go_enter Tryz.func91,Tryz.ntmps91
 go_wp2_with fail
 go_loopw [9,10] (fun v u wr=>∃ o:Nat,o≤nB∧u=Jj Jq o∧Hid (wr.ownsRow w.heap.size 21 1 v o (I32v (rowL F o)))∧Hid (Below w.heap.size w wr)) (fun _ u _=>nB - (intOf u).toNat)
 case atStart=>exact⟨0,Nat.zero_le _,rfl,hid ⟨by simp [I32v,rowL],.inl ⟨rfl,rfl⟩⟩,hid (Below.refl _ _)⟩
 case round =>
  obtain⟨o,ho,rfl,HO,HB⟩:=hrel
  obtain⟨Av,cv,rfl, -, -, -⟩:=Kit.zaj HO.out
  by_cases hlt:o < nB
  ·have hle:o * n+n≤nW:=by
    exact Z2k
   obtain⟨R1,hR1⟩:∃ R1,bs.getD o 0+psum (termF zs ws 0 (o * n) Z) n=R1:=⟨_,rfl⟩
   obtain⟨x,hx⟩:∃ x,F o=x:=⟨_,rfl⟩
   have hcv:IntKind.i32.wrap R1=x:=by rw [← hx, ← HF.out o, ← hR1];rfl
   have HX:=hid hx
   have hsum:=fun (w':World) (h3:Kit.Rd w' w.heap.size A (I8s zs)) (h4:Kit.Rd w' w.heap.size WA (I8s ws)) (h5:Kit.Rd w' w.heap.size BA (I32v bs)) =>
    refSum_to A zs n c HN.out hn2 HZ.out WA ws nW cW HWS.out HWB.out hW2 BA bs nB cB HBS.out HB32.out o hlt hle Z z1 z2 w' h3 h4 h5 R1 hR1
   have HS:=hid hsum
   have hoI:(o:Int) < (nB:Int):=by omega
   clear hsum hR1 hle hx
   go_wp2_with (first
    | (go_at_call 132;(refine (HS.out _ (HR.out.below HB.out) (HRW.out.below HB.out) (HRB.out.below HB.out)).mono ?_);rintro e w3 ⟨rfl,q,rfl⟩;(have HO3:=hid (Kit.own_below HO.out (Kit.below_drewN (Below.refl wr.heap.size wr) q)));(have HB3:=hid (Kit.below_drewN HB.out q));(generalize wr.drewN q=w3 at HO3 HB3 ⊢))
    | (at_builtin;refine Kit.zbb _ rfl (.tmp 35) (.tmp 43) _ rfl w.heap.size 21 i0 (.int .i32 0) 1 4 Tryz.underlying24 HI.out.1 HI.out.2.1 HI.out.2.2.1 HI.out.2.2.2 rfl Zbc _ o (I32v (rowL F o)) rfl (Kit.own_below HO3.out ((Below.refl _ _).alloc (le_refl _) _)) _ _ 1 1 [.int .i32 x] rfl rfl (Kit.Rd.new _ _ _ (lt_succ_self _)) ?_ ?_ ?_ ?_ ?_;(exact Kit.za5 .i32 [x]);(unfold maxLen;omega);(omega);(have:=HB3.out.size;simp;omega);intro v2 w5 hown2 hg2 hat2))
   have hB5:Below w.heap.size w w5:=(HB3.out.alloc HB3.out.size _).grown hg2 (by have:=HB3.out.size;simp;omega) (fun q hq=>Kit.zaq HO3.out q hq)
   rw [zby F o x HX.out] at hown2
   have HO5:=hid hown2
   have HB5:=hid hB5
   clear hown2 hg2 hat2 hB5
   go_roundw
   case rel=>exact⟨o+1,by omega,by go_num,HO5,HB5⟩
   case measure=>simp [intOf];omega
  ·obtain rfl:o=nB:=by omega
   go_wp2_with fail
   go_ret
   exact⟨_,rfl,HO.out,HB.out⟩
end CDense
end
section
namespace CConv
open Go Go.ChangeShapes Go.WideShapes Go.ChangeAt Go.RowKit
open Plain CSat CShape CTensor
theorem fsame32_yes (A B:Option Addr) (zs:List Int) (n c d:Nat) (hn:n=zs.length) (hl:n≤1000000) (w:World) {B1 B2:Nat} (ha:Kit.Rd w B1 A (zs.map (.int .i32))) (hb:Kit.Rd w B2 B (zs.map (.int .i32))) :
  Calls Tryz.prog 37 #[.slice A n c,.slice B n d] w fun e w'=>e=.returned (.bool true)∧∃ m,w'=w.drewN m:=by
 subst hn
 have HA:=hid ha
 have HB:=hid hb
 clear ha hb
 go_enter Tryz.func37,Tryz.ntmps37
 go_wp2_with fail
 go_loopw [5] (fun i wr=>∃ k nq:Nat,k≤zs.length∧i=Jj Jq k∧Hid (wr=w.drewN nq)) (fun i _=>zs.length - (intOf i).toNat)
 case atStart=>exact⟨0,0,Nat.zero_le _,rfl,hid rfl⟩
 case round =>
  obtain⟨k,nq,hk,rfl,hw⟩:=hrel
  obtain rfl:=hw.out
  clear hw
  by_cases hlt:k < zs.length
  ·obtain⟨b,off,rfl,_,hx⟩:=HA.out.ints hlt
   obtain⟨b2,off2,rfl,_,hy⟩:=HB.out.ints hlt
   generalize zs[k]=x at hx hy
   have h0:(0:Int)≤(k:Int):=by omega
   have h1:(k:Int) < (zs.length:Int):=by omega
   go_wp2_with fail
   go_quiet (fail)
   go_wp2
   go_roundw
   case rel=>exact⟨k+1,_,by omega,by go_num,hid rfl⟩
   case measure=>simp [intOf];omega
  ·go_wp2_with fail
   go_ret
   exact⟨rfl,nq,rfl⟩
theorem sameA_to (H W C:Int) (A B:Option Addr) (xs:List Int) (n c d:Nat) (hx:xs.length=n) (hl:n≤1000000) (w:World) {B1 B2:Nat} (h1:B1≤w.heap.size) (h2:B2≤w.heap.size) (ha:Kit.Rd w B1 A (I32v xs)) (hb:Kit.Rd w B2 B (I32v xs)) :
  Calls Tryz.prog 11 #[.agg #[Jj Jq H,Jj Jq W,Jj Jq C,.slice A n c],.agg #[Jj Jq H,Jj Jq W,Jj Jq C,.slice B n d]] w fun e w'=>e=.returned (.bool true)∧Below w.heap.size w w':=by
 have HA:=hid ha
 have HB:=hid hb
 have HX:=hid hx
 clear ha hb hx
 have HE:=zb9 H W C H W C
 have hg:=Tryz.eqGuardType30
 go_enter Tryz.func11,Tryz.ntmps11
 go_wp2_with (go_at_call 37;((refine (fsame32_yes A B xs n c d HX.out.symm hl _ ((HA.out.alloc h1 _).alloc Zba _) ((HB.out.alloc h2 _).alloc Zba _)).mono ?_);(rintro e w3 ⟨rfl,m,rfl⟩)))
 go_ret
 exact⟨rfl,Kit.below_drewN (((Below.refl _ _).alloc (le_refl _) _).alloc Zb7 _) m⟩
theorem few_yes (H W C:Int) (A:Option Addr) (n c:Nat) (x0 x1 x2 x8 x11 x12 x13 x14 x15 x16 x17 x18:Value) (K S P O Z:Int) (WA BA:Option Addr) (nW cW nB cB:Nat) (h1:n≤1024) (h2:nW≤2000) (h3:nB≤200) (w:World) :
  Calls Tryz.prog 4 #[.agg #[Jj Jq H,Jj Jq W,Jj Jq C,.slice A n c],.agg #[x0,x1,x2,Jj Jq K,Jj Jq S,Jj Jq P,Jj Jq O,.int .i8 Z,x8,.slice WA nW cW,.slice BA nB cB,x11,x12,x13,x14,x15,x16,x17,x18]] w fun e w'=>e=.returned (.bool true)∧Below w.heap.size w w':=by
 have i1:(n:Int)≤1024:=by omega
 have i2:(nW:Int)≤2000:=by omega
 have i3:(nB:Int)≤200:=by omega
 go_enter Tryz.func4,Tryz.ntmps4
 go_wp2_with fail
 go_ret
 exact⟨rfl,((Below.refl _ _).alloc (le_refl _) _).alloc Zb7 _⟩
theorem few_no (H W C:Int) (A:Option Addr) (n c:Nat) (x0 x1 x2 x8 x11 x12 x13 x14 x15 x16 x17 x18:Value) (K S P O Z:Int) (WA BA:Option Addr) (nW cW nB cB:Nat) (h:¬ (n≤1024∧nW≤2000∧nB≤200)) (w:World) :
  Calls Tryz.prog 4 #[.agg #[Jj Jq H,Jj Jq W,Jj Jq C,.slice A n c],.agg #[x0,x1,x2,Jj Jq K,Jj Jq S,Jj Jq P,Jj Jq O,.int .i8 Z,x8,.slice WA nW cW,.slice BA nB cB,x11,x12,x13,x14,x15,x16,x17,x18]] w fun e w'=>e=.returned (.bool false)∧Below w.heap.size w w':=by
 rcases (show (1024:Int) < n∨((n:Int)≤1024∧(2000:Int) < nW)∨((n:Int)≤1024∧(nW:Int)≤2000∧(200:Int) < nB) by omega) with i1 | ⟨i1,i2⟩ | ⟨i1,i2,i3⟩
 all_goals
  clear h
  go_enter Tryz.func4,Tryz.ntmps4
  go_wp2_with fail
  go_ret
  exact⟨by first | rfl | exact congrArg (fun b=>Ending.returned (Value.bool b)) (decide_eq_false Zb3),((Below.refl _ _).alloc (le_refl _) _).alloc Zb7 _⟩
end CConv
end
section
namespace CJoin
open Plain CSat CFix CShape CTensor CConv
theorem one_to (x y:Int) (hx1 : -128≤x) (hx2:x≤127) (hy1 : -128≤y) (hy2:y≤127) (x0 x1 x2:Value) (K S P O Z Y:Int) (WA BA:Option Addr) (nW cW nB cB:Nat) (m1 s1 z1 m2 s2 z2 lo hi:Int) (hnb:NBd Z Y m1 z1 m2 z2 lo hi) (R:Int) (hR:oneZ x y Z Y m1 s1 z1 m2 s2 lo hi=R) (w:World) :
  Calls Tryz.prog 51 #[.int .i8 x,.int .i8 y,.agg #[x0,x1,x2,Jj Jq K,Jj Jq S,Jj Jq P,Jj Jq O,.int .i8 Z,.int .i8 Y,.slice WA nW cW,.slice BA nB cB,.int .i32 m1,Jj Jq s1,.int .i8 z1,.int .i32 m2,Jj Jq s2,.int .i8 z2,.int .i8 lo,.int .i8 hi]] w fun e w'=>e=.returned (.int .i8 R)∧Below w.heap.size w w':=by
 obtain⟨⟨hZ1,hZ2⟩,⟨hY1,hY2⟩,⟨hm3,hm1⟩,⟨hz1,hz2⟩,⟨hm4,hm2⟩,⟨hz3,hz4⟩,⟨hl1,hl2⟩,⟨hh1,hh2⟩⟩:=hnb
 cases hh:(zau m1 s1 && zau m2 s2)
 ·unfold oneZ at hR
  rw [hh,if_neg Zbc] at hR
  subst hR
  have HH:=hid hh
  clear hh
  go_enter Tryz.func51,Tryz.ntmps51
  go_wp2_with (first
  | (go_at_call 49
     refine Z6s ?_;intro hal
     refine (scales_to x0 x1 x2 K S P O Z Y WA BA nW cW nB cB m1 s1 z1 m2 s2 z2 lo hi _).mono ?_
     rintro e w1 ⟨rfl,hb⟩
     refine Z6i ?_;intro hh TN yTN HBW
     rw [HH.out]
     clear hb hh hal)
  | (refine wpList_load_mid rfl 28 (.tmp 5) rfl (w.heap.size) 0 rfl [x0,x1,x2,Jj Jq K,Jj Jq S,Jj Jq P,Jj Jq O,.int .i8 Z,.int .i8 Y,.slice WA nW cW,.slice BA nB cB,.int .i32 m1,Jj Jq s1,.int .i8 z1,.int .i32 m2,Jj Jq s2,.int .i8 z2,.int .i8 lo,.int .i8 hi] _ (zae.new x0 x1 x2 (.int .i8 Y) (.int .i32 m1) (Jj Jq s1) (.int .i8 z1) (.int .i32 m2) (Jj Jq s2) (.int .i8 z2) (.int .i8 lo) (.int .i8 hi) K S P O Z WA BA nW cW nB cB 28 w) Tryz.underlying28 rfl Zb5 ?_))
  go_ret
  exact⟨rfl,HBW.out⟩
 ·obtain⟨hr1,hr2⟩:zau m1 s1=true∧zau m2 s2=true:=by simpa using hh
  obtain⟨b1,b2⟩:=round_term hx1 hx2 hZ1 hZ2 hm1 hr1
  obtain⟨b3,b4⟩:=round_term hy1 hy2 hY1 hY2 hm2 hr2
  unfold oneZ at hR
  rw [hh,if_pos rfl] at hR
  obtain⟨t1,ht1⟩:∃ t1,zbo ((x - Z) * m1) s1.toNat=t1:=⟨_,rfl⟩
  obtain⟨t2,ht2⟩:∃ t2,zbo ((y - Y) * m2) s2.toNat=t2:=⟨_,rfl⟩
  rw [ht1] at b1 b2 hR
  rw [ht2] at b3 b4 hR
  have w1:IntKind.i64.wrap (t1+t2)=t1+t2:=IntWalk.i64_in _ Zb3
  have w2:IntKind.i64.wrap (t1+t2+z1)=t1+t2+z1:=IntWalk.i64_in _ Zb3
  have w3:IntKind.i64.wrap z1=z1:=IntWalk.i64_in _ Zb3
  have HH:=hid hh
  have HR1:=hid hr1
  have HR2:=hid hr2
  have HT1:=hid ht1
  have HT2:=hid ht2
  have HC:=hid hR
  clear hh hr1 hr2 ht1 ht2 hR
  go_enter Tryz.func51,Tryz.ntmps51
  go_wp2_with (first
  | (go_at_call 49
     refine Z6s ?_;intro hal
     refine (scales_to x0 x1 x2 K S P O Z Y WA BA nW cW nB cB m1 s1 z1 m2 s2 z2 lo hi _).mono ?_
     rintro e w1 ⟨rfl,hb⟩
     refine Z6i ?_;intro hh TN yTN HBW
     rw [HH.out]
     clear hb hh hal)
  | (refine wpList_load_mid rfl 28 (.tmp 5) rfl (w.heap.size) 0 rfl [x0,x1,x2,Jj Jq K,Jj Jq S,Jj Jq P,Jj Jq O,.int .i8 Z,.int .i8 Y,.slice WA nW cW,.slice BA nB cB,.int .i32 m1,Jj Jq s1,.int .i8 z1,.int .i32 m2,Jj Jq s2,.int .i8 z2,.int .i8 lo,.int .i8 hi] _ (zae.new x0 x1 x2 (.int .i8 Y) (.int .i32 m1) (Jj Jq s1) (.int .i8 z1) (.int .i32 m2) (Jj Jq s2) (.int .i8 z2) (.int .i8 lo) (.int .i8 hi) K S P O Z WA BA nW cW nB cB 28 w) Tryz.underlying28 rfl Zb5 ?_))
  refine wp_region_held_drew (S:=fun w'=>zae w.heap.size x0 x1 x2 (.int .i8 Y) (.int .i32 m1) (Jj Jq s1) (.int .i8 z1) (.int .i32 m2) (Jj Jq s2) (.int .i8 z2) (.int .i8 lo) (.int .i8 hi) K S P O Z WA BA nW cW nB cB w') Zb5 TN.out (fun hHeld=>?_)
  replace HBW:Hid (Below w.heap.size w w1.drew):=hid HBW.out.drew
  clear TN
  replace yTN:w.heap.size < w1.drew.heap.size:=yTN
  generalize w1.drew=W1 at HBW yTN hHeld ⊢
  refine Z8l ?_
  refine Z5y ?_
  refine Tk.x 1 rfl ?_
  refine Z5y ?_
  refine Tk.y 2 (v:=?_) rfl ?_ ?_
  rotate_left
  ·intro wS hSw
   have q7:=hSw.at 7 _ rfl
   clear hSw
   exact Z0
  refine Z5y ?_
  refine Z94 ?_
  refine Z5y ?_
  refine Tk.y 4 (v:=?_) rfl ?_ ?_
  rotate_left
  ·intro wS hSw
   have q11:=hSw.at 11 _ rfl;have q12:=hSw.at 12 _ rfl;have q13:=hSw.at 13 _ rfl
   clear hSw
   exact Z0
  refine Z5y ?_
  refine Z9e ?_
  refine Z5y ?_
  refine Z9w ?_
  refine Z5y ?_
  refine Tk.y 8 (v:=?_) rfl ?_ ?_
  rotate_left
  ·intro wS hSw
   have q8:=hSw.at 8 _ rfl
   clear hSw
   exact Z0
  refine Z5y ?_
  refine Zan ?_
  refine Z5y ?_
  refine Tk.y 10 (v:=?_) rfl ?_ ?_
  rotate_left
  ·intro wS hSw
   have q14:=hSw.at 14 _ rfl;have q15:=hSw.at 15 _ rfl;have q16:=hSw.at 16 _ rfl
   clear hSw
   exact Z0
  refine Z5y ?_
  refine Za6 ?_
  refine Z5y ?_
  refine Tk.x 14 rfl ?_
  refine Z5y ?_
  refine Tk.y 15 (v:=?_) rfl ?_ ?_
  rotate_left
  ·intro wS hSw
   have q13:=hSw.at 13 _ rfl
   clear hSw
   exact Z0
  refine Z5y ?_
  refine Zak ?_
  refine Z5y ?_
  refine Tk.x 18 rfl ?_
  refine Z5y ?_
  refine Tk.y 19 (v:=?_) rfl ?_ ?_
  rotate_left
  ·intro wS hSw
   have q17:=hSw.at 17 _ rfl
   clear hSw
   exact Z0
  refine Z5y ?_
  refine Tk.x 20 rfl ?_
  refine Z5y ?_
  refine Tk.y 21 (v:=?_) rfl ?_ ?_
  rotate_left
  ·intro wS hSw
   have q18:=hSw.at 18 _ rfl
   clear hSw
   exact Z0
  refine Z5y ?_
  refine Tk.s 5 rfl (fun Kq hK=>?_)
  go_simp
  go_at_call 102
  refine (scaled_to x Z m1 s1 z1 t1 hx1 hx2 hZ1 hZ2 hm1 HR1.out HT1.out _).mono ?_
  rintro e W2 ⟨rfl,hb1⟩
  have hS1:zae w.heap.size x0 x1 x2 (.int .i8 Y) (.int .i32 m1) (Jj Jq s1) (.int .i8 z1) (.int .i32 m2) (Jj Jq s2) (.int .i8 z2) (.int .i8 lo) (.int .i8 hi) K S P O Z WA BA nW cW nB cB W2:=hHeld.below yTN hb1
  replace HBW:=hid (HBW.out.trans (hb1.mono HBW.out.size))
  replace yTN:=Nat.lt_of_lt_of_le yTN hb1.size
  clear hHeld hb1
  dsimp only
  refine hK.out _ _ ?_ (fun hHeld=>?_)
  ·exact hS1
  clear hK Kq
  refine Z5y ?_
  refine Tk.s 11 rfl (fun Kq hK=>?_)
  go_simp
  go_at_call 102
  refine (scaled_to y Y m2 s2 z2 t2 hy1 hy2 hY1 hY2 hm2 HR2.out HT2.out _).mono ?_
  rintro e W3 ⟨rfl,hb1⟩
  have hS1:zae w.heap.size x0 x1 x2 (.int .i8 Y) (.int .i32 m1) (Jj Jq s1) (.int .i8 z1) (.int .i32 m2) (Jj Jq s2) (.int .i8 z2) (.int .i8 lo) (.int .i8 hi) K S P O Z WA BA nW cW nB cB W3:=hHeld.below yTN hb1
  replace HBW:=hid (HBW.out.trans (hb1.mono HBW.out.size))
  replace yTN:=Nat.lt_of_lt_of_le yTN hb1.size
  clear hHeld hb1
  dsimp only
  refine hK.out _ _ ?_ (fun hHeld=>?_)
  ·exact hS1
  clear hK Kq
  refine Z5y ?_
  refine Zag ?_
  refine Z5y ?_
  refine Tk.x 17 rfl ?_
  refine Z5y ?_
  refine Tk.s 22 rfl (fun Kq hK=>?_)
  go_simp
  go_at_call 101
  refine (jclamp_to _ lo hi R HC.out hl1 hl2 hh1 hh2 _).mono ?_
  rintro e W4 ⟨rfl,rfl⟩
  dsimp only
  refine hK.out _ _ ?_ (fun hHeld=>?_)
  ·exact hHeld
  clear hK Kq
  refine Z5y ?_
  refine Tk.x 23 rfl ?_
  refine Z5y ?_
  refine Z6y ?_
  go_wp2_with fail
  go_ret
  exact⟨rfl,HBW.out⟩
end CJoin
end
section
namespace CAct
open Plain CSat CFix CShape CTensor CConv
def MadeT (w:World) (H W C:Int) (n:Nat) (zs:List Int) (x:Value) (e:Ending) (w':World):Prop :=
 ∃ v,e=.returned (.tuple #[.agg #[Jj Jq H,Jj Jq W,Jj Jq C,v],x])∧w'.ownsRow w.heap.size 22 1 v n (I8s zs)∧Below w.heap.size w w'
def MadeE (w:World) (H W C:Int) (n:Nat) (zs:List Int) (e:Ending) (w':World):Prop :=
 ∃ v,e=.returned (.agg #[Jj Jq H,Jj Jq W,Jj Jq C,v])∧w'.ownsRow w.heap.size 22 1 v n (I8s zs)∧Below w.heap.size w w'
theorem rowL_same {F G:Nat→Int} {n:Nat} (h:∀ i,i < n→F i=G i):rowL F n=rowL G n:=by
 unfold rowL
 exact List.map_congr_left fun i hi=>h i (by simpa using hi)
theorem i8_at (F:Nat→Int) {d r:Nat} (h:r < d):(I8s (rowL F d))[r]?=some (.int .i8 (F r)):=by simp [I8s,rowL,h]
def madeA (F:Nat→Int) (o i:Nat):Int:=if i < o then F i else 0
theorem madeA_zero (F:Nat→Int) (N:Nat):I8s (rowL (madeA F 0) N)=List.replicate N (.int .i8 0):=by
 refine List.ext_getElem (by simp [I8s,rowL]) fun i h1 h2=>?_
 simp [I8s,rowL,madeA]
theorem madeA_all (F:Nat→Int) (N:Nat):rowL (madeA F N) N=rowL F N:=rowL_same (fun i hi=>by unfold madeA;rw [if_pos hi])
theorem madeA_set (F:Nat→Int) {N o:Nat} (v:Int) (hv:F o=v):(I8s (rowL (madeA F o) N)).set o (.int .i8 v)=I8s (rowL (madeA F (o+1)) N):=by
 refine List.ext_getElem (by simp [I8s,rowL]) fun i h1 h2=>?_
 rw [List.getElem_set]
 by_cases e:o=i
 ·subst e
  rw [if_pos rfl]
  simp [I8s,rowL,madeA,hv]
 ·rw [if_neg e]
  simp only [I8s,rowL,List.map_map,List.getElem_map,List.getElem_range,Function.comp,madeA]
  by_cases h:i < o
  ·rw [if_pos h,if_pos Zb3]
  ·rw [if_neg h,if_neg Zb3]
theorem info_i8a:(Tryz.prog.info? 22).map (fun i=>(i.zero,i.size,i.bytes))=some (some (.int .i8 0),1,1):=by kernel_rfl
theorem ofc_to (x:Int) (hx1 : -128≤x) (hx2:x≤127) (x0 x1 x2:Value) (K S P O Z Y:Int) (WA BA:Option Addr) (nW cW nB cB:Nat) (m1 s1 z1 m2 s2 z2 lo hi:Int) (hnb:NBd Z Y m1 z1 m2 z2 lo hi) (R:Int) (hR:heldZ (x - Z) m1 s1 z1 lo hi=R) (bn:Nat) (w:World) (hN:zae bn x0 x1 x2 (.int .i8 Y) (.int .i32 m1) (Jj Jq s1) (.int .i8 z1) (.int .i32 m2) (Jj Jq s2) (.int .i8 z2) (.int .i8 lo) (.int .i8 hi) K S P O Z WA BA nW cW nB cB w) :
  Calls Tryz.prog 53 #[.int .i8 x,.pointer (some ⟨bn,0,none⟩)] w fun e w'=>e=.returned (.int .i8 R)∧Below w.heap.size w w':=by
 have HR:=hid hR
 have TN:=hid hN
 have HNB:=hid hnb
 clear hR hN hnb
 go_enter Tryz.func53,Tryz.ntmps53
 go_wp2_with (first
  | (refine wpList_load_mid rfl 28 (.tmp 1) rfl bn 0 rfl [x0,x1,x2,Jj Jq K,Jj Jq S,Jj Jq P,Jj Jq O,.int .i8 Z,.int .i8 Y,.slice WA nW cW,.slice BA nB cB,.int .i32 m1,Jj Jq s1,.int .i8 z1,.int .i32 m2,Jj Jq s2,.int .i8 z2,.int .i8 lo,.int .i8 hi] _ TN.out Tryz.underlying28 rfl Zb5 ?_)
  | (go_at_call 54;(refine (aone_to x hx1 hx2 x0 x1 x2 K S P O Z Y WA BA nW cW nB cB m1 s1 z1 m2 s2 z2 lo hi HNB.out R HR.out _).mono ?_);rintro e w1 ⟨rfl,hb⟩))
 go_ret
 exact⟨rfl,hb⟩
theorem each_of (H W C:Int) (A:Option Addr) (zs:List Int) (n c:Nat) (hn:zs.length=n) (hn2:n≤1000000) (hz:I8b zs) (g0:Nat) (x0 x1 x2:Value) (K S P O Z Y:Int) (WA BA:Option Addr) (nW cW nB cB:Nat) (m1 s1 z1 m2 s2 z2 lo hi:Int) (hnb:NBd Z Y m1 z1 m2 z2 lo hi) (F:Nat→Int) (hF:∀ k,F k=heldZ (zs.getD k 0 - Z) m1 s1 z1 lo hi) (w:World) (hN:zae g0 x0 x1 x2 (.int .i8 Y) (.int .i32 m1) (Jj Jq s1) (.int .i8 z1) (.int .i32 m2) (Jj Jq s2) (.int .i8 z2) (.int .i8 lo) (.int .i8 hi) K S P O Z WA BA nW cW nB cB w) (hg0:g0 < w.heap.size) (hr:Kit.Rd w w.heap.size A (I8s zs)) :
  Calls Tryz.prog 52 #[.agg #[Jj Jq H,Jj Jq W,Jj Jq C,.slice A n c],.func (.func 53) #[] #[.pointer (some ⟨g0,0,none⟩)]] w (MadeE w H W C n (rowL F n)):=by
 have HN:=hid hn
 have HZ:=hid hz
 have HF:=hid hF
 have HR:=hid hr
 have HNB:=hid hnb
 have HND:=hid hN
 have hal:Below w.heap.size w ((w.alloc (.cells #[Jj Jq H,Jj Jq W,Jj Jq C,.slice A n c] 32)).alloc (.cells #[Jj Jq 0,Jj Jq 0,Jj Jq 0,.slice none 0 0] 32)):=((Below.refl _ _).alloc (le_refl _) _).alloc Zb7 _
 have tb0:BoxAt w.heap.size H W C A n c ((w.alloc (.cells #[Jj Jq H,Jj Jq W,Jj Jq C,.slice A n c] 32)).alloc (.cells #[Jj Jq 0,Jj Jq 0,Jj Jq 0,.slice none 0 0] 32)):=(zav H W C A n c 32 w).below (B':=w.heap.size+1) Zb3 ((Below.refl _ _).alloc Zb7 _)
 have fr0:zbs (w.heap.size+1) ((w.alloc (.cells #[Jj Jq H,Jj Jq W,Jj Jq C,.slice A n c] 32)).alloc (.cells #[Jj Jq 0,Jj Jq 0,Jj Jq 0,.slice none 0 0] 32)):=by
  have h:=zaw 32 (w.alloc (.cells #[Jj Jq H,Jj Jq W,Jj Jq C,.slice A n c] 32))
  rw [World.size_alloc] at h
  exact h
 have hs0:((w.alloc (.cells #[Jj Jq H,Jj Jq W,Jj Jq C,.slice A n c] 32)).alloc (.cells #[Jj Jq 0,Jj Jq 0,Jj Jq 0,.slice none 0 0] 32)).heap.size=w.heap.size+2:=by simp
 have HAL:=hid hal
 have TB0:=hid tb0
 have FR0:=hid fr0
 have HS0:=hid hs0
 obtain⟨i0,hi0,hi1,hi2,hi3⟩:=zbf info_i8a
 have HI:=hid (And.intro hi0 (And.intro hi1 (And.intro hi2 hi3)))
 clear hn hz hF hr hal tb0 fr0 hs0 hi0 hi1 hi2 hi3 hnb hN
 go_enter Tryz.func52,Tryz.ntmps52
 go_wp2_with (at_make;refine wpList_make_full _ rfl (.tmp 10) (.tmp 10) _ rfl (w.heap.size+2) 22 i0 (.int .i8 0) 1 Tryz.underlying23 HI.out.1 HI.out.2.1 HI.out.2.2.1 .i64 .i64 _ _ n rfl rfl rfl rfl (by rw [HI.out.2.2.2];omega) (by unfold maxLen;omega) (by have:=HS0.out;omega) ?_;(intro w2 hown hg2);(have hb2:Below (w.heap.size+2) ((w.alloc (.cells #[Jj Jq H,Jj Jq W,Jj Jq C,.slice A n c] 32)).alloc (.cells #[Jj Jq 0,Jj Jq 0,Jj Jq 0,.slice none 0 0] 32)) w2:=(Below.refl _ _).grown hg2 (by have:=HS0.out;omega) (fun q hq=>by cases hq));(rw [show (madeCells (Value.int IntKind.i8 0).cells (n * 1)).toList=List.replicate n (.int .i8 0) by rw [Nat.mul_one];exact toList_madeCells_one _ _] at hown);(rw [← madeA_zero F n] at hown);(simp only [World.size_alloc] at hown);(have HOWN:=hid hown);(have TB:=hid (TB0.out.below Zb3 hb2));(have FR:=hid (FR0.out.below Zb3 hb2));(have HB0:=hid (HAL.out.trans (hb2.mono Zb3)));(have hs2:w.heap.size+2≤w2.heap.size:=by have:=hb2.size;have:=HS0.out;omega);(obtain⟨t0,t1,t2,t3⟩:=TB.out);clear hown hg2 hb2 HAL TB0 FR0)
 clear t0 t1 t2 t3
 go_loopw [15] (fun u wr=>∃ k:Nat,k≤n∧u=Jj Jq k∧Hid (wr.ownsRow (w.heap.size+2) 22 1 (.slice (some ⟨w.heap.size+1+1,0,none⟩) n n) n (I8s (rowL (madeA F k) n)))∧Hid (Below (w.heap.size+2) w2 wr)) (fun u _=>n - (intOf u).toNat)
 case atStart=>exact Z2u
 case round =>
  obtain⟨k,hk,rfl,HO,HB⟩:=hrel
  clear HOWN
  by_cases hlt:k < n
  ·refine Z93 ?_;intro hk0
   have hkn:(k:Int) < (n:Int):=by omega
   obtain⟨ba,oa,rfl,hba,hca⟩:=zax HR.out (j:=0) Zbe
   have hbw:=HB0.out.trans (HB.out.mono (show w.heap.size≤w.heap.size+2 by omega))
   have hcx:=(hbw.cell (p:=⟨ba,oa+k,none⟩) hba).trans (hca k Zbe)
   obtain⟨xl,xu⟩:=HZ.out k
   have hf:=HF.out k
   generalize zs.getD k 0=x at hcx xl xu hf
   obtain⟨R,hR⟩:∃ R,F k=R:=⟨_,rfl⟩
   rw [hR] at hf
   have HFX:=hid hR
   have HRR:=hid hf.symm
   have HBW:=hid hbw
   have hsz:w.heap.size+1+1 < wr.heap.size:=Kit.zbd HO.out
   clear hR hf hca hbw
   have TNW:=hid (HND.out.below hg0 HBW.out)
   go_wp2_with (go_at_call 53;(refine (ofc_to x xl xu x0 x1 x2 K S P O Z Y WA BA nW cW nB cB m1 s1 z1 m2 s2 z2 lo hi HNB.out R HRR.out g0 wr TNW.out).mono ?_);rintro e w3 ⟨rfl,hb⟩;(have ho3:=Kit.own_below HO.out hb);(have ks:w3.cell? ⟨w.heap.size+1+1,k,none⟩=some (.int .i8 (madeA F k k)):=(ho3.cellAt k Zb3).trans (i8_at _ hlt));(have fs:w3.frozen? ⟨w.heap.size+1+1,k,none⟩=false:=ho3.frozenAt k);(have hst:=(ho3.stored k (.int .i8 R)).1);(rw [madeA_set F R HFX.out] at hst);(have HST:=hid hst);(have HB3:=hid (HB.out.trans (hb.mono Zb3)));clear hst hb ho3)
   go_roundw
   case rel=>exact⟨k+1,by omega,by go_num,hid HST.out,hid (HB3.out.setCell (p:=⟨w.heap.size+1+1,k,none⟩) (by show w.heap.size+2≤w.heap.size+1+1;omega) _)⟩
   case measure=>simp [intOf];omega
  ·obtain rfl:k=n:=by omega
   have hfin:=HO.out
   rw [madeA_all] at hfin
   have HFI:=hid hfin
   obtain⟨t0,t1,t2,t3⟩:=TB.out.below Zb3 HB.out
   obtain⟨⟨z0,z1',z2',z3⟩,z4,z5,z6,z7⟩:=FR.out.below (show w.heap.size+1 < w.heap.size+2 by omega) HB.out
   have HBW9:=hid (HB0.out.trans (HB.out.mono Zb3))
   clear hfin HO HB
   go_wp2_with fail
   refine bodyPost_ret (Kit.zbi rfl _ _ (w.heap.size+1) 0 [Jj Jq H,Jj Jq W,Jj Jq C,.slice (some ⟨w.heap.size+1+1,0,none⟩) k k] _ rfl (zao Zb6 Zb6 Zb6 Zb6) Tryz.underlying32 rfl Zb5) rfl ?_
   refine⟨_,rfl,Kit.zah (za0 HFI.out ?_) ?_,?_⟩
   any_goals (first | omega | (simp;done) | (simp;omega))
   exact (((HBW9.out.setCell (p:=⟨w.heap.size+1,0,none⟩) Zb7 _).setCell (p:=⟨w.heap.size+1,1,none⟩) Zb7 _).setCell (p:=⟨w.heap.size+1,2,none⟩) Zb7 _).setCell (p:=⟨w.heap.size+1,3,none⟩) Zb7 _
theorem tensB_shape {H W C:Int} {n:Nat} (h:zam H W C=false):tensB H W C n=false:=by simp [tensB,h]
theorem rsums_to (H W C:Int) (A:Option Addr) (n c:Nat) (b:Bool) (hb0:tensB H W C n=b) (w:World) :
  Calls Tryz.prog 108 #[.agg #[Jj Jq H,Jj Jq W,Jj Jq C,.slice A n c]] w fun e w'=>e=.returned (.bool b)∧Below w.heap.size w w':=by
 cases hs:zam H W C
 ·obtain rfl:false=b:=(tensB_shape hs).symm.trans hb0
  have HS:=hid hs
  clear hs hb0
  go_enter Tryz.func108,Tryz.ntmps108
  go_wp2_with (first
  | (go_at_call 104
     refine Z92 ?_;intro hal
     refine (fill_no H W C 0 HS.out _).mono ?_
     rintro e w1 ⟨rfl,hb⟩
     refine Z6m ?_;intro hh
     refine Z8i ?_;intro TA yTA
     refine Z71 ?_;intro HBW
     obtain⟨tap0,tap1,tap2,tap3⟩:=TA.out
     clear hb hh hal))
  go_ret
  exact⟨rfl,HBW.out.alloc HBW.out.size _⟩
 ·obtain⟨a1,a2,a3,a4,a5,a6,a7⟩:=zac hs
  obtain⟨p1,p2⟩:=zcs a1 a2 a3 a4 a5 a6
  obtain⟨m,hm⟩:∃ m:Nat,H * W * C=m:=⟨(H * W * C).toNat,by omega⟩
  have hbn:decide (n=m)=b:=by
   rw [← hb0]
   unfold tensB
   rw [hs,hm]
   by_cases e:n=m <;> simp [e] <;> omega
  have HS:=hid hs
  have HM:=hid hm
  clear hs hb0 hm p1 p2 a1 a2 a3 a4 a5 a6 a7
  by_cases e:n=m
  ·obtain rfl:true=b:=by rw [← hbn];simp [e]
   have e1:((n:Int) == (m:Int))=true:=by simp [e]
   clear e hbn
   go_enter Tryz.func108,Tryz.ntmps108
   go_wp2_with (first
  | (go_at_call 104
     refine Z92 ?_;intro hal
     refine (fill_yes H W C 0 m HS.out HM.out _).mono ?_
     rintro e w1 ⟨v1,rfl,ho1,hb⟩
     refine Z6m ?_;intro hh
     refine Z8i ?_;intro TA yTA
     refine Z71 ?_;intro HBW
     obtain⟨A1,c1,rfl, -, -, -⟩:=Kit.zaj ho1
     clear ho1
     obtain⟨tap0,tap1,tap2,tap3⟩:=TA.out
     clear hb hh hal))
   go_ret
   exact⟨rfl,HBW.out.alloc HBW.out.size _⟩
  ·obtain rfl:false=b:=by rw [← hbn];simp [e]
   have e1:((n:Int) == (m:Int))=false:=by simp;omega
   have e2:¬ (n:Int)=(m:Int):=by omega
   clear e hbn
   go_enter Tryz.func108,Tryz.ntmps108
   go_wp2_with (first
  | (go_at_call 104
     refine Z92 ?_;intro hal
     refine (fill_yes H W C 0 m HS.out HM.out _).mono ?_
     rintro e w1 ⟨v1,rfl,ho1,hb⟩
     refine Z6m ?_;intro hh
     refine Z8i ?_;intro TA yTA
     refine Z71 ?_;intro HBW
     obtain⟨A1,c1,rfl, -, -, -⟩:=Kit.zaj ho1
     clear ho1
     obtain⟨tap0,tap1,tap2,tap3⟩:=TA.out
     clear hb hh hal))
   go_ret
   exact⟨rfl,HBW.out.alloc HBW.out.size _⟩
end CAct
end
end Go.Proofs.YtchpdhhpkljdhaaGreatDoor
