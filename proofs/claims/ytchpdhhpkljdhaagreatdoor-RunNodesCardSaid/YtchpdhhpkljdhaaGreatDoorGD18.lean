/- -/
import Derived.Test.YtchpdhhpkljdhaaGreatDoorGD17
open Go.Value renaming int→Jj
open Go.IntKind renaming i64→Jq
open Go.Lib (hid)
open Nat (le_refl lt_of_succ_lt lt_succ_self)
set_option linter.unusedVariables false
set_option linter.unusedSimpArgs false
set_option maxRecDepth 100000
set_option maxHeartbeats 16000000
namespace Go.Proofs.YtchpdhhpkljdhaaGreatDoor
namespace CConv
end CConv
namespace CSat
end CSat
open Go Go.ChangeShapes Go.WideShapes Go.ChangeAt Go.RowKit
section
namespace CDense
open Plain CSat CShape CTensor CConv
theorem term00 (zs ws:List Int) (Z:Int) (k:Nat):termF zs ws 0 0 Z k=ws.getD k 0 * (zs.getD k 0 - Z):=by unfold termF;rw [Nat.zero_add]
theorem weigh_to (A:Option Addr) (zs:List Int) (n c:Nat) (hn:zs.length=n) (hn2:n≤1000000) (hz:I8b zs) (WA:Option Addr) (ws:List Int) (m cW:Nat) (hws:ws.length=m) (hm:n≤m) (hwb:I8b ws) (Z:Int) (z1 : -128≤Z) (z2:Z≤127)
  (bx bz:Nat) (w:World) (hx:w.cell? ⟨bx,0,none⟩=some (.slice A n c)) (hzc:w.cell? ⟨bz,0,none⟩=some (.int .i8 Z)) {B1 B2:Nat} (hr:Kit.Rd w B1 A (I8s zs)) (hrw:Kit.Rd w B2 WA (I8s ws)) (R:Int) (hR:IntKind.i32.wrap (psum (termF zs ws 0 0 Z) n)=R) :
  Calls Tryz.prog 145 #[.slice WA m cW,.pointer (some ⟨bx,0,none⟩),.pointer (some ⟨bz,0,none⟩)] w fun e w'=>e=.returned (.int .i32 R)∧∃ q,w'=w.drewN q:=by
 have HR:=hid hR
 have HA:=hid hr
 have HB:=hid hrw
 have HZ:=hid hz
 have HWB:=hid hwb
 have HN:=hid hn
 have HWS:=hid hws
 have HX:=hid hx
 clear hR hr hrw hz hwb hn hws
 go_enter Tryz.func145,Tryz.ntmps145
 go_wp2_with fail
 clear hx
 go_loopw [5,10] (fun s u wr=>∃ k nq:Nat,k≤n∧u=Jj Jq k∧s=.int .i32 (IntKind.i32.wrap (psum (termF zs ws 0 0 Z) k))∧Hid (wr=w.drewN nq)) (fun _ u _=>n - (intOf u).toNat)
 case atStart=>exact⟨0,0,Nat.zero_le _,rfl,congrArg (Value.int .i32) Zbs,hid rfl⟩
 case round =>
  obtain⟨k,nq,hk,rfl,rfl,hw⟩:=hrel
  obtain rfl:=hw.out
  clear hw
  by_cases hlt:k < n
  ·obtain⟨b1,o1,rfl,_,hcx0⟩:=zax HA.out (j:=0) Zbe
   obtain⟨b2,o2,rfl,_,hcy0⟩:=zax HB.out (j:=0) Zbm
   have hcx:=hcx0 k Zbe
   have hcy:=hcy0 k Zbm
   clear hcx0 hcy0
   refine Z93 ?_;intro hk0
   have hkn:(k:Int) < (n:Int):=by omega
   have hkm:(k:Int) < (m:Int):=by omega
   obtain⟨x1,x2⟩:=HZ.out k
   obtain⟨y1,y2⟩:=HWB.out k
   obtain⟨t1,t2⟩:=term_bd x1 x2 y1 y2 z1 z2
   have hnext:IntKind.i32.wrap (IntKind.i32.wrap (psum (termF zs ws 0 0 Z) k)+ws.getD k 0 * (zs.getD k 0 - Z))=IntKind.i32.wrap (psum (termF zs ws 0 0 Z) (k+1)):=by
    rw [zc6];simp only [psum];rw [term00]
   generalize zs.getD k 0=x at hcx x1 x2 t1 t2 hnext
   generalize ws.getD k 0=y at hcy y1 y2 t1 t2 hnext
   obtain⟨u1,hu1⟩:∃ u1,IntKind.i32.wrap (psum (termF zs ws 0 0 Z) k)=u1:=⟨_,rfl⟩
   obtain⟨u2,hu2⟩:∃ u2,IntKind.i32.wrap (psum (termF zs ws 0 0 Z) (k+1))=u2:=⟨_,rfl⟩
   have HU2:=hid hu2
   rw [hu1,hu2] at hnext
   rw [hu1]
   have e1:IntKind.i32.wrap x=x:=IntWalk.i32_in _ Zb3
   have e2:IntKind.i32.wrap y=y:=IntWalk.i32_in _ Zb3
   have e3:IntKind.i32.wrap Z=Z:=IntWalk.i32_in _ Zb3
   have e4:IntKind.i32.wrap (x - Z)=x - Z:=IntWalk.i32_in _ Zb3
   have e5:IntKind.i32.wrap (y * (x - Z))=y * (x - Z):=IntWalk.i32_in _ Zb3
   clear hu1 hu2 t1 t2
   exact Z2a
  ·obtain rfl:k=n:=by omega
   rw [HR.out]
   go_wp2_with fail
   go_ret
   exact⟨rfl,nq,rfl⟩
theorem weighing_to (A:Option Addr) (n c:Nat) (Z:Int) (w:World) :
  Calls Tryz.prog 131 #[.slice A n c,.int .i8 Z] w fun e w'=>e=.returned (.func (.func 145) #[] #[.pointer (some ⟨w.heap.size,0,none⟩),.pointer (some ⟨w.heap.size+1,0,none⟩)])∧w'=(w.alloc (.cells #[.slice A n c] 23)).alloc (.cells #[.int .i8 Z] 22):=by
 go_enter Tryz.func131,Tryz.ntmps131
 exact Z1f
def madeD (F:Nat→Int) (o i:Nat):Int:=if i < o then F i else 0
theorem made_zero (F:Nat→Int) (N:Nat):I32v (rowL (madeD F 0) N)=List.replicate N (.int .i32 0):=by
 refine List.ext_getElem (by simp [I32v,rowL]) fun i h1 h2=>?_
 simp [I32v,rowL,madeD]
theorem made_all (F:Nat→Int) (N:Nat):rowL (madeD F N) N=rowL F N:=by
 refine List.ext_getElem (by simp [rowL]) fun i h1 h2=>?_
 have:i < N:=by simpa [rowL] using h1
 simp [rowL,madeD,this]
theorem made_set (F:Nat→Int) {N o:Nat} (v:Int) (hv:F o=v):(I32v (rowL (madeD F o) N)).set o (.int .i32 v)=I32v (rowL (madeD F (o+1)) N):=by
 refine List.ext_getElem (by simp [I32v,rowL]) fun i h1 h2=>?_
 rw [List.getElem_set]
 by_cases e:o=i
 ·subst e
  rw [if_pos rfl]
  simp [I32v,rowL,madeD,hv]
 ·rw [if_neg e]
  simp only [I32v,rowL,List.map_map,List.getElem_map,List.getElem_range,Function.comp,madeD]
  by_cases h:i < o
  ·rw [if_pos h,if_pos Zb3]
  ·rw [if_neg h,if_neg Zb3]
def lineF (zs ws bs:List Int) (n:Nat) (Z:Int) (o:Nat):Int:=IntKind.i32.wrap (bs.getD o 0+psum (termF zs ws 0 (o * n) Z) n)
theorem info_i32d:(Tryz.prog.info? 21).map (fun i=>(i.zero,i.size,i.bytes))=some (some (.int .i32 0),1,4):=by kernel_rfl
def Owned (w:World) (T n:Nat) (xs:List Value) (e:Ending) (w':World):Prop :=
 ∃ v,e=.returned v∧w'.ownsRow w.heap.size T 1 v n xs∧Below w.heap.size w w'
theorem line_yes (A:Option Addr) (zs:List Int) (n c:Nat) (hn:zs.length=n) (hn1:1≤n) (hn2:n≤1000000) (hz:I8b zs) (WA:Option Addr) (ws:List Int) (nW cW:Nat) (hws:ws.length=nW) (hwc:nW≤cW) (hwb:I8b ws)
  (BA:Option Addr) (bs:List Int) (nB cB:Nat) (hbs:bs.length=nB) (hB1:1≤nB) (hB2:nB≤1000000) (hnW:n * nB=nW) (hW2:nW≤1000000) (Z:Int) (z1 : -128≤Z) (z2:Z≤127) (F:Nat→Int) (hF:∀ o,lineF zs ws bs n Z o=F o)
  (w:World) (hr:Kit.Rd w w.heap.size A (I8s zs)) (hrw:Kit.Rd w w.heap.size WA (I8s ws)) (hrb:Kit.Rd w w.heap.size BA (I32v bs)) :
  Calls Tryz.prog 85 #[.slice A n c,.slice WA nW cW,.slice BA nB cB,.int .i8 Z] w (Owned w 21 nB (I32v (rowL F nB))):=by
 obtain⟨bw,ow,rfl,hbw, -⟩:=zax hrw (j:=0) (by rw [hws, ← hnW];exact Nat.mul_pos Zb3 Zb3)
 obtain⟨bb,ob,rfl,hbb,hcb⟩:=zax hrb (j:=0) Zb3
 have hN0:(n:Int)≠0:=by omega
 have hN0b:((n:Int) == 0)=false:=by simp;omega
 have hB0b:((nB:Int) == 0)=false:=by simp;omega
 have hmulw:IntKind.i64.wrap ((n:Int) * (nB:Int))=(nW:Int):=by rw [← Int.natCast_mul,hnW];exact IntWalk.i64_in _ Zb3
 refine Z9n ?_;intro HN HZ HWS HWB
 have HNW:=hid hnW
 have HF:=hid hF
 have HR:=hid hr
 have HRW:=hid hrw
 have HCB:=hid hcb
 have HBS:=hid hbs
 clear hn hz hws hwb hnW hF hr hrw hcb hrb hbs
 go_enter Tryz.func85,Tryz.ntmps85
 obtain⟨i0,hi0,hi1,hi2,hi3⟩:=zbf info_i32d
 go_wp2_with (first
  | (go_at_call 131;(refine (weighing_to A n c Z _).mono ?_);rintro e w1 ⟨rfl,hw1⟩;subst hw1)
  | (at_make;refine wpList_make_full _ rfl (.tmp 35) (.tmp 35) _ rfl (w.heap.size+2) 21 i0 (.int .i32 0) 1 Tryz.underlying24 hi0 hi1 hi2 .i64 .i64 _ _ nB rfl rfl rfl rfl Zbq (by unfold maxLen;omega) Zb7 ?_;intro w2 hown hg2))
 have hB2:Below (w.heap.size+2) ((w.alloc (.cells #[.slice A n c] 23)).alloc (.cells #[.int .i8 Z] 22)) w2 :=
  (Below.refl _ _).grown hg2 Zb7 (fun q hq=>by cases hq)
 rw [show (madeCells (Value.int IntKind.i32 0).cells (nB * 1)).toList=List.replicate nB (.int .i32 0) by rw [Nat.mul_one];exact toList_madeCells_one _ _] at hown
 have c0:w2.cell? ⟨w.heap.size,0,none⟩=some (.slice A n c):=(hB2.cell (p:=⟨w.heap.size,0,none⟩) Zb7).trans ((World.cell?_alloc_lt _ _ _ Zb7).trans (Kit.zan _ _ _ _))
 have c1:w2.cell? ⟨w.heap.size+1,0,none⟩=some (.int .i8 Z):=(hB2.cell (p:=⟨w.heap.size+1,0,none⟩) Zb7).trans (by have:=Kit.zan (w.alloc (.cells #[.slice A n c] 23)) #[.int .i8 Z] 22 0;rw [World.size_alloc] at this;exact this)
 have hB0:Below w.heap.size w w2:=(((Below.refl _ _).alloc (le_refl _) _).alloc Zb7 _).trans (hB2.mono Zb3)
 have hgs:((w.alloc (.cells #[.slice A n c] 23)).alloc (.cells #[.int .i8 Z] 22)).heap.size=w.heap.size+2:=by simp
 simp only [World.size_alloc] at hown
 rw [← made_zero F nB] at hown
 have HOWN:=hid hown
 have C0:=hid c0
 have C1:=hid c1
 have HB0:=hid hB0
 have hs2:w.heap.size+2≤w2.heap.size:=by have:=hB2.size;rw [hgs] at this;exact this
 clear hown c0 c1 hB0 hB2 hg2 hi0 hi1 hi2 hi3
 go_loopw [39] (fun u wr=>∃ o:Nat,o≤nB∧u=Jj Jq o∧Hid (wr.ownsRow (w.heap.size+2) 21 1 (.slice (some ⟨w.heap.size+1+1,0,none⟩) nB nB) nB (I32v (rowL (madeD F o) nB)))∧Hid (Below (w.heap.size+2) w2 wr)) (fun u _=>nB - (intOf u).toNat)
 case atStart=>exact Z2u
 case round =>
  obtain⟨o,ho,rfl,HO,HB⟩:=hrel
  clear HOWN
  by_cases hlt:o < nB
  ·have hbt:=HB.out
   have k0:wr.cell? ⟨w.heap.size,0,none⟩=some (.slice A n c):=(hbt.cell (p:=⟨w.heap.size,0,none⟩) Zb7).trans C0.out
   have k1:wr.cell? ⟨w.heap.size+1,0,none⟩=some (.int .i8 Z):=(hbt.cell (p:=⟨w.heap.size+1,0,none⟩) Zb7).trans C1.out
   have hbw2:Below w.heap.size w wr:=HB0.out.trans (hbt.mono Zb3)
   have kb:wr.cell? ⟨bb,ob+o,none⟩=some (.int .i32 (bs.getD o 0)):=(hbw2.cell (p:=⟨bb,ob+o,none⟩) hbb).trans (HCB.out o (by have:=HBS.out;omega))
   have hle:o * n+n≤nW:=by
    exact Z2k
   have hv:IntKind.i32.wrap (bs.getD o 0+IntKind.i32.wrap (psum (termF zs (ws.drop (o * n)) 0 0 Z) n))=F o:=by
    rw [wrap32_add',drop_term];exact HF.out o
   obtain⟨R1,hR1⟩:∃ R1,IntKind.i32.wrap (psum (termF zs (ws.drop (o * n)) 0 0 Z) n)=R1:=⟨_,rfl⟩
   rw [hR1] at hv
   obtain⟨v,hvF⟩:∃ v,F o=v:=⟨_,rfl⟩
   rw [hvF] at hv
   obtain⟨P,hP⟩:∃ P,o * n=P:=⟨_,rfl⟩
   have hmul:IntKind.i64.wrap ((o:Int) * (n:Int))=(P:Int):=by rw [← Int.natCast_mul,hP];exact IntWalk.i64_in _ Zb3
   have hwt:=fun (w':World) (h1:w'.cell? ⟨w.heap.size,0,none⟩=some (.slice A n c)) (h2:w'.cell? ⟨w.heap.size+1,0,none⟩=some (.int .i8 Z)) (h3:Kit.Rd w' w.heap.size A (I8s zs)) (h4:Kit.Rd w' w.heap.size (some ⟨bw,ow+o * n,none⟩) (I8s (ws.drop (o * n)))) =>
    weigh_to A zs n c HN.out hn2 HZ.out (some ⟨bw,ow+o * n,none⟩) (ws.drop (o * n)) (nW - o * n) (cW - o * n) (by rw [List.length_drop,HWS.out]) Zb3 (drop_I8b HWB.out _) Z z1 z2 w.heap.size (w.heap.size+1) w' h1 h2 h3 h4 R1 hR1
   have hdrop:=(HRW.out.below hbw2).drop (o * n)
   rw [i8s_drop,show (Option.map (fun a:Addr=>a.add (o * n)) (some ⟨bw,ow,none⟩))=some (⟨bw,ow+o * n,none⟩:Addr) by rw [Option.map_some,Go.WideShapes.add_plain]] at hdrop
   rw [hP] at hwt hdrop hle
   have HWT:=hid hwt
   have HDR:=hid hdrop
   have HRD:=hid (HR.out.below hbw2)
   have hst:=fun q=>(Kit.own_below HO.out (Kit.below_drewN (Below.refl wr.heap.size wr) q)).stored o (.int .i32 v)
   rw [made_set F v hvF] at hst
   have HST:=hid hst
   have ks:∃ x,wr.cell? ⟨w.heap.size+1+1,o,none⟩=some x:=⟨_,(HO.out.cellAt o Zb3).trans (List.getElem?_eq_getElem (by simp [I32v,rowL];exact hlt))⟩
   obtain⟨x0,ks⟩:=ks
   have fs:wr.frozen? ⟨w.heap.size+1+1,o,none⟩=false:=HO.out.frozenAt o
   have h0:(0:Int)≤(o:Int):=by omega
   have h1:(o:Int) < (nB:Int):=by omega
   have p0:(0:Int)≤(P:Int):=by omega
   have p1:(P:Int)≤(nW:Int):=by omega
   have p2:(P:Int)≤(cW:Int):=by omega
   have p3:¬ cW=P:=by omega
   have p4:¬ P=cW:=by omega
   generalize bs.getD o 0=b0 at kb hv
   clear hwt hdrop hbt hbw2 hR1 hvF hP hst
   have K0:=hid k0
   have K1:=hid k1
   clear k0 k1
   go_wp2_with (go_at_call 145;(refine (HWT.out _ K0.out K1.out HRD.out HDR.out).mono ?_);rintro e w3 ⟨rfl,q,rfl⟩)
   go_roundw
   case rel=>exact⟨o+1,by omega,by go_num,hid (HST.out q).1,hid ((Kit.below_drewN HB.out q).setCell Zb7 _)⟩
   case measure=>simp [intOf];omega
  ·obtain rfl:o=nB:=by omega
   have hfin:=HO.out
   rw [made_all] at hfin
   have HFI:=hid hfin
   clear hfin
   go_wp2_with fail
   go_ret
   exact⟨_,rfl,Kit.zah HFI.out Zb3,HB0.out.trans (HB.out.mono Zb3)⟩
end CDense
end
section
namespace CGemm
open Plain
def zda (g a b c d:Nat) (w:World):Prop:=w.cell? ⟨g,0,none⟩=some (Jj Jq (a:Int))∧w.cell? ⟨g,1,none⟩=some (Jj Jq (b:Int))∧w.cell? ⟨g,2,none⟩=some (Jj Jq (c:Int))∧w.cell? ⟨g,3,none⟩=some (Jj Jq (d:Int))
theorem zda.new (a b c d:Nat) (T:TypeId) (w:World):zda w.heap.size a b c d (w.alloc (.cells #[Jj Jq (a:Int),Jj Jq (b:Int),Jj Jq (c:Int),Jj Jq (d:Int)] T)) :=
 ⟨Kit.zan _ _ _ _,Kit.zan _ _ _ _,Kit.zan _ _ _ _,Kit.zan _ _ _ _⟩
theorem zda.drewN {g a b c d:Nat} {w:World} (h:zda g a b c d w) (n:Nat):zda g a b c d (w.drewN n):=h
theorem zda.set {g a b c d b' o:Nat} {w:World} (h:zda g a b c d w) (hne:b'≠g) (v:Value):zda g a b c d (w.setCell ⟨b',o,none⟩ v) :=
 ⟨(World.cell?_setCell_far _ _ _ _ hne).trans h.1,(World.cell?_setCell_far _ _ _ _ hne).trans h.2.1,(World.cell?_setCell_far _ _ _ _ hne).trans h.2.2.1,(World.cell?_setCell_far _ _ _ _ hne).trans h.2.2.2⟩
def Owned (w:World) (T n:Nat) (xs:List Value) (e:Ending) (w':World):Prop :=
 ∃ v,e=.returned v∧w'.ownsRow w.heap.size T 1 v n xs∧Below w.heap.size w w'
theorem info_i32:(Tryz.prog.info? 21).map (fun i=>(i.zero,i.size,i.bytes))=some (some (.int .i32 0),1,4):=by kernel_rfl
theorem info_parts {T:Nat} {z:Value} {a b:Nat} (h:(Tryz.prog.info? T).map (fun i=>(i.zero,i.size,i.bytes))=some (some z,a,b)):∃ i,Tryz.prog.info? T=some i∧i.zero=some z∧i.size=a∧i.bytes=b:=by
 exact Z2j
theorem mul_yes (A B:Option Addr) (xs ys:List Int) (n1 n2 c1 c2 r m c N:Nat) (hx:xs.length=n1) (hy:ys.length=n2) (h1:zcy n1 r m=true) (h2:zcy n2 c m=true) (hN:r * c=N) (hN1:N≤1000000)
  (hnc1:n1≤c1) (hnc2:n2≤c2) (hc1:c1≤maxLen) (hc2:c2≤maxLen) (hxb:I16b xs) (hyb:I8b ys) (F:Nat→Int) (hF:F=mulF xs ys m c) (w:World)
  (hr:Kit.Rd w w.heap.size A (xs.map (.int .i16))) (hs:Kit.Rd w w.heap.size B (ys.map (.int .i8))) :
  Calls Tryz.prog 79 #[.slice A n1 c1,.slice B n2 c2,Jj Jq (r:Int),Jj Jq (m:Int),Jj Jq (c:Int)] w (Owned w 21 N (I32v (rowL F N))):=by
 have H1:=hid h1
 have H2:=hid h2
 obtain⟨g1,g2,g3,g4,g5⟩:=holdsB_yes h1
 obtain⟨g6,g7, -, -,g8⟩:=holdsB_yes h2
 have hn1:n1=r * m:=by have:=g5;rw [← Int.natCast_mul] at this;exact Int.ofNat.inj this
 have hn2:n2=c * m:=by have:=g8;rw [← Int.natCast_mul] at this;exact Int.ofNat.inj this
 obtain⟨q1,q2⟩:=small_mul g1 g2 g6 g7
 have hrc:(r:Int) * (c:Int)=(N:Int):=by rw [← hN];simp
 have hrcw:IntKind.i64.wrap ((r:Int) * (c:Int))=(N:Int):=by rw [hrc];exact IntWalk.i64_in _ Zb3
 have hm0:0 < m:=by omega
 have hc0:0 < c:=by omega
 have hr0:0 < r:=by omega
 have hpa:0 < n1:=by rw [hn1];exact Nat.mul_pos hr0 hm0
 have hpb:0 < n2:=by rw [hn2];exact Nat.mul_pos hc0 hm0
 have hp1:0 < xs.length:=by omega
 have hp2:0 < ys.length:=by omega
 obtain⟨b1,o1,rfl,hb1, -⟩:=zax hr (j:=0) hp1
 obtain⟨b2,o2,rfl,hb2, -⟩:=zax hs (j:=0) hp2
 obtain⟨T,hT⟩:∃ T,(r+31) / 32 * ((c+31) / 32)=T:=⟨_,rfl⟩
 obtain⟨a,ha⟩:∃ a,(c+31) / 32=a:=⟨_,rfl⟩
 have ha1:a≤512:=by omega
 have hr2:(r+31) / 32≤512:=by omega
 have hT2:T≤262144:=by rw [← hT,ha];exact Nat.le_trans (Nat.mul_le_mul hr2 ha1) Zb3
 have htt:IntKind.i64.wrap ((((r+31) / 32:Nat):Int) * (a:Int))=(T:Int):=by
  rw [← Int.natCast_mul, ← ha,hT];exact IntWalk.i64_in _ Zb3
 have HX:=hid hx
 have HY:=hid hy
 have HF:=hid hF
 have HR:=hid hr
 have HS:=hid hs
 have HXB:=hid hxb
 have HYB:=hid hyb
 have HN1:=hid hn1
 have HN2:=hid hn2
 have HNN:=hid hN
 have HTT:=hid hT
 have HA:=hid ha
 clear h1 h2 hx hy hF hr hs hxb hyb hn1 hn2 hN hT g5 g8 hrc q1 q2
 generalize hrq:(r+31) / 32=rq at htt hr2 HTT
 have HRQ:=hid hrq
 clear hrq
 go_enter Tryz.func79,Tryz.ntmps79
 obtain⟨i0,hi0,hi1,hi2,hi3⟩:=info_parts info_i32
 go_wp2
 go_step3
 go_wp2_with (first
  | (go_at_call 124;(refine (holds_to _ _ _ _ H1.out _).mono ?_);rintro e w1 ⟨rfl,rfl⟩;clear H1)
  | (go_at_call 124;(refine (holds_to _ _ _ _ H2.out _).mono ?_);rintro e w1 ⟨rfl,rfl⟩;clear H2)
  | (go_at_call 125;(refine (tiles_to c Zb3 _).mono ?_);rintro e w1 ⟨rfl,rfl⟩;rw [HA.out])
  | (at_make;refine wpList_make_full _ rfl (.tmp 33) (.tmp 33) _ rfl w.heap.size 21 i0 (.int .i32 0) 1 Tryz.underlying24 hi0 hi1 hi2 .i64 .i64 _ _ N rfl rfl rfl rfl Zbq (by unfold maxLen;omega) Zb3 ?_;intro w2 hown hg2))
 rw [show (madeCells (Value.int IntKind.i32 0).cells (N * 1)).toList=I32v (List.replicate N 0) by rw [Nat.mul_one];show (madeCells #[Value.int .i32 0] N).toList=_;rw [toList_madeCells_one];simp [I32v]] at hown
 have HOWN:=hid hown
 have HB2:Hid (Below w.heap.size w w2):=hid ((Below.refl w.heap.size w).grown hg2 (le_refl _) (fun q hq=>by cases hq))
 clear hown hg2 hi0 hi1 hi2 hi3
 go_step3
 go_wp2_with (go_at_call 125;(refine (tiles_to r Zb3 _).mono ?_);rintro e w1 ⟨rfl,rfl⟩;rw [HRQ.out])
 go_loopw [41] (fun i wr=>∃ (k:Nat) (P:List Int),k≤T∧i=Jj Jq k∧Hid (wr.ownsRow w.heap.size 21 1 (.slice (some ⟨w.heap.size,0,none⟩) N N) N (I32v P))∧Hid (zcz N (Done1 c k) F P)∧Hid (Below w.heap.size w wr)) (fun i _=>T - (intOf i).toNat)
 case atStart=>exact⟨0,_,Nat.zero_le _,rfl,HOWN,hid (zcz.none (fun i _ h=>by simp [Done1] at h)),HB2⟩
 case round =>
  obtain⟨k,P,hk,rfl,HO1,HF1,HB1⟩:=hrel
  clear HOWN HB2
  by_cases hlt:k < T
  ·have hkI:(k:Int) < (T:Int):=by omega
   obtain⟨p,hp⟩:∃ p,k / a=p:=⟨_,rfl⟩
   obtain⟨q,hq⟩:∃ q,k % a=q:=⟨_,rfl⟩
   have ha0:0 < a:=by omega
   have hpr:p < rq:=by
    have hTT:=HTT.out
    rw [HA.out] at hTT
    rw [← hp];exact Nat.div_lt_of_lt_mul (by rw [Nat.mul_comm,hTT];exact hlt)
   have hqa:q < a:=by rw [← hq];exact Nat.mod_lt _ ha0
   have hp32:p * 32 < r:=by have:=HRQ.out;omega
   have hq32:q * 32 < c:=by omega
   obtain⟨e0,he0⟩:∃ e,p * 32=e:=⟨_,rfl⟩
   obtain⟨e1,he1⟩:∃ e,(p+1) * 32=e:=⟨_,rfl⟩
   obtain⟨e2,he2⟩:∃ e,q * 32=e:=⟨_,rfl⟩
   obtain⟨e3,he3⟩:∃ e,(q+1) * 32=e:=⟨_,rfl⟩
   rw [he0] at hp32
   rw [he2] at hq32
   have HE0:=hid he0
   have HE1:=hid he1
   have HE2:=hid he2
   have HE3:=hid he3
   clear he0 he1 he2 he3
   have ha9:¬ a=0:=by omega
   have d1:(k:Int).tdiv (a:Int)=(p:Int):=by rw [Int.tdiv_eq_ediv_of_nonneg Zb3, ← hp];simp
   have d2:(k:Int).tmod (a:Int)=(q:Int):=by rw [Int.tmod_eq_emod_of_nonneg Zb3, ← hq];simp
   have d3:IntKind.i64.wrap (p:Int)=(p:Int):=IntWalk.i64_in _ Zb3
   have d4:IntKind.i64.wrap (q:Int)=(q:Int):=IntWalk.i64_in _ Zb3
   have HP:=hid hp
   have HQ:=hid hq
   clear hp hq
   have hgw:w.heap.size < wr.heap.size:=Kit.zbd HO1.out
   go_wp2_with fail
   go_cut [14,41] from 41 to 98 (fun s14 s41 wx=>∃ ge:Nat,s14=.pointer (some ⟨ge,0,none⟩)∧s41=Jj Jq (k:Int)∧w.heap.size < ge∧zda ge e0 e1 e2 e3 wx∧Below wr.heap.size wr wx)
   case first =>
    refine wp_region_held_drew (S:=fun _=>True) Zb5 trivial (fun hHeld=>?_)
    refine Z8l ?_
    refine Z5y ?_
    refine Tk.x 1 rfl ?_
    refine Z5y ?_
    refine Z8w ?_
    refine Z5y ?_
    refine Z94 ?_
    refine Z5y ?_
    refine Z9b ?_
    refine Z5y ?_
    refine Za1 ?_
    refine Z5y ?_
    refine wpAnyH_ready (rs:=[6,7]) Zb5 Zb7 ?_
    refine Tk.c rfl (fun K hK=>?_) ?_
    ·go_simp
     go_at_call 126
     refine (bounds_to p q e0 e1 e2 e3 Zb3 Zb3 HE0.out HE1.out HE2.out HE3.out _).mono ?_
     rintro e w3 ⟨rfl,hb3⟩
     have hs3:=hb3.size
     dsimp only
     refine hK.out _ _ ?_ (fun hHeld=>?_)
     ·trivial
     clear hK K
     refine Z5y ?_
     refine Tk.s 7 rfl (fun K hK=>?_)
     go_simp
     refine hK.out _ _ ?_ (fun hHeld=>?_)
     ·trivial
     clear hK K
     refine Z5y ?_
     refine Tk.s 8 rfl (fun K hK=>?_)
     go_simp
     refine hK.out _ _ ?_ (fun hHeld=>?_)
     ·trivial
     clear hK K
     refine Z5y ?_
     refine Z6y ?_
     go_wp2_with fail
     go_meet
     exact⟨_,rfl,rfl,by have:=hs3;simp at this;omega,zda.new _ _ _ _ _ _,(Below.refl _ _).drew.trans (hb3.alloc hb3.size _)⟩
    refine Tk.c rfl (fun K hK=>?_) ?_
    ·go_simp
     refine hK.out _ _ ?_ (fun hHeld=>?_)
     ·trivial
     clear hK K
     refine Z5y ?_
     refine Tk.s 6 rfl (fun K hK=>?_)
     go_simp
     go_at_call 126
     refine (bounds_to p q e0 e1 e2 e3 Zb3 Zb3 HE0.out HE1.out HE2.out HE3.out _).mono ?_
     rintro e w3 ⟨rfl,hb3⟩
     have hs3:=hb3.size
     simp at hs3
     have z0:=(hb3.cell (p:=⟨wr.heap.size,0,none⟩) Zb7).trans (Kit.zan _ _ _ _)
     have z1:=(hb3.cell (p:=⟨wr.heap.size,1,none⟩) Zb7).trans (Kit.zan _ _ _ _)
     have z2:=(hb3.cell (p:=⟨wr.heap.size,2,none⟩) Zb7).trans (Kit.zan _ _ _ _)
     have z3:=(hb3.cell (p:=⟨wr.heap.size,3,none⟩) Zb7).trans (Kit.zan _ _ _ _)
     have y0:=(hb3.frozen (p:=⟨wr.heap.size,0,none⟩) Zb7).trans (World.frozen?_alloc_at _ _ _ _ rfl)
     have y1:=(hb3.frozen (p:=⟨wr.heap.size,1,none⟩) Zb7).trans (World.frozen?_alloc_at _ _ _ _ rfl)
     have y2:=(hb3.frozen (p:=⟨wr.heap.size,2,none⟩) Zb7).trans (World.frozen?_alloc_at _ _ _ _ rfl)
     have y3:=(hb3.frozen (p:=⟨wr.heap.size,3,none⟩) Zb7).trans (World.frozen?_alloc_at _ _ _ _ rfl)
     simp at z0 z1 z2 z3
     dsimp only
     refine hK.out _ _ ?_ (fun hHeld=>?_)
     ·trivial
     clear hK K
     refine Z5y ?_
     refine Tk.s 8 rfl (fun K hK=>?_)
     go_simp
     refine hK.out _ _ ?_ (fun hHeld=>?_)
     ·trivial
     clear hK K
     refine Z5y ?_
     refine Z6y ?_
     go_wp2_with fail
     go_meet
     exact⟨_,rfl,rfl,hgw,⟨by go_cell,by go_cell,by go_cell,by go_cell⟩,(((((((Below.refl _ _).drew.alloc (le_refl _) _).trans (hb3.mono Zb7)).setCell Zb7 _).setCell Zb7 _).setCell Zb7 _).setCell Zb7 _)⟩
    exact AllReadyH.nil
   case rest =>
    obtain⟨ge,rfl,rfl,hge,hE,hbx⟩:=hcut
    have HO2:=hid (Kit.own_below HO1.out hbx)
    have HB2:Hid (Below w.heap.size w wc):=hid (HB1.out.trans (hbx.mono Zb3))
    have HE:=hid hE
    have hne:w.heap.size≠ge:=by omega
    clear HO1 HB1 hE hbx hge d1 d2 d3 d4 hgw
    obtain⟨ec0,ec1,ec2,ec3⟩:=HE.out
    go_wp2_with fail
    clear ec0 ec1 ec2 ec3
    go_loopw [15] (fun u wr=>∃ (i:Nat) (P:List Int),u=Jj Jq i∧e0≤i∧i≤r∧i≤e1∧Hid (wr.ownsRow w.heap.size 21 1 (.slice (some ⟨w.heap.size,0,none⟩) N N) N (I32v P))∧Hid (zcz N (Done2 c k i) F P)∧Hid (Below w.heap.size w wr)∧Hid (zda ge e0 e1 e2 e3 wr)) (fun u _=>e1 - (intOf u).toNat)
    case atStart=>exact⟨e0,P,rfl,le_refl _,by omega,by have:=HE0.out;have:=HE1.out;omega,HO2,hid (HF1.out.mono (fun j _ h=>to21 hc0 HA.out HP.out HE0.out h)),HB2,HE⟩
    case round =>
     clear HO2 HB2 HE HF1
     obtain⟨i,P,rfl,hi0,hir,hi1,HO2,HF2,HB2,HE⟩:=hrel
     obtain⟨ec0,ec1,ec2,ec3⟩:=HE.out
     by_cases hie:i < e1
     ·by_cases hrr:i < r
      ·have hiI:(i:Int) < (e1:Int):=by omega
       have hirI:¬ i=r:=by omega
       have hirb:((i:Int) == (r:Int))=false:=by simp;omega
       go_wp2_with fail
       clear ec0 ec1 ec2 ec3
       go_loopw [16] (fun u wr=>∃ (j:Nat) (P:List Int),u=Jj Jq j∧e2≤j∧j≤c∧j≤e3∧Hid (wr.ownsRow w.heap.size 21 1 (.slice (some ⟨w.heap.size,0,none⟩) N N) N (I32v P))∧Hid (zcz N (Done3 c k i j) F P)∧Hid (Below w.heap.size w wr)∧Hid (zda ge e0 e1 e2 e3 wr)) (fun u _=>e3 - (intOf u).toNat)
       case atStart=>exact⟨e2,P,rfl,le_refl _,by omega,by have:=HE2.out;have:=HE3.out;omega,HO2,hid (HF2.out.mono (fun j _ h=>to32 hc0 HA.out HQ.out HE2.out h)),HB2,HE⟩
       case round =>
        clear HO2 HB2 HE HF2
        obtain⟨j,P,rfl,hj0,hjc,hj3,HO3,HF3,HB3,HE⟩:=hrel
        obtain⟨ec0,ec1,ec2,ec3⟩:=HE.out
        rcases (show (e3≤c)∨(c < e3) by omega) with hmin | hmin
        all_goals
         by_cases hje:j < e3∧j < c
         ·obtain⟨hj1,hj2⟩:=hje
          have hj1I:(j:Int) < (e3:Int):=by omega
          have hj2I:(j:Int) < (c:Int):=by omega
          obtain⟨I1,hI1⟩:∃ I1,i * c=I1:=⟨_,rfl⟩
          obtain⟨I2,hI2⟩:∃ I2,I1+j=I2:=⟨_,rfl⟩
          obtain⟨A1,hA1⟩:∃ A1,i * m=A1:=⟨_,rfl⟩
          obtain⟨A2,hA2⟩:∃ A2,A1+m=A2:=⟨_,rfl⟩
          obtain⟨B1,hB1⟩:∃ B1,j * m=B1:=⟨_,rfl⟩
          obtain⟨B2,hB2⟩:∃ B2,B1+m=B2:=⟨_,rfl⟩
          have hIN:I2 < N:=by rw [← HNN.out, ← hI2, ← hI1];exact place_lt hrr hj2
          have hAn:A2≤n1:=by rw [HN1.out, ← hA2, ← hA1];have:=Nat.mul_le_mul_right m (show i+1≤r by omega);rwa [Nat.add_mul,Nat.one_mul] at this
          have hBn:B2≤n2:=by rw [HN2.out, ← hB2, ← hB1];have:=Nat.mul_le_mul_right m (show j+1≤c by omega);rwa [Nat.add_mul,Nat.one_mul] at this
          have hcm1:c1≤9223372036854775807:=by unfold maxLen at hc1;omega
          have hcm2:c2≤9223372036854775807:=by unfold maxLen at hc2;omega
          obtain⟨i',hi'⟩:∃ i',i+1=i':=⟨_,rfl⟩
          obtain⟨j',hj'⟩:∃ j',j+1=j':=⟨_,rfl⟩
          have w1:IntKind.i64.wrap ((i:Int) * (c:Int))=(I1:Int):=by rw [← Int.natCast_mul,hI1];exact IntWalk.i64_in _ Zb3
          have w2':IntKind.i64.wrap ((I1:Int)+(j:Int))=(I2:Int):=by rw [← Int.natCast_add,hI2];exact IntWalk.i64_in _ Zb3
          have w3:IntKind.i64.wrap ((i:Int) * (m:Int))=(A1:Int):=by rw [← Int.natCast_mul,hA1];exact IntWalk.i64_in _ Zb3
          have w4:IntKind.i64.wrap ((i:Int)+1)=(i':Int):=by rw [IntWalk.i64_in _ Zb3];omega
          have w5:IntKind.i64.wrap ((i':Int) * (m:Int))=(A2:Int):=by rw [← Int.natCast_mul, ← hi',Nat.add_mul,Nat.one_mul,hA1,hA2];exact IntWalk.i64_in _ Zb3
          have w6:IntKind.i64.wrap ((j:Int) * (m:Int))=(B1:Int):=by rw [← Int.natCast_mul,hB1];exact IntWalk.i64_in _ Zb3
          have w7:IntKind.i64.wrap ((j:Int)+1)=(j':Int):=by rw [IntWalk.i64_in _ Zb3];omega
          have w8:IntKind.i64.wrap ((j':Int) * (m:Int))=(B2:Int):=by rw [← Int.natCast_mul, ← hj',Nat.add_mul,Nat.one_mul,hB1,hB2];exact IntWalk.i64_in _ Zb3
          have s1:(0:Int)≤(A1:Int):=by omega
          have s2:(A1:Int)≤(A2:Int):=by omega
          have s3:(A2:Int)≤(c1:Int):=by omega
          have s4:¬ c1=A1:=by omega
          have s5:(0:Int)≤(B1:Int):=by omega
          have s6:(B1:Int)≤(B2:Int):=by omega
          have s7:(B2:Int)≤(c2:Int):=by omega
          have s8:¬ c2=B1:=by omega
          have s9:(0:Int)≤(I2:Int):=by omega
          have s0:(I2:Int) < (N:Int):=by omega
          have sA:A2 - A1=m:=by omega
          have sB:B2 - B1=m:=by omega
          have HI1:=hid hI1
          have HI2:=hid hI2
          have HA1:=hid hA1
          have HBB:=hid hB1
          have HJ':=hid hj'
          have hfr:wr.frozen? ⟨w.heap.size,I2,none⟩=false:=HO3.out.frozenAt I2
          have hcl:∃ v,wr.cell? ⟨w.heap.size,I2,none⟩=some v:=⟨_,(HO3.out.cellAt I2 Zb3).trans (List.getElem?_eq_getElem (by rw [I32v_len,HF3.out.1];exact hIN))⟩
          obtain⟨vold,hcl⟩:=hcl
          go_wp2_with fail
          clear ec0 ec1 ec2 ec3 hI1 hI2 hA1 hA2 hB1 hB2 hi' hj'
          refine wp_region_held_drew (S:=fun _=>True) Zb5 trivial (fun hHeld=>?_)
          refine Z8l ?_
          refine Z5y ?_
          refine Tk.x 1 rfl ?_
          refine Z5y ?_
          refine Z8w ?_
          refine Z5y ?_
          refine Z94 ?_
          refine Z5y ?_
          refine Z9b ?_
          refine Z5y ?_
          refine Za1 ?_
          refine Z5y ?_
          refine Z9e ?_
          refine Z5y ?_
          refine Z9w ?_
          refine Z5y ?_
          refine Z9f ?_
          refine Z5y ?_
          refine Zan ?_
          refine Z5y ?_
          refine Z9o ?_
          refine Z5y ?_
          refine Za5 ?_
          refine Z5y ?_
          refine Zag ?_
          refine Z5y ?_
          refine Za6 ?_
          refine Z5y ?_
          refine Tk.x 14 rfl ?_
          refine Z5y ?_
          refine Tk.x 15 rfl ?_
          refine Z5y ?_
          refine Zak ?_
          refine Z5y ?_
          refine Tk.x 17 rfl ?_
          refine Z5y ?_
          refine Tk.x 18 rfl ?_
          refine Z5y ?_
          refine Tk.x 19 rfl ?_
          refine Z5y ?_
          refine Tk.x 20 rfl ?_
          refine Z5y ?_
          refine Tk.x 21 rfl ?_
          refine Z5y ?_
          refine Tk.x 22 rfl ?_
          refine Z5y ?_
          refine Tk.x 23 rfl ?_
          refine Z5y ?_
          refine Tk.s 24 rfl (fun K hK=>?_)
          go_simp
          go_at_call 127
          refine (dot_to (some ⟨b1,o1+A1,none⟩) (some ⟨b2,o2+B1,none⟩) ((xs.drop A1).take m) ((ys.drop B1).take m) m m (c1 - A1) (c2 - B1) m (cut_len HX.out Zb3) (cut_len HY.out Zb3) Zb3 Zb3 Zb3 Zb3 (by unfold maxLen;omega) (by unfold maxLen;omega) (cut_I16 HXB.out _ _) (cut_I8 HYB.out _ _) _ (cut_rd (HR.out.below HB3.out).drew A1 m) (cut_rd (HS.out.below HB3.out).drew B1 m) (F I2) (mul_at xs ys HI1.out HI2.out hj2 HA1.out HBB.out HF.out)).mono ?_
          rintro e w4 ⟨rfl,nq,rfl⟩
          dsimp only
          refine hK.out _ _ ?_ (fun hHeld=>?_)
          ·trivial
          clear hK K
          refine Z5y ?_
          refine Tk.x 25 rfl ?_
          refine Z5y ?_
          refine Tk.s 26 rfl (fun K hK=>?_)
          go_simp
          refine hK.out _ _ ?_ (fun hHeld=>?_)
          ·trivial
          clear hK K
          refine Z5y ?_
          refine Z6y ?_
          have HO4:=hid ((Kit.own_below HO3.out (Kit.below_drewN (Below.refl wr.heap.size wr) (1+nq))).stored I2 (.int .i32 (F I2))).1
          have HB4:Hid (Below w.heap.size w ((wr.drewN (1+nq)).setCell ⟨w.heap.size,I2,none⟩ (.int .i32 (F I2)))):=hid ((Kit.below_drewN HB3.out (1+nq)).setCell Zb7 _)
          have HE4:Hid (zda ge e0 e1 e2 e3 ((wr.drewN (1+nq)).setCell ⟨w.heap.size,I2,none⟩ (.int .i32 (F I2)))):=hid ((HE.out.drewN (1+nq)).set hne _)
          rw [I32v_set] at HO4
          clear HO3 HB3 HE hfr hcl
          go_wp2_with fail
          go_roundw
          case rel=>exact⟨j',P.set I2 (F I2),rfl,by have:=HJ'.out;omega,by have:=HJ'.out;omega,by have:=HJ'.out;omega,HO4,hid (HF3.out.set rfl (fun l _ h=>by rw [← HI2.out, ← HI1.out];rw [← HJ'.out] at h;exact done33 h)),HB4,HE4⟩
          case measure=>have:=HJ'.out;simp [intOf];omega
         ·have hj9:j=c∨e3≤j:=by omega
          go_wp2_with fail
          go_roundw
          case rel=>exact⟨i+1,P,by go_num,by omega,by omega,by omega,HO3,hid (HF3.out.mono (fun l _ h=>to23 hc0 HA.out HQ.out HE3.out hj9 h)),HB3,HE⟩
          case measure=>simp [intOf];omega
      ·obtain rfl:i=r:=by omega
       have hiI:(i:Int) < (e1:Int):=by omega
       go_wp2_with fail
       go_roundw
       case rel=>exact⟨k+1,P,by omega,by go_num,HO2,hid (HF2.out.mono (fun j hj h=>to12 hc0 HA.out HP.out HE1.out (by rw [HNN.out];exact hj) (.inl rfl) h)),HB2⟩
       case measure=>simp [intOf];omega
     ·obtain rfl:i=e1:=by omega
      go_wp2_with fail
      go_roundw
      case rel=>exact⟨k+1,P,by omega,by go_num,HO2,hid (HF2.out.mono (fun j hj h=>to12 hc0 HA.out HP.out HE1.out (by rw [HNN.out];exact hj) (.inr (le_refl _)) h)),HB2⟩
      case measure=>simp [intOf];omega
  ·obtain rfl:k=T:=by omega
   have hfin:P=rowL F N:=HF1.out.all (fun j hj=>by
    have:=tile_last (rows:=r) hc0 (show j < r * c by rw [HNN.out];exact hj)
    rw [HRQ.out,HTT.out] at this
    exact this)
   subst hfin
   go_wp2_with fail
   rw [Exit.noGoto_ret]
   go_ret
   exact⟨_,rfl,HO1.out,HB1.out⟩
end CGemm
end
section
namespace CLower
open Plain CSat CShape CTensor CConv
theorem psum_eq (G:Nat→Int):∀ n,CGemm.psum G n=psum G n
 | 0=>rfl
 | n+1=>by show CGemm.psum G n+G n=psum G n+G n;rw [psum_eq G n]
theorem psum_add (G:Nat→Int) (m:Nat):∀ k,psum G (m+k)=psum G m+psum (fun j=>G (m+j)) k
 | 0=>by simp [psum]
 | k+1=>by
   show psum G (m+k)+G (m+k)=psum G m+(psum (fun j=>G (m+j)) k+G (m+k))
   rw [psum_add G m k];omega
theorem psum_flat (G:Nat→Int) (b:Nat):∀ a,psum G (a * b)=psum (fun i=>psum (fun j=>G (i * b+j)) b) a
 | 0=>by simp [psum]
 | a+1=>by
   rw [Nat.add_mul,Nat.one_mul,psum_add,psum_flat G b a];rfl
theorem parts_of {wd d kk k2 r i j c:Nat} (hk2:kk * kk=k2) (hwd:k2 * d=wd) (hi:i < kk) (hj:j < kk) (hc:c < d) :
  (i * kk+j) * d+c < wd∧(r * wd+((i * kk+j) * d+c)) / wd=r∧(r * wd+((i * kk+j) * d+c)) % wd=(i * kk+j) * d+c∧((i * kk+j) * d+c) / d=i * kk+j∧((i * kk+j) * d+c) % d=c∧(i * kk+j) / kk=i∧(i * kk+j) % kk=j:=by
 have h1:i * kk+j < kk * kk:=by
  have:=Nat.mul_le_mul_right kk (show i+1≤kk by omega)
  rw [Nat.add_mul,Nat.one_mul] at this;omega
 have h2:(i * kk+j) * d+c < wd:=by
  have:=Nat.mul_le_mul_right d (show i * kk+j+1≤k2 by omega)
  rw [Nat.add_mul,Nat.one_mul,hwd] at this;omega
 have dm:∀ (x m y:Nat),y < m→(x * m+y) / m=x∧(x * m+y) % m=y:=fun x m y hy=>by
  constructor
  ·rw [Nat.mul_comm,Nat.mul_add_div Zb3,Nat.div_eq_of_lt hy];rfl
  ·rw [Nat.mul_comm,Nat.mul_add_mod,Nat.mod_eq_of_lt hy]
 exact⟨h2,(dm r wd _ h2).1,(dm r wd _ h2).2,(dm _ d c hc).1,(dm _ d c hc).2,(dm i kk j hj).1,(dm i kk j hj).2⟩
theorem low_term (zs ws:List Int) (H W C S P Z:Int) (b kk d k2 wd r o i j c:Nat) (hk2:kk * kk=k2) (hwd:k2 * d=wd) (hi:i < kk) (hj:j < kk) (hc:c < d) (hW:0≤W) (hC:C=(d:Int)) :
  CPatch.numF zs H W C S P Z b kk d wd (r * wd+((i * kk+j) * d+c)) * ws.getD (o * wd+((i * kk+j) * d+c)) 0 =
   if 0≤((r / b:Nat):Int) * S - P+(i:Int)∧((r / b:Nat):Int) * S - P+(i:Int) < H∧0≤((r % b:Nat):Int) * S - P+(j:Int)∧((r % b:Nat):Int) * S - P+(j:Int) < W then
    termF zs ws (((((r / b:Nat):Int) * S - P+(i:Int)) * W+(((r % b:Nat):Int) * S - P+(j:Int))) * C).toNat (((o * kk+i) * kk+j) * d) Z c else 0:=by
 obtain⟨h0,h1,h2,h3,h4,h5,h6⟩:=parts_of (r:=r) hk2 hwd hi hj hc
 unfold CPatch.numF
 rw [h1,h2,h3,h4,h5,h6]
 split
 ·rename_i hin
  unfold termF
  have e1:((((((r / b:Nat):Int) * S - P+(i:Int)) * W+(((r % b:Nat):Int) * S - P+(j:Int))) * C)+((c:Nat):Int)).toNat=(((((r / b:Nat):Int) * S - P+(i:Int)) * W+(((r % b:Nat):Int) * S - P+(j:Int))) * C).toNat+c:=by
   have:0≤(((((r / b:Nat):Int) * S - P+(i:Int)) * W+(((r % b:Nat):Int) * S - P+(j:Int))) * C) :=
    Int.mul_nonneg (Int.add_nonneg (Int.mul_nonneg hin.1 hW) hin.2.2.1) Zb3
   omega
  have e2:o * wd+((i * kk+j) * d+c)=((o * kk+i) * kk+j) * d+c:=by
   have h7:(o * kk+i) * kk+j=o * (kk * kk)+(i * kk+j):=by rw [Nat.add_mul,Nat.mul_assoc];omega
   rw [h7,Nat.add_mul (o * (kk * kk)),Nat.mul_assoc o,hk2,hwd];omega
  rw [e1,e2,Int.mul_comm]
 ·rw [Int.zero_mul]
theorem low_sum (zs ws:List Int) (H W C S P Z:Int) (b kk d k2 wd r o:Nat) (hk2:kk * kk=k2) (hwd:k2 * d=wd) (hW:0≤W) (hC:C=(d:Int)) :
  psum (fun k=>CPatch.numF zs H W C S P Z b kk d wd (r * wd+k) * ws.getD (o * wd+k) 0) wd=winF zs ws H W C (((r / b:Nat):Int) * S - P) (((r % b:Nat):Int) * S - P) d kk o Z:=by
 rw [show psum (fun k=>CPatch.numF zs H W C S P Z b kk d wd (r * wd+k) * ws.getD (o * wd+k) 0) wd=psum (fun k=>CPatch.numF zs H W C S P Z b kk d wd (r * wd+k) * ws.getD (o * wd+k) 0) ((kk * kk) * d) by rw [hk2,hwd],psum_flat,psum_flat]
 unfold winF
 refine zck fun i hi=>?_
 unfold rowF
 refine zck fun j hj=>?_
 unfold zcb
 split
 ·rename_i hin
  refine zck fun c hc=>?_
  rw [low_term zs ws H W C S P Z b kk d k2 wd r o i j c hk2 hwd hi hj hc hW hC,if_pos hin]
 ·rename_i hin
  refine psum_zero fun c hc=>?_
  rw [low_term zs ws H W C S P Z b kk d k2 wd r o i j c hk2 hwd hi hj hc hW hC,if_neg hin]
theorem low_num (zs ws bs:List Int) (H W C S P Z:Int) (b kk d k2 wd oo N1 NN:Nat) (hk2:kk * kk=k2) (hwd:k2 * d=wd) (hW:0≤W) (hC:C=(d:Int)) (hNN:N1 * wd=NN) (F:Nat→Int) (hF:F=CPatch.numF zs H W C S P Z b kk d wd)
  (i:Nat) (hi:i < N1 * oo):IntKind.i32.wrap (CGemm.mulF (CPatch.listF F NN) ws wd oo i+bs.getD (i % oo) 0)=gridF b oo (sumF zs ws bs H W C S P d kk Z) i:=by
 have hoo:0 < oo:=by
  rcases Nat.eq_zero_or_pos oo with h | h
  ·subst h;omega
  ·exact h
 have hr:i / oo < N1:=Nat.div_lt_of_lt_mul (by rw [Nat.mul_comm];exact hi)
 unfold CGemm.mulF gridF sumF
 rw [psum_eq,zc6, ← low_sum zs ws H W C S P Z b kk d k2 wd (i / oo) (i % oo) hk2 hwd hW hC]
 congr 1
 rw [Int.add_comm]
 congr 1
 refine zck fun k hk=>?_
 congr 1
 rw [List.getD_eq_getElem?_getD,CPatch.zdj F (by
  have:=Nat.mul_le_mul_right wd (show i / oo+1≤N1 by omega)
  rw [Nat.add_mul,Nat.one_mul,hNN] at this;omega),hF]
 rfl
def mixF (T M:Nat→Int) (t i:Nat):Int:=if i < t then T i else M i
theorem mix_set (T M:Nat→Int) {N t:Nat} (ht:t < N):(CGemm.rowL (mixF T M t) N).set t (T t)=CGemm.rowL (mixF T M (t+1)) N:=by
 refine CGemm.eq_rowL (by simp [CGemm.zbx]) fun i hi=>?_
 rw [List.getElem?_set]
 by_cases e:t=i
 ·subst e
  rw [if_pos rfl,if_pos (by rw [CGemm.zbx];exact hi)]
  unfold mixF;rw [if_pos Zb3]
 ·rw [if_neg e,CGemm.rowL_at _ hi]
  unfold mixF
  by_cases h:i < t
  ·rw [if_pos h,if_pos Zb3]
  ·rw [if_neg h,if_neg Zb3]
theorem mix_at (T M:Nat→Int) {N t:Nat} (ht:t < N):(CGemm.rowL (mixF T M t) N)[t]?=some (M t):=by
 rw [CGemm.rowL_at _ ht];unfold mixF;rw [if_neg Zb3]
end CLower
end
section
namespace CFix
open Plain CSat
theorem refAll_yes (A:Option Addr) (zs:List Int) (c:Nat) (m s z lo hi:Int) (hr:zau m s=true) (hlen:zs.length≤1000000) (hzs:I32s zs) (hm1 : -2147483648≤m) (hm2:m≤2147483647) (hz1 : -128≤z) (hz2:z≤127)
  (hl1 : -128≤lo) (hl2:lo≤127) (hh1 : -128≤hi) (hh2:hi≤127) (L:List Value) (hL:L=(zs.map fun a=>heldZ a m s z lo hi).map (Value.int .i8)) (w:World) (hrd:Kit.Rd w w.heap.size A (zs.map (.int .i32))) :
  Calls Tryz.prog 73 #[.slice A zs.length c,.agg #[.int .i32 m,Jj Jq s,.int .i8 z],.int .i8 lo,.int .i8 hi] w
   (Owned w 22 1 zs.length L):=by
 have hLl:L.length=zs.length:=by rw [hL];simp
 have HL:=hid hL
 have HLL:=hid hLl
 have HR:=hid hr
 have HRD:=hid hrd
 clear hr hL hLl hrd
 go_enter Tryz.func73,Tryz.ntmps73
 obtain⟨i0,hi0,hi1,hi2,hi3⟩:=info_parts info8
 have hF:∀ (k:Nat) (W:World),k < zs.length→Below (w.heap.size+1) (w.alloc (.cells #[.int .i32 m,Jj Jq s,.int .i8 z] 26)) W →
   ∃ b off,A=some ⟨b,off,none⟩∧∀ W':World,Below (w.heap.size+1) (w.alloc (.cells #[.int .i32 m,Jj Jq s,.int .i8 z] 26)) W' →
    (∀ x,zs[k]?=some x→W'.cell? ⟨b,off+k,none⟩=some (.int .i32 x))∧W'.cell? ⟨w.heap.size,0,none⟩=some (.int .i32 m)∧W'.cell? ⟨w.heap.size,1,none⟩=some (Jj Jq s)∧W'.cell? ⟨w.heap.size,2,none⟩=some (.int .i8 z):=by
  intro k W hlt hW
  obtain⟨b,off,hA,hbw,hx⟩:=HRD.out.ints hlt
  refine⟨b,off,hA,fun W' hb=>⟨fun x hx1=>?_,(hb.cell (p:=⟨w.heap.size,0,none⟩) Zb7).trans (Kit.zan _ _ _ _),(hb.cell (p:=⟨w.heap.size,1,none⟩) Zb7).trans (Kit.zan _ _ _ _),(hb.cell (p:=⟨w.heap.size,2,none⟩) Zb7).trans (Kit.zan _ _ _ _)⟩⟩
  rw [List.getElem?_eq_getElem hlt] at hx1
  cases hx1
  rw [hb.cell (p:=⟨b,off+k,none⟩) Zba,World.cell?_alloc_lt _ _ _ hbw];exact hx
 have HF:=hid hF
 clear hF
 go_wp2_with fail
 go_loopw [9,10] (fun o i wr=>∃ k:Nat,k≤zs.length∧i=Jj Jq k∧Hid (wr.ownsRow (w.heap.size+1) 22 1 o k (L.take k))∧Hid (Below (w.heap.size+1) (w.alloc (.cells #[.int .i32 m,Jj Jq s,.int .i8 z] 26)) wr)) (fun _ i _=>zs.length - (intOf i).toNat)
 case atStart=>exact⟨0,Nat.zero_le _,rfl,hid ⟨by simp,.inl ⟨rfl,rfl⟩⟩,hid (Below.refl _ _)⟩
 case round =>
  obtain⟨k,hk,rfl,hown1,hb1⟩:=hrel
  by_cases hlt:k < zs.length
  ·obtain⟨b,off,rfl,hF⟩:=HF.out k wr hlt hb1.out
   obtain⟨hx1,hx2⟩:=hzs zs[k] (List.getElem_mem hlt)
   obtain⟨x,hx⟩:∃ x,zs[k]=x:=⟨_,rfl⟩
   have hx':zs[k]?=some x:=by rw [List.getElem?_eq_getElem hlt,hx]
   rw [hx] at hx1 hx2
   have HX:=hid hx'
   have hF2:=fun W' hW=>(⟨(hF W' hW).1 x hx',(hF W' hW).2⟩:W'.cell? ⟨b,off+k,none⟩=some (.int .i32 x)∧W'.cell? ⟨w.heap.size,0,none⟩=some (.int .i32 m)∧W'.cell? ⟨w.heap.size,1,none⟩=some (Jj Jq s)∧W'.cell? ⟨w.heap.size,2,none⟩=some (.int .i8 z))
   obtain⟨c0,c1,c2,c3⟩:=hF2 wr hb1.out
   have hszt:w.heap.size+1≤wr.heap.size:=by have:=hb1.out.size;simpa using this
   have HF2:=hid hF2
   clear hx hx' hF hF2
   go_wp2_with (go_at_call 64;refine (zcm _ _ _ HR.out _).mono ?_;rintro e w3 ⟨rfl,hb3⟩;have hs3:wr.heap.size≤w3.heap.size:=hb3.size;have hB3:=hb1.out.trans (hb3.mono hszt);obtain⟨d0,d1,d2,d3⟩:=HF2.out _ hB3;have HB3:=hid hB3;have HO3:=hid (Kit.own_below hown1.out hb3);clear hB3 hb3 c0 c1 c2 c3)
   go_region_held3 (fun w'=>w'.cell? ⟨b,off+k,none⟩=some (.int .i32 x)∧w'.cell? ⟨w.heap.size,0,none⟩=some (.int .i32 m)∧w'.cell? ⟨w.heap.size,1,none⟩=some (Jj Jq s)∧w'.cell? ⟨w.heap.size,2,none⟩=some (.int .i8 z)) (first | go_keep) ((first
    | (refine Kit.zar _ rfl (.tmp 21) (.tmp 30) _ rfl (w.heap.size+1) 22 i0 (.int .i8 0) 1 1 Tryz.underlying23 hi0 hi1 hi2 hi3 rfl Zbc u9 k (L.take k) rfl (HO4.out.alloc _) (w4.heap.size+1) (some ⟨w4.heap.size,0,none⟩) 1 1 [.int .i8 (heldZ x m s z lo hi)] rfl rfl (Kit.Rd.new _ _ _ Zb3) (Kit.za5 .i8 [heldZ x m s z lo hi]) (by unfold maxLen;omega) Zb3 Zba ?_;intro v5 w5 hown5 hg5 _;have hs5:w4.heap.size≤w5.heap.size:=Nat.le_trans Zb7 hg5.size;have hB5:=(HB4.out.alloc (Nat.le_trans (Nat.le_trans hszt hs3) hs4) _).grown hg5 Zba (Kit.zaq HO4.out);obtain⟨f0,f1,f2,f3⟩:=HF2.out _ hB5;have HB5:=hid hB5;have HO5:=hid hown5;clear hB5 hown5 hg5 e0 e1 e2 e3)
    | (go_at_call 115;refine (refHeldQ _ _ _ _ _ _ hx1 hx2 hm1 hm2 hz1 hz2 hl1 hl2 hh1 hh2 _).mono ?_;rintro e w4 ⟨rfl,hb4⟩;have hs4:w3.heap.size≤w4.heap.size:=hb4.size;have hB4:=HB3.out.drew.trans (hb4.mono (Nat.le_trans hszt hs3));obtain⟨e0,e1,e2,e3⟩:=HF2.out _ hB4;have HB4:=hid hB4;have HO4:=hid (Kit.own_below HO3.out ((Below.refl _ _).drew.trans hb4));clear hB4 hb4 d0 d1 d2 d3)))
   have hnext:w5.ownsRow (w.heap.size+1) 22 1 v5 (k+1) (L.take (k+1)):=by
    have hkl:k < L.length:=by rw [HLL.out];exact hlt
    have hv:L[k]=Value.int .i8 (heldZ x m s z lo hi):=by
     have hLo:=HL.out
     subst hLo
     have:=HX.out
     rw [List.getElem?_eq_getElem hlt] at this
     cases this
     simp
    rw [List.take_succ_eq_append_getElem hkl,hv]
    exact HO5.out
   have HN:=hid hnext
   clear hnext
   go_wp2
   go_roundw
   case rel=>exact⟨k+1,by omega,by go_num,HN,HB5⟩
   case measure=>simp [intOf];omega
  ·have hke:k=zs.length:=by omega
   have hfin:wr.ownsRow (w.heap.size+1) 22 1 u9 zs.length L:=by
    have:=hown1.out
    rw [List.take_of_length_le (by rw [HLL.out];omega),hke] at this
    exact this
   have HFI:=hid hfin
   clear hke hfin
   go_wp2_with fail
   go_ret
   exact⟨_,rfl,Kit.zah HFI.out Zb3,((Below.refl w.heap.size w).alloc (le_refl _) _).trans (hb1.out.mono Zb3)⟩
end CFix
end
end Go.Proofs.YtchpdhhpkljdhaaGreatDoor
