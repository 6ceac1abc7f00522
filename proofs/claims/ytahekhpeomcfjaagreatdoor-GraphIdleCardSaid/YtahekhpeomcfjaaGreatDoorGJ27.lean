/- -/
import Derived.Test.YtahekhpeomcfjaaGreatDoorGJ26
open Go.Lib (hid)
open Nat (le_refl lt_of_succ_lt lt_succ_self)
set_option linter.unusedVariables false
set_option linter.unusedSimpArgs false
set_option maxRecDepth 100000
set_option maxHeartbeats 16000000
namespace Go.Proofs.YtahekhpeomcfjaaGreatDoor
namespace CConv
end CConv
namespace CSat
end CSat
namespace CShape
end CShape
namespace CTensor
end CTensor
open Go Go.ChangeShapes Go.WideShapes Go.ChangeAt Go.RowKit
section
namespace CDense
open Plain CSat CShape CTensor CConv
theorem term00 (zs ws:List Int) (Z:Int) (k:Nat):termF zs ws 0 0 Z k=ws.getD k 0 * (zs.getD k 0 - Z):=by unfold termF;rw [Nat.zero_add]
theorem weigh_to (A:Option Addr) (zs:List Int) (n c:Nat) (hn:zs.length=n) (hn2:n≤1000000) (hz:I8b zs) (WA:Option Addr) (ws:List Int) (m cW:Nat) (hws:ws.length=m) (hm:n≤m) (hwb:I8b ws) (Z:Int) (z1 : -128≤Z) (z2:Z≤127)
  (bx bz:Nat) (w:World) (hx:w.cell? ⟨bx,0,none⟩=some (.slice A n c)) (hzc:w.cell? ⟨bz,0,none⟩=some (.int .i8 Z)) {B1 B2:Nat} (hr:Kit.Rd w B1 A (I8s zs)) (hrw:Kit.Rd w B2 WA (I8s ws)) (R:Int) (hR:IntKind.i32.wrap (psum (termF zs ws 0 0 Z) n)=R) :
  Calls Tryz.prog 168 #[.slice WA m cW,.pointer (some ⟨bx,0,none⟩),.pointer (some ⟨bz,0,none⟩)] w fun e w'=>e=.returned (.int .i32 R)∧∃ q,w'=w.drewN q:=by
 have HR:=hid hR
 have HA:=hid hr
 have HB:=hid hrw
 have HZ:=hid hz
 have HWB:=hid hwb
 have HN:=hid hn
 have HWS:=hid hws
 have HX:=hid hx
 clear hR hr hrw hz hwb hn hws
 go_enter Tryz.func168,Tryz.ntmps168
 go_wp2_with fail
 clear hx
 go_loopw [5,10] (fun s u wr=>∃ k nq:Nat,k≤n∧u=.int .i64 k∧s=.int .i32 (IntKind.i32.wrap (psum (termF zs ws 0 0 Z) k))∧Hid (wr=w.drewN nq)) (fun _ u _=>n - (intOf u).toNat)
 case atStart=>exact⟨0,0,Nat.zero_le _,rfl,congrArg (Value.int .i32) (by simp [psum,IntKind.wrap_i32]),hid rfl⟩
 case round =>
  obtain⟨k,nq,hk,rfl,rfl,hw⟩:=hrel
  obtain rfl:=hw.out
  clear hw
  by_cases hlt:k < n
  ·obtain⟨b1,o1,rfl,_,hcx0⟩:=zav HA.out (j:=0) (by have:=HN.out;omega)
   obtain⟨b2,o2,rfl,_,hcy0⟩:=zav HB.out (j:=0) (by have:=HWS.out;omega)
   have hcx:=hcx0 k (by have:=HN.out;omega)
   have hcy:=hcy0 k (by have:=HWS.out;omega)
   clear hcx0 hcy0
   have hk0:(0:Int)≤(k:Int):=by omega
   have hkn:(k:Int) < (n:Int):=by omega
   have hkm:(k:Int) < (m:Int):=by omega
   obtain⟨x1,x2⟩:=HZ.out k
   obtain⟨y1,y2⟩:=HWB.out k
   obtain⟨t1,t2⟩:=term_bd x1 x2 y1 y2 z1 z2
   have hnext:IntKind.i32.wrap (IntKind.i32.wrap (psum (termF zs ws 0 0 Z) k)+ws.getD k 0 * (zs.getD k 0 - Z))=IntKind.i32.wrap (psum (termF zs ws 0 0 Z) (k+1)):=by
    rw [zcq];simp only [psum];rw [term00]
   generalize zs.getD k 0=x at hcx x1 x2 t1 t2 hnext
   generalize ws.getD k 0=y at hcy y1 y2 t1 t2 hnext
   obtain⟨u1,hu1⟩:∃ u1,IntKind.i32.wrap (psum (termF zs ws 0 0 Z) k)=u1:=⟨_,rfl⟩
   obtain⟨u2,hu2⟩:∃ u2,IntKind.i32.wrap (psum (termF zs ws 0 0 Z) (k+1))=u2:=⟨_,rfl⟩
   have HU2:=hid hu2
   rw [hu1,hu2] at hnext
   rw [hu1]
   have e1:IntKind.i32.wrap x=x:=IntWalk.i32_in _ (by omega)
   have e2:IntKind.i32.wrap y=y:=IntWalk.i32_in _ (by omega)
   have e3:IntKind.i32.wrap Z=Z:=IntWalk.i32_in _ (by omega)
   have e4:IntKind.i32.wrap (x - Z)=x - Z:=IntWalk.i32_in _ (by omega)
   have e5:IntKind.i32.wrap (y * (x - Z))=y * (x - Z):=IntWalk.i32_in _ (by omega)
   clear hu1 hu2 t1 t2
   go_wp2_with fail
   go_quiet (fail)
   go_wp2
   go_roundw
   case rel=>exact⟨k+1,_,by omega,by go_num,congrArg _ HU2.out.symm,hid rfl⟩
   case measure=>simp [intOf];omega
  ·obtain rfl:k=n:=by omega
   rw [HR.out]
   go_wp2_with fail
   go_ret
   exact⟨rfl,nq,rfl⟩
theorem weighing_to (A:Option Addr) (n c:Nat) (Z:Int) (w:World) :
  Calls Tryz.prog 162 #[.slice A n c,.int .i8 Z] w fun e w'=>e=.returned (.func (.func 168) #[] #[.pointer (some ⟨w.heap.size,0,none⟩),.pointer (some ⟨w.heap.size+1,0,none⟩)])∧w'=(w.alloc (.cells #[.slice A n c] 25)).alloc (.cells #[.int .i8 Z] 39):=by
 go_enter Tryz.func162,Tryz.ntmps162
 go_wp2_with fail
 go_ret
 exact⟨rfl,rfl⟩
def madeD (F:Nat→Int) (o i:Nat):Int:=if i < o then F i else 0
theorem made_zero (F:Nat→Int) (N:Nat):I32v (rowL (madeD F 0) N)=List.replicate N (.int .i32 0):=by
 refine List.ext_getElem (by simp [I32v,rowL]) fun i h1 h2=>?_
 simp [I32v,rowL,madeD]
theorem made_all (F:Nat→Int) (N:Nat):rowL (madeD F N) N=rowL F N:=by
 refine List.ext_getElem (by simp [rowL]) fun i h1 h2=>?_
 have:i < N:=by simpa [rowL] using h1
 simp [rowL,madeD,this]
theorem made_set (F:Nat→Int) {N o:Nat} (v:Int) (hv:F o=v):(I32v (rowL (madeD F o) N)).set o (.int .i32 v)=I32v (rowL (madeD F (o+1)) N):=by
 refine List.ext_getElem (by simp [I32v,rowL]) fun i h1 h2=>?_
 rw [List.getElem_set]
 by_cases e:o=i
 ·subst e
  rw [if_pos rfl]
  simp [I32v,rowL,madeD,hv]
 ·rw [if_neg e]
  simp only [I32v,rowL,List.map_map,List.getElem_map,List.getElem_range,Function.comp,madeD]
  by_cases h:i < o
  ·rw [if_pos h,if_pos (by omega)]
  ·rw [if_neg h,if_neg (by omega)]
def lineF (zs ws bs:List Int) (n:Nat) (Z:Int) (o:Nat):Int:=IntKind.i32.wrap (bs.getD o 0+psum (termF zs ws 0 (o * n) Z) n)
theorem info_i32d:(Tryz.prog.info? 21).map (fun i=>(i.zero,i.size,i.bytes))=some (some (.int .i32 0),1,4):=by kernel_rfl
def Owned (w:World) (T n:Nat) (xs:List Value) (e:Ending) (w':World):Prop :=
 ∃ v,e=.returned v∧w'.ownsRow w.heap.size T 1 v n xs∧Below w.heap.size w w'
theorem line_yes (A:Option Addr) (zs:List Int) (n c:Nat) (hn:zs.length=n) (hn1:1≤n) (hn2:n≤1000000) (hz:I8b zs) (WA:Option Addr) (ws:List Int) (nW cW:Nat) (hws:ws.length=nW) (hwc:nW≤cW) (hwb:I8b ws)
  (BA:Option Addr) (bs:List Int) (nB cB:Nat) (hbs:bs.length=nB) (hB1:1≤nB) (hB2:nB≤1000000) (hnW:n * nB=nW) (hW2:nW≤1000000) (Z:Int) (z1 : -128≤Z) (z2:Z≤127) (F:Nat→Int) (hF:∀ o,lineF zs ws bs n Z o=F o)
  (w:World) (hr:Kit.Rd w w.heap.size A (I8s zs)) (hrw:Kit.Rd w w.heap.size WA (I8s ws)) (hrb:Kit.Rd w w.heap.size BA (I32v bs)) :
  Calls Tryz.prog 146 #[.slice A n c,.slice WA nW cW,.slice BA nB cB,.int .i8 Z] w (Owned w 21 nB (I32v (rowL F nB))):=by
 obtain⟨bw,ow,rfl,hbw, -⟩:=zav hrw (j:=0) (by rw [hws, ← hnW];exact Nat.mul_pos (by omega) (by omega))
 obtain⟨bb,ob,rfl,hbb,hcb⟩:=zav hrb (j:=0) (by omega)
 have hN0:(n:Int)≠0:=by omega
 have hN0b:((n:Int) == 0)=false:=by simp;omega
 have hB0b:((nB:Int) == 0)=false:=by simp;omega
 have hmulw:IntKind.i64.wrap ((n:Int) * (nB:Int))=(nW:Int):=by rw [← Int.natCast_mul,hnW];exact IntWalk.i64_in _ (by omega)
 have HN:=hid hn
 have HZ:=hid hz
 have HWS:=hid hws
 have HWB:=hid hwb
 have HNW:=hid hnW
 have HF:=hid hF
 have HR:=hid hr
 have HRW:=hid hrw
 have HCB:=hid hcb
 have HBS:=hid hbs
 clear hn hz hws hwb hnW hF hr hrw hcb hrb hbs
 go_enter Tryz.func146,Tryz.ntmps146
 obtain⟨i0,hi0,hi1,hi2,hi3⟩:=zbz info_i32d
 go_wp2_with (first
  | (go_at_call 162;(refine (weighing_to A n c Z _).mono ?_);rintro e w1 ⟨rfl,hw1⟩;subst hw1)
  | (at_make;refine wpList_make_full _ rfl (.tmp 35) (.tmp 35) _ rfl (w.heap.size+2) 21 i0 (.int .i32 0) 1 Tryz.underlying40 hi0 hi1 hi2 .i64 .i64 _ _ nB rfl rfl rfl rfl (by rw [hi3];omega) (by unfold maxLen;omega) (by simp) ?_;intro w2 hown hg2))
 have hB2:Below (w.heap.size+2) ((w.alloc (.cells #[.slice A n c] 25)).alloc (.cells #[.int .i8 Z] 39)) w2 :=
  (Below.refl _ _).grown hg2 (by simp) (fun q hq=>by cases hq)
 rw [show (madeCells (Value.int IntKind.i32 0).cells (nB * 1)).toList=List.replicate nB (.int .i32 0) by rw [Nat.mul_one];exact toList_madeCells_one _ _] at hown
 have c0:w2.cell? ⟨w.heap.size,0,none⟩=some (.slice A n c):=(hB2.cell (p:=⟨w.heap.size,0,none⟩) (by simp)).trans ((World.cell?_alloc_lt _ _ _ (by simp)).trans (Kit.zaf _ _ _ _))
 have c1:w2.cell? ⟨w.heap.size+1,0,none⟩=some (.int .i8 Z):=(hB2.cell (p:=⟨w.heap.size+1,0,none⟩) (by simp)).trans (by have:=Kit.zaf (w.alloc (.cells #[.slice A n c] 25)) #[.int .i8 Z] 39 0;rw [World.size_alloc] at this;exact this)
 have hB0:Below w.heap.size w w2:=(((Below.refl _ _).alloc (le_refl _) _).alloc (by simp) _).trans (hB2.mono (by omega))
 have hgs:((w.alloc (.cells #[.slice A n c] 25)).alloc (.cells #[.int .i8 Z] 39)).heap.size=w.heap.size+2:=by simp
 simp only [World.size_alloc] at hown
 rw [← made_zero F nB] at hown
 have HOWN:=hid hown
 have C0:=hid c0
 have C1:=hid c1
 have HB0:=hid hB0
 have hs2:w.heap.size+2≤w2.heap.size:=by have:=hB2.size;rw [hgs] at this;exact this
 clear hown c0 c1 hB0 hB2 hg2 hi0 hi1 hi2 hi3
 go_loopw [39] (fun u wr=>∃ o:Nat,o≤nB∧u=.int .i64 o∧Hid (wr.ownsRow (w.heap.size+2) 21 1 (.slice (some ⟨w.heap.size+1+1,0,none⟩) nB nB) nB (I32v (rowL (madeD F o) nB)))∧Hid (Below (w.heap.size+2) w2 wr)) (fun u _=>nB - (intOf u).toNat)
 case atStart=>exact⟨0,Nat.zero_le _,rfl,HOWN,hid (Below.refl _ _)⟩
 case round =>
  obtain⟨o,ho,rfl,HO,HB⟩:=hrel
  clear HOWN
  by_cases hlt:o < nB
  ·have hbt:=HB.out
   have k0:wr.cell? ⟨w.heap.size,0,none⟩=some (.slice A n c):=(hbt.cell (p:=⟨w.heap.size,0,none⟩) (by simp)).trans C0.out
   have k1:wr.cell? ⟨w.heap.size+1,0,none⟩=some (.int .i8 Z):=(hbt.cell (p:=⟨w.heap.size+1,0,none⟩) (by simp)).trans C1.out
   have hbw2:Below w.heap.size w wr:=HB0.out.trans (hbt.mono (by omega))
   have kb:wr.cell? ⟨bb,ob+o,none⟩=some (.int .i32 (bs.getD o 0)):=(hbw2.cell (p:=⟨bb,ob+o,none⟩) hbb).trans (HCB.out o (by have:=HBS.out;omega))
   have hle:o * n+n≤nW:=by
    rw [← HNW.out,Nat.mul_comm n nB]
    have:=Nat.mul_le_mul_right n (show o+1≤nB by omega)
    rwa [Nat.add_mul,Nat.one_mul] at this
   have hv:IntKind.i32.wrap (bs.getD o 0+IntKind.i32.wrap (psum (termF zs (ws.drop (o * n)) 0 0 Z) n))=F o:=by
    rw [wrap32_add',drop_term];exact HF.out o
   obtain⟨R1,hR1⟩:∃ R1,IntKind.i32.wrap (psum (termF zs (ws.drop (o * n)) 0 0 Z) n)=R1:=⟨_,rfl⟩
   rw [hR1] at hv
   obtain⟨v,hvF⟩:∃ v,F o=v:=⟨_,rfl⟩
   rw [hvF] at hv
   obtain⟨P,hP⟩:∃ P,o * n=P:=⟨_,rfl⟩
   have hmul:IntKind.i64.wrap ((o:Int) * (n:Int))=(P:Int):=by rw [← Int.natCast_mul,hP];exact IntWalk.i64_in _ (by omega)
   have hwt:=fun (w':World) (h1:w'.cell? ⟨w.heap.size,0,none⟩=some (.slice A n c)) (h2:w'.cell? ⟨w.heap.size+1,0,none⟩=some (.int .i8 Z)) (h3:Kit.Rd w' w.heap.size A (I8s zs)) (h4:Kit.Rd w' w.heap.size (some ⟨bw,ow+o * n,none⟩) (I8s (ws.drop (o * n)))) =>
    weigh_to A zs n c HN.out hn2 HZ.out (some ⟨bw,ow+o * n,none⟩) (ws.drop (o * n)) (nW - o * n) (cW - o * n) (by rw [List.length_drop,HWS.out]) (by omega) (drop_I8b HWB.out _) Z z1 z2 w.heap.size (w.heap.size+1) w' h1 h2 h3 h4 R1 hR1
   have hdrop:=(HRW.out.below hbw2).drop (o * n)
   rw [i8s_drop,show (Option.map (fun a:Addr=>a.add (o * n)) (some ⟨bw,ow,none⟩))=some (⟨bw,ow+o * n,none⟩:Addr) by rw [Option.map_some,Go.WideShapes.add_plain]] at hdrop
   rw [hP] at hwt hdrop hle
   have HWT:=hid hwt
   have HDR:=hid hdrop
   have HRD:=hid (HR.out.below hbw2)
   have hst:=fun q=>(Kit.own_below HO.out (Kit.below_drewN (Below.refl wr.heap.size wr) q)).stored o (.int .i32 v)
   rw [made_set F v hvF] at hst
   have HST:=hid hst
   have ks:∃ x,wr.cell? ⟨w.heap.size+1+1,o,none⟩=some x:=⟨_,(HO.out.cellAt o (by omega)).trans (List.getElem?_eq_getElem (by simp [I32v,rowL];exact hlt))⟩
   obtain⟨x0,ks⟩:=ks
   have fs:wr.frozen? ⟨w.heap.size+1+1,o,none⟩=false:=HO.out.frozenAt o
   have h0:(0:Int)≤(o:Int):=by omega
   have h1:(o:Int) < (nB:Int):=by omega
   have p0:(0:Int)≤(P:Int):=by omega
   have p1:(P:Int)≤(nW:Int):=by omega
   have p2:(P:Int)≤(cW:Int):=by omega
   have p3:¬ cW=P:=by omega
   have p4:¬ P=cW:=by omega
   generalize bs.getD o 0=b0 at kb hv
   clear hwt hdrop hbt hbw2 hR1 hvF hP hst
   have K0:=hid k0
   have K1:=hid k1
   clear k0 k1
   go_wp2_with (go_at_call 168;(refine (HWT.out _ K0.out K1.out HRD.out HDR.out).mono ?_);rintro e w3 ⟨rfl,q,rfl⟩)
   go_roundw
   case rel=>exact⟨o+1,by omega,by go_num,hid (HST.out q).1,hid ((Kit.below_drewN HB.out q).setCell (by simp) _)⟩
   case measure=>simp [intOf];omega
  ·obtain rfl:o=nB:=by omega
   have hfin:=HO.out
   rw [made_all] at hfin
   have HFI:=hid hfin
   clear hfin
   go_wp2_with fail
   go_ret
   exact⟨_,rfl,Kit.zah HFI.out (by omega),HB0.out.trans (HB.out.mono (by omega))⟩
end CDense
end
section
namespace CLower
open Go Go.ChangeShapes Go.WideShapes Go.ChangeAt Go.RowKit Go.Shelf Round
open Plain CSat CShape CTensor CConv
theorem own_at {w:World} {base g n cap:Nat} {e:TypeId} {xs:List Value} (h:w.ownsRow base e 1 (.slice (some ⟨g,0,none⟩) n cap) n xs) (hn:0 < n) :
  (∀ j u,xs[j]?=some u→w.cell? ⟨g,j,none⟩=some u)∧(∀ j,w.frozen? ⟨g,j,none⟩=false)∧g < w.heap.size:=by
 obtain⟨g',cap',e1,_,h2,_,_,h3,h4⟩:=own_cells h hn
 cases e1
 exact⟨h3,h4,h2⟩
theorem zco {w w':World} {g B:Nat} (h:w.grownBy w' (some g)) (hg:B≤g) (hB:B≤w.heap.size):Below B w w' :=
 ⟨h.os,h.tape,h.output,h.size,fun k hk=>h.block k (by omega) (by intro e;cases e;omega)⟩
theorem grown_drew (w:World) (r:Option Nat):w.grownBy w.drew r:=⟨rfl,rfl,rfl,le_refl _,fun _ _ _=>rfl⟩
theorem grown_self (w:World) (r:Option Nat):w.grownBy w r:=⟨rfl,rfl,rfl,le_refl _,fun _ _ _=>rfl⟩
theorem grown_trans {a b c:World} {r:Option Nat} (h:a.grownBy b r) (k:b.grownBy c r):a.grownBy c r :=
 ⟨k.os.trans h.os,k.tape.trans h.tape,k.output.trans h.output,Nat.le_trans h.size k.size,fun i hi hr=>(k.block i (Nat.lt_of_lt_of_le hi h.size) hr).trans (h.block i hi hr)⟩
theorem zcv {a b:World} {g:Nat} (h:a.grownBy b (some g)) {p:Addr} (hp:p.block < a.heap.size) (hg:p.block≠g):b.cell? p=a.cell? p :=
 World.cell?_of_block (h.block p.block hp (by intro e;cases e;exact hg rfl))
theorem grown_frozen {a b:World} {g:Nat} (h:a.grownBy b (some g)) {p:Addr} (hp:p.block < a.heap.size) (hg:p.block≠g):b.frozen? p=a.frozen? p :=
 World.frozen?_of_block (h.block p.block hp (by intro e;cases e;exact hg rfl))
theorem raise_to (g q d N cap base Bb cB B:Nat) (BA:Option Addr) (bs:List Int) (T M:Nat→Int) (hbs:bs.length=d) (hd:1≤d) (hdm:d≤1024) (hq:q+d≤N) (hN:N≤1000000) (hB:B≤g) (hbg:Bb≠g)
  (hT:∀ j,j < d→IntKind.i32.wrap (M (q+j)+bs.getD j 0)=T (q+j)) (W:World) (hBs:B≤W.heap.size) (ho:W.ownsRow base 21 1 (.slice (some ⟨g,0,none⟩) N cap) N (I32v (CGemm.rowL (mixF T M q) N)))
  (hcb:W.cell? ⟨Bb,0,none⟩=some (.slice BA d cB)) (hbb:Bb < W.heap.size) (hr:Kit.Rd W B BA (I32v bs)) :
  Calls Tryz.prog 160 #[.slice (some ⟨g,q,none⟩) d d,.pointer (some ⟨Bb,0,none⟩)] W fun e W'=>(∃ v,e=.returned v)∧W'.ownsRow base 21 1 (.slice (some ⟨g,0,none⟩) N cap) N (I32v (CGemm.rowL (mixF T M (q+d)) N))∧W.grownBy W' (some g):=by
 have HT:=hid hT
 have HO:=hid ho
 have HR:=hid hr
 have HBS:=hid hbs
 clear hT ho hr hbs
 go_enter Tryz.func160,Tryz.ntmps160
 go_wp2_with fail
 go_loopw [7] (fun i wr=>∃ j:Nat,j≤d∧i=.int .i64 j∧Hid (wr.ownsRow base 21 1 (.slice (some ⟨g,0,none⟩) N cap) N (I32v (CGemm.rowL (mixF T M (q+j)) N)))∧Hid (W.grownBy wr (some g))) (fun i _=>d - (intOf i).toNat)
 case atStart=>exact⟨0,Nat.zero_le _,rfl,HO,hid (grown_self _ _)⟩
 case round =>
  obtain⟨j,hj,rfl,hO,hG⟩:=hrel
  by_cases hlt:j < d
  ·obtain⟨bb,ob,rfl, -,hcx⟩:=zav (HR.out.below (zco hG.out hB hBs)) (j:=j) (by have:=HBS.out;omega)
   have kb:=hcx j (by have:=HBS.out;omega)
   obtain⟨h1,h2,h3⟩:=own_at hO.out (by omega)
   have hjN:q+j < N:=by omega
   have ks:=h1 (q+j) (.int .i32 (M (q+j))) (by unfold I32v;rw [List.getElem?_map,mix_at T M hjN];rfl)
   have fs:=h2 (q+j)
   have ht:=HT.out j hlt
   obtain⟨b1,hb1⟩:∃ b1,bs.getD j 0=b1:=⟨_,rfl⟩
   obtain⟨m1,hm1⟩:∃ m1,M (q+j)=m1:=⟨_,rfl⟩
   obtain⟨t1,ht1⟩:∃ t1,T (q+j)=t1:=⟨_,rfl⟩
   have HT1:=hid ht1
   rw [hb1] at kb
   rw [hm1] at ks
   rw [hb1,hm1,ht1] at ht
   have hst:=hO.out.stored (q+j) (.int .i32 t1)
   have hset:(I32v (CGemm.rowL (mixF T M (q+j)) N)).set (q+j) (.int .i32 t1)=I32v (CGemm.rowL (mixF T M (q+(j+1))) N):=by
    unfold I32v
    rw [← List.map_set, ← ht1,mix_set T M hjN];rfl
   rw [hset] at hst
   have HO2:=hid hst.1
   have HG2:=hid (grown_trans hG.out hst.2)
   have hj0:(0:Int)≤(j:Int):=by omega
   have hjd:(j:Int) < (d:Int):=by omega
   clear hst hset h1 h2 h3 hcx hb1 hm1 ht1
   go_wp2_with fail
   go_roundw
   case rel=>exact⟨j+1,by omega,by go_num,HO2,HG2⟩
   case measure=>simp [intOf];omega
  ·obtain rfl:j=d:=by omega
   go_wp2_with fail
   go_end0
   exact⟨⟨_,rfl⟩,hO.out,hG.out⟩
theorem raising_to (BA:Option Addr) (nB cB:Nat) (w:World) :
  Calls Tryz.prog 143 #[.slice BA nB cB] w fun e w'=>e=.returned (.func (.func 160) #[] #[.pointer (some ⟨w.heap.size,0,none⟩)])∧w'=w.alloc (.cells #[.slice BA nB cB] 40):=by
 go_enter Tryz.func143,Tryz.ntmps143
 go_wp2_with fail
 go_ret
 exact⟨rfl,rfl⟩
theorem chunks_to (A:Option Addr) (L c:Nat) (d:Nat) (hd:1≤d) (w:World) :
  Calls Tryz.prog 144 #[.slice A L c,.int .i64 d] w fun e w'=>e=.returned (.func (.func 161) #[] #[.pointer (some ⟨w.heap.size,0,none⟩),.pointer (some ⟨w.heap.size+1,0,none⟩)])∧w'=(w.alloc (.cells #[.slice A L c] 40)).alloc (.cells #[.int .i64 d] 3):=by
 have h1:¬ (d:Int) < 1:=by omega
 go_enter Tryz.func144,Tryz.ntmps144
 go_wp2_with fail
 go_ret
 exact⟨rfl,rfl⟩
end CLower
end
section
namespace CJoin
open Go Go.ChangeShapes Go.WideShapes Go.ChangeAt Go.RowKit Go.Shelf
attribute [local go_sem] Oper.semAt_some
theorem pairs_to (A B:Option Addr) (n c m d:Nat) (w:World) :
  Calls Tryz.prog 86 #[.slice A n c,.slice B m d] w fun e w'=>e=.returned (.func (.func 116) #[] #[.pointer (some ⟨w.heap.size,0,none⟩),.pointer (some ⟨w.heap.size+1,0,none⟩)])∧w'=(w.alloc (.cells #[.slice A n c] 25)).alloc (.cells #[.slice B m d] 25):=by
 go_enter Tryz.func86,Tryz.ntmps86
 go_wp2_with fail
 go_ret
 exact⟨rfl,rfl⟩
def KeepJ (n₀ P2:Nat) (A B:World):Prop:=Below n₀ A B∧B.cell? ⟨P2,0,none⟩=A.cell? ⟨P2,0,none⟩
theorem KeepJ.trans {n₀ P2:Nat} {A B C:World} (h:KeepJ n₀ P2 A B) (k:KeepJ n₀ P2 B C):KeepJ n₀ P2 A C:=⟨h.1.trans k.1,k.2.trans h.2⟩
theorem pairs_in (F:Fence) (n:Nat) (h8:F.fn 116) (hro:F.round=none) (hn:1≤n) (l P1 P2 n₀ b off b2 off2 len cap cap2:Nat) (zs ys:List Int) (hreach:len≤1000000) (hb:b < n₀) (hb2:b2 < n₀) (J Jx:List Nat→World→Prop)
  (hY:∀ pre x W,J pre W→pre.length < len→YieldAt F (n - 1) Tryz.prog l #[.int .i8 (zs.getD x 0),.int .i8 (ys.getD x 0)] W fun e W' =>
    (e=.returned (.bool true)∧J (pre ++ [x]) W'∧KeepJ n₀ P2 W W')∨(e=.returned (.bool false)∧Jx (pre ++ [x]) W'))
  (W:World) (hP1:W.cell? ⟨P1,0,none⟩=some (.slice (some ⟨b,off,none⟩) len cap)) (hP2:W.cell? ⟨P2,0,none⟩=some (.slice (some ⟨b2,off2,none⟩) len cap2))
  (hc:∀ j,j < len→W.cell? ⟨b,off+j,none⟩=some (.int .i8 (zs.getD j 0))) (hc2:∀ j,j < len→W.cell? ⟨b2,off2+j,none⟩=some (.int .i8 (ys.getD j 0))) (h0:J [] W) :
  CallsIn F n Tryz.prog 116 #[.func (.yield l) #[] #[],.pointer (some ⟨P1,0,none⟩),.pointer (some ⟨P2,0,none⟩)] W fun e W'=>(∃ v,e=.returned v) ∧
   ((∃ ls,ls=List.range len∧J ls W')∨(∃ pre,Jx pre W')):=by
 refine callsIn_of_wp Tryz.func116 rfl h8 ?_ hro
 simp only [Tryz.ntmps116,List.size_toArray,List.length_cons,List.length_nil,Nat.reduceAdd,Nat.reduceSub,Array.replicate_succ,Array.replicate_zero,List.push_toArray,List.append_toArray,List.nil_append,List.cons_append]
 have HY:=hid hY
 have HC:=hid hc
 have HC2:=hid hc2
 have HP2:=hid hP2
 clear hY hc hc2 hP2
 gi_wp2
 gi_loopw [8] (fun i wr=>∃ k:Nat,k≤len∧i=.int .i64 k∧Hid (J (List.range k) wr)∧Hid (KeepJ n₀ P2 W wr))
  (fun i _=>len - (intOf i).toNat)
 case atStart=>exact⟨0,Nat.zero_le _,rfl,hid h0,hid ⟨Below.refl _ _,rfl⟩⟩
 case round =>
  obtain⟨k,hk,rfl,hJs,hnx⟩:=hrel
  clear hP1
  by_cases hlt:k < len
  ·have hcx:=(hnx.out.1.cell (p:=⟨b,off+k,none⟩) hb).trans (HC.out k hlt)
   have hcy:=(hnx.out.1.cell (p:=⟨b2,off2+k,none⟩) hb2).trans (HC2.out k hlt)
   have hp2:=hnx.out.2.trans HP2.out
   obtain⟨fn,tmps,assign,body,hy,hR⟩:=HY.out _ k wr hJs.out (by rw [List.length_range];exact hlt)
   generalize zs.getD k 0=x at hcx hR hy
   generalize ys.getD k 0=y at hcy hR hy
   have hkI:(k:Int) < (len:Int):=by omega
   have hk0:(0:Int)≤(k:Int):=by omega
   gi_wp2
   refine hR.mono ?_
   rintro e W3 (⟨rfl,hJ3,hk3⟩ | ⟨rfl,hJx3⟩)
   ·-- the round goes on
    have HJ3:Hid (J (List.range (k+1)) W3):=hid (by rw [List.range_succ];exact hJ3)
    have HK3:=hid (hnx.out.trans hk3)
    clear hJ3 hk3 hcx hcy hp2 hy hR
    gi_wp2
    go_roundw
    case rel=>exact⟨k+1,by omega,by simp,HJ3,HK3⟩
    case measure=>simp [intOf];omega
   ·gi_wp2
    refine bodyPost_ret (results_none rfl _ _ _) rfl ?_
    exact⟨⟨_,rfl⟩,.inr ⟨_,hJx3⟩⟩
  ·obtain rfl:k=len:=by omega
   gi_wp2
   go_end0
   exact⟨⟨_,rfl⟩,.inl ⟨_,rfl,hJs.out⟩⟩
theorem seq_pairs (F:Fence) (n:Nat) (h8:F.fn 116) (hro:F.round=none) (hn:1≤n) (P1 P2 n₀:Nat) (A B:Option Addr) (c d N:Nat) (zs ys:List Int) (hz:zs.length=N) (hy:ys.length=N) (hN:1≤N) (hreach:N≤1000000) (w:World) (l1:P1 < w.heap.size) (l2:P2 < w.heap.size) (hn₀:n₀≤w.heap.size)
  (hP1:w.cell? ⟨P1,0,none⟩=some (.slice A N c)) (hP2:w.cell? ⟨P2,0,none⟩=some (.slice B N d)) (hA:Kit.Rd w n₀ A (zs.map (.int .i8))) (hB:Kit.Rd w n₀ B (ys.map (.int .i8))) :
  SeqStopsK F n Tryz.prog 116 #[.pointer (some ⟨P1,0,none⟩),.pointer (some ⟨P2,0,none⟩)] (fun x:Nat=>#[Value.int .i8 (zs.getD x 0),Value.int .i8 (ys.getD x 0)]) (KeepJ n₀ P2) (fun ls=>ls=List.range N)
   (fun _=>True) N w:=by
 intro l J Jx W hW _ _ hY h0
 have c1:=(hW.cell (p:=⟨P1,0,none⟩) l1).trans hP1
 have c2:=(hW.cell (p:=⟨P2,0,none⟩) l2).trans hP2
 have hA':=hA.below (hW.mono hn₀)
 have hB':=hB.below (hW.mono hn₀)
 obtain⟨b,off,rfl,hb,hx⟩:=hA'.plain (by rw [List.length_map];omega)
 obtain⟨b2,off2,rfl,hb2,hx2⟩:=hB'.plain (by rw [List.length_map];omega)
 have hcx:∀ j,j < N→W.cell? ⟨b,off+j,none⟩=some (.int .i8 (zs.getD j 0)):=fun j hj=>hx j _ (by rw [List.getElem?_map,List.getD_eq_getElem?_getD,List.getElem?_eq_getElem (by omega)];rfl)
 have hcy:∀ j,j < N→W.cell? ⟨b2,off2+j,none⟩=some (.int .i8 (ys.getD j 0)):=fun j hj=>hx2 j _ (by rw [List.getElem?_map,List.getD_eq_getElem?_getD,List.getElem?_eq_getElem (by omega)];rfl)
 refine (pairs_in F n h8 hro hn l P1 P2 n₀ b off b2 off2 N c d zs ys hreach hb hb2 J Jx hY W c1 c2 hcx hcy h0).mono ?_
 rintro e W' ⟨he,(⟨ls,rfl,hj⟩ | ⟨pre,hj⟩)⟩
 ·exact⟨he,.inl ⟨_,rfl,hj⟩⟩
 ·exact⟨he,.inr ⟨_,trivial,hj⟩⟩
end CJoin
end
end Go.Proofs.YtahekhpeomcfjaaGreatDoor
