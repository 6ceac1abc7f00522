/- -/
import Derived.Test.YtfgdfignoakkaaaGreatDoorGBT23
import Derived.Test.YtfgdfignoakkaaaGreatDoorGBT25
open Go.Lib (hid)
open Nat (le_refl lt_of_succ_lt lt_succ_self)
set_option linter.unusedVariables false
set_option linter.unusedSimpArgs false
set_option maxRecDepth 100000
set_option maxHeartbeats 16000000
namespace Go.Proofs.YtfgdfignoakkaaaGreatDoor
namespace CConv
end CConv
namespace CFix
end CFix
namespace CJoin
end CJoin
namespace CSat
end CSat
namespace CShape
end CShape
namespace CTensor
end CTensor
open Go Go.ChangeShapes Go.WideShapes Go.ChangeAt Go.RowKit Go.Deep
section
namespace CSpan
open Plain CSat CFix CShape CTensor CConv CJoin
theorem pair_ext {l:List Value} {P Q:Nat→Int} {n:Nat} (hl:l.length=n * 2) (h:∀ k,k < n→l[k * 2]?=some (.int .i64 (P k))∧l[k * 2+1]?=some (.int .i64 (Q k))):l=pairV P Q n:=by
 apply List.ext_getElem?
 intro j
 by_cases hj:j < n * 2
 ·obtain⟨k,hk⟩:∃ k,j / 2=k:=⟨_,rfl⟩
  have hkn:k < n:=by omega
  obtain⟨p1,p2⟩:=zbu P Q hkn
  obtain⟨q1,q2⟩:=h k hkn
  rcases Nat.mod_two_eq_zero_or_one j with e | e
  ·obtain rfl:j=k * 2:=by omega
   rw [p1,q1]
  ·obtain rfl:j=k * 2+1:=by omega
   rw [p2,q2]
 ·rw [List.getElem?_eq_none (by omega),List.getElem?_eq_none (by rw [pairV_len];omega)]
def madeR (F:Nat→Int) (o i:Nat):Int:=if i < o then F i else 0
theorem pair_zero (P Q:Nat→Int) (n:Nat):(madeCells #[Value.int .i64 0,Value.int .i64 0] (n * 2)).toList=pairV (madeR P 0) (madeR Q 0) n:=by
 refine pair_ext (by simp [madeCells]) fun k hk=>?_
 have h1:k * 2 < n * 2:=by omega
 have h2:k * 2+1 < n * 2:=by omega
 have e2:(k * 2+1) % 2=1:=by omega
 refine⟨?_,?_⟩ <;> simp [madeCells,madeR,h1,h2,e2]
theorem pair_all (P Q:Nat→Int) (n:Nat):pairV (madeR P n) (madeR Q n) n=pairV P Q n :=
 pair_ext (pairV_len _ _ _) fun k hk=>by
  obtain⟨p1,p2⟩:=zbu (madeR P n) (madeR Q n) hk
  rw [p1,p2]
  simp [madeR,hk]
theorem pair_set (P Q:Nat→Int) {n o:Nat} (X Y:Int) (hX:P o=X) (hY:Q o=Y) (ho:o < n):((pairV (madeR P o) (madeR Q o) n).set (o * 2) (.int .i64 X)).set (o * 2+1) (.int .i64 Y)=pairV (madeR P (o+1)) (madeR Q (o+1)) n:=by
 have hl:=pairV_len (madeR P o) (madeR Q o) n
 refine pair_ext (by simp [hl]) fun k hk=>?_
 obtain⟨p1,p2⟩:=zbu (madeR P o) (madeR Q o) hk
 by_cases e:o=k
 ·subst e
  refine⟨?_,?_⟩
  ·rw [List.getElem?_set_ne (by omega),List.getElem?_set_self (by omega)]
   simp [madeR,hX]
  ·rw [List.getElem?_set_self (by simp;omega)]
   simp [madeR,hY]
 ·refine⟨?_,?_⟩
  ·rw [List.getElem?_set_ne (by omega),List.getElem?_set_ne (by omega),p1]
   by_cases h:k < o
   ·simp [madeR,h,show k < o+1 by omega]
   ·simp [madeR,h,show ¬ k < o+1 by omega]
  ·rw [List.getElem?_set_ne (by omega),List.getElem?_set_ne (by omega),p2]
   by_cases h:k < o
   ·simp [madeR,h,show k < o+1 by omega]
   ·simp [madeR,h,show ¬ k < o+1 by omega]
theorem info_rng:(Tryz.prog.info? 264).map (fun i=>(i.zero,i.size,i.bytes))=some (some (.agg #[.int .i64 0,.int .i64 0]),2,16):=by kernel_rfl
theorem info_partsR {P:Program} {t:TypeId} {z:Option Value} {s b:Nat} (h:(P.info? t).map (fun i=>(i.zero,i.size,i.bytes))=some (z,s,b)):∃ i,P.info? t=some i∧i.zero=z∧i.size=s∧i.bytes=b:=by
 cases hi:P.info? t with
 | none=>rw [hi] at h;cases h
 | some i=>rw [hi] at h;simp at h;exact⟨i,rfl,h.1,h.2.1,h.2.2⟩
theorem rd_nilS (w:World) (B:Nat) (A:Option Addr):Kit.Rd w B A (I8s []):=fun j u h=>by simp [I8s] at h
theorem i8s_dropR (zs:List Int) (k:Nat):(I8s zs).drop k=I8s (zs.drop k):=by simp [I8s,List.map_drop]
theorem i8s_takeR (zs:List Int) (k:Nat):(I8s zs).take k=I8s (zs.take k):=by simp [I8s,List.map_take]
theorem own_lt {w:World} {base g:Nat} {e:TypeId} {size n c:Nat} {xs:List Value} (h:w.ownsRow base e size (.slice (some ⟨g,0,none⟩) n c) n xs):g < w.heap.size:=by
 rcases h.2 with ⟨h',_⟩ | ⟨g',cap',cur,h',_,hg,_⟩
 ·simp at h'
 ·simp only [Value.slice.injEq,Option.some.injEq,Addr.mk.injEq,and_true,true_and] at h'
  obtain⟨rfl,rfl⟩:=h'
  exact (Array.getElem?_eq_some_iff.1 hg).1
theorem apart2 {w:World} {g g':Nat} {vs:List Value} (h:w.rangeAt g 0 vs) (hg:g≠g') (i j:Nat) (u v:Value):((w.setCell ⟨g',i,none⟩ u).setCell ⟨g',j,none⟩ v).rangeAt g 0 vs:=fun k x hk=>by
 have n1:∀ i,(⟨g,0+k,none⟩:Addr)≠⟨g',i,none⟩:=fun i e=>hg (by injection e)
 rw [World.cell?_setCell_other _ _ _ _ (n1 j).symm,World.cell?_setCell_other _ _ _ _ (n1 i).symm]
 exact h k x hk
theorem call_no (x0 x1 x2:Value) (K S P O Z Y:Int) (WA BA:Option Addr) (nW cW nB cB:Nat) (m1 s1 z1 m2 s2 z2 nlo nhi:Int) (lo hi:Int) (hB:nB=0∨nW % nB≠0) (hB2:nB≤1000000) (hW2:nW≤1000000) (w:World) :
  Calls Tryz.prog 151 #[.agg #[x0,x1,x2,.int .i64 K,.int .i64 S,.int .i64 P,.int .i64 O,.int .i8 Z,.int .i8 Y,.slice WA nW cW,.slice BA nB cB,.int .i32 m1,.int .i64 s1,.int .i8 z1,.int .i32 m2,.int .i64 s2,.int .i8 z2,.int .i8 nlo,.int .i8 nhi],.int .i8 lo,.int .i8 hi] w fun e w'=>∃ A c,e=.returned (.slice A 0 c)∧Below w.heap.size w w':=by
 have TN:=hid (zat.new x0 x1 x2 (.int .i8 Y) (.int .i32 m1) (.int .i64 s1) (.int .i8 z1) (.int .i32 m2) (.int .i64 s2) (.int .i8 z2) (.int .i8 nlo) (.int .i8 nhi) K S P O Z WA BA nW cW nB cB 54 w)
 have HB:=hid ((Below.refl w.heap.size w).alloc (le_refl _) (.cells #[x0,x1,x2,.int .i64 K,.int .i64 S,.int .i64 P,.int .i64 O,.int .i8 Z,.int .i8 Y,.slice WA nW cW,.slice BA nB cB,.int .i32 m1,.int .i64 s1,.int .i8 z1,.int .i32 m2,.int .i64 s2,.int .i8 z2,.int .i8 nlo,.int .i8 nhi] 54))
 by_cases h0:nB=0
 ·subst h0
  clear hB
  go_enter Tryz.func151,Tryz.ntmps151
  go_upto_region 1 with fail
  generalize (w.alloc (.cells #[x0,x1,x2,.int .i64 K,.int .i64 S,.int .i64 P,.int .i64 O,.int .i8 Z,.int .i8 Y,.slice WA nW cW,.slice BA 0 cB,.int .i32 m1,.int .i64 s1,.int .i8 z1,.int .i32 m2,.int .i64 s2,.int .i8 z2,.int .i8 nlo,.int .i8 nhi] 54))=W0 at TN HB ⊢
  have n9:=TN.out.at 9 _ rfl
  have n10:=TN.out.at 10 _ rfl
  go_wp2_with fail
  go_ret
  exact⟨_,_,rfl,HB.out⟩
 ·have hno:nW % nB≠0:=by omega
  have fz0:((nB:Int) == 0)=false:=by simp;omega
  have fz1:¬ (nB:Int)=0:=by omega
  obtain⟨r,hr⟩:∃ r,nW % nB=r:=⟨_,rfl⟩
  have fz2:(nW:Int).tmod (nB:Int)=(r:Int):=by rw [Int.tmod_eq_emod_of_nonneg (by omega), ← hr];simp
  have fz3:IntKind.i64.wrap (r:Int)=(r:Int):=IntWalk.i64_in _ (by have:=Nat.mod_lt nW (show 0 < nB by omega);omega)
  have fz4:((r:Int) != 0)=true:=by simp;omega
  have fz5:((r:Int) == 0)=false:=by simp;omega
  clear hno h0 hr hB
  go_enter Tryz.func151,Tryz.ntmps151
  go_upto_region 1 with fail
  generalize (w.alloc (.cells #[x0,x1,x2,.int .i64 K,.int .i64 S,.int .i64 P,.int .i64 O,.int .i8 Z,.int .i8 Y,.slice WA nW cW,.slice BA nB cB,.int .i32 m1,.int .i64 s1,.int .i8 z1,.int .i32 m2,.int .i64 s2,.int .i8 z2,.int .i8 nlo,.int .i8 nhi] 54))=W0 at TN HB ⊢
  have n9:=TN.out.at 9 _ rfl
  have n10:=TN.out.at 10 _ rfl
  go_wp2_with fail
  go_ret
  exact⟨_,_,rfl,HB.out⟩
theorem call_yes0 (x0 x1 x2:Value) (K S P O Z Y:Int) (WA BA:Option Addr) (nW cW nB cB:Nat) (m1 s1 z1 m2 s2 z2 nlo nhi:Int) (ws bs:List Int) (hws:ws.length=nW) (hbs:bs.length=nB) (hwb:I8b ws) (hbb:∀ q, -2147483648≤bs.getD q 0∧bs.getD q 0≤2147483647) (hcw:nW≤cW) (hcb:nB≤cB) (lo hi:Int) (l1 : -128≤lo) (l2:lo≤127) (h1 : -128≤hi) (h2:hi≤127) (z1' : -128≤Z) (z2':Z≤127)
  (each:Nat) (hE0:each=0) (hB:1≤nB) (he:each * nB=nW) (hB2:nB≤1000000) (hW2:nW≤1000000) (g:Bool) (hg:decide (P > 0)=g) (w:World) (hrw:Kit.Rd w w.heap.size WA (I8s ws)) (hrb:Kit.Rd w w.heap.size BA (I32v bs)) :
  Calls Tryz.prog 151 #[.agg #[x0,x1,x2,.int .i64 K,.int .i64 S,.int .i64 P,.int .i64 O,.int .i8 Z,.int .i8 Y,.slice WA nW cW,.slice BA nB cB,.int .i32 m1,.int .i64 s1,.int .i8 z1,.int .i32 m2,.int .i64 s2,.int .i8 z2,.int .i8 nlo,.int .i8 nhi],.int .i8 lo,.int .i8 hi] w fun e w'=>∃ v,e=.returned v∧w'.ownsRow w.heap.size 264 2 v nB (pairV (rowP ws bs lo hi Z g each) (rowQ ws bs lo hi Z g each) nB)∧Below w.heap.size w w':=by
 have hPQ:=fun o=>rowPQ_bd hwb hbb l1 l2 h1 h2 z1' z2' g (each:=each) (by have:=Nat.le_mul_of_pos_right each hB;omega) o
 have heW:each≤nW:=by rw [← he];exact Nat.le_mul_of_pos_right each hB
 have TN:=hid (zat.new x0 x1 x2 (.int .i8 Y) (.int .i32 m1) (.int .i64 s1) (.int .i8 z1) (.int .i32 m2) (.int .i64 s2) (.int .i8 z2) (.int .i8 nlo) (.int .i8 nhi) K S P O Z WA BA nW cW nB cB 54 w)
 have HB:=hid ((Below.refl w.heap.size w).alloc (le_refl _) (.cells #[x0,x1,x2,.int .i64 K,.int .i64 S,.int .i64 P,.int .i64 O,.int .i8 Z,.int .i8 Y,.slice WA nW cW,.slice BA nB cB,.int .i32 m1,.int .i64 s1,.int .i8 z1,.int .i32 m2,.int .i64 s2,.int .i8 z2,.int .i8 nlo,.int .i8 nhi] 54))
 have HSZ:Hid ((w.alloc (.cells #[x0,x1,x2,.int .i64 K,.int .i64 S,.int .i64 P,.int .i64 O,.int .i8 Z,.int .i8 Y,.slice WA nW cW,.slice BA nB cB,.int .i32 m1,.int .i64 s1,.int .i8 z1,.int .i32 m2,.int .i64 s2,.int .i8 z2,.int .i8 nlo,.int .i8 nhi] 54)).heap.size=w.heap.size+1):=hid (by simp)
 have HWS:=hid hws
 have HBS:=hid hbs
 have HWB:=hid hwb
 have HBB:=hid hbb
 have HG:=hid hg
 have HE:=hid he
 have HRW:=hid hrw
 have HRB:=hid hrb
 have HE1:=hid hE0
 have fz0:((nB:Int) == 0)=false:=by simp;omega
 have fz1:¬ (nB:Int)=0:=by omega
 have fz2:(nW:Int).tmod (nB:Int)=0:=by rw [Int.tmod_eq_emod_of_nonneg (by omega), ← he];simp
 have fz3:(nW:Int).tdiv (nB:Int)=(each:Int):=by rw [Int.tdiv_eq_ediv_of_nonneg (by omega), ← he];simp;rw [Int.mul_ediv_cancel _ fz1]
 have fz4:IntKind.i64.wrap (each:Int)=(each:Int):=IntWalk.i64_in _ (by omega)
 clear hws hbs hwb hbb hg he hrw hrb hE0
 obtain⟨i0,hi0,hi1,hi2,hi3⟩:=info_partsR info_rng
 go_enter Tryz.func151,Tryz.ntmps151
 go_upto_region 1 with fail
 generalize (w.alloc (.cells #[x0,x1,x2,.int .i64 K,.int .i64 S,.int .i64 P,.int .i64 O,.int .i8 Z,.int .i8 Y,.slice WA nW cW,.slice BA nB cB,.int .i32 m1,.int .i64 s1,.int .i8 z1,.int .i32 m2,.int .i64 s2,.int .i8 z2,.int .i8 nlo,.int .i8 nhi] 54))=W0 at TN HB HSZ ⊢
 have n9:=TN.out.at 9 _ rfl
 have n10:=TN.out.at 10 _ rfl
 go_upto_region 4 with fail
 clear fz0 fz2 fz3 fz4
 have hz0:=HSZ.out
 go_upto_region 5 with (at_make;refine wpList_make_full _ rfl (.tmp 34) (.tmp 34) _ rfl (w.heap.size+1) 264 i0 (.agg #[.int .i64 0,.int .i64 0]) 2 Tryz.underlying248 hi0 hi1 hi2 .i64 .i64 _ _ nB rfl rfl rfl rfl (by rw [hi3];omega) (by unfold maxLen;omega) (by omega) ?_;intro w2 hown hg2)
 rw [show (madeCells (Value.agg #[Value.int .i64 0,Value.int .i64 0]).cells (nB * 2)).toList=pairV (madeR (rowP ws bs lo hi Z g each) 0) (madeR (rowQ ws bs lo hi Z g each) 0) nB from pair_zero _ _ nB] at hown
 have hb2:Below (w.heap.size+1) W0 w2:=(Below.refl _ _).grown hg2 (by omega) (fun q hq=>by cases hq)
 have TN2:=hid (TN.out.below (lt_succ_self _) hb2)
 have HB2:=hid (HB.out.trans (hb2.mono (Nat.le_succ _)))
 have HO2:=hid hown
 rw [hz0] at HO2
 have HS2:Hid (w.heap.size+1 < w2.heap.size):=hid (own_lt HO2.out)
 clear hown hb2 hg2 TN HB HSZ n9 n10 hi0 hi1 hi2 hi3
 have n10:=TN2.out.at 10 _ rfl
 go_wp2_with fail
 clear n10 hz0
 go_loopw [39] (fun u wr=>∃ o:Nat,o≤nB∧u=.int .i64 o∧Hid (zat w.heap.size x0 x1 x2 (.int .i8 Y) (.int .i32 m1) (.int .i64 s1) (.int .i8 z1) (.int .i32 m2) (.int .i64 s2) (.int .i8 z2) (.int .i8 nlo) (.int .i8 nhi) K S P O Z WA BA nW cW nB cB wr)∧Hid (wr.ownsRow (w.heap.size+1) 264 2 (.slice (some ⟨w.heap.size+1,0,none⟩) nB nB) nB (pairV (madeR (rowP ws bs lo hi Z g each) o) (madeR (rowQ ws bs lo hi Z g each) o) nB))∧Hid (Below w.heap.size w wr)∧Hid (w.heap.size+1 < wr.heap.size)) (fun u _=>nB - (intOf u).toNat)
 case atStart=>exact⟨0,Nat.zero_le _,rfl,TN2,HO2,HB2,HS2⟩
 case round =>
  obtain⟨o,ho,rfl,TN,HO,HB,HS⟩:=hrel
  clear TN2 HO2 HB2 HS2
  by_cases hlt:o < nB
  ·obtain⟨bb,ob,rfl,hbb,hcb0⟩:=ints_getD HRB.out (j:=0) (by have:=HBS.out;omega)
   have hcx:=(HB.out.cell (p:=⟨bb,ob+o,none⟩) hbb).trans (hcb0 o (by have:=HBS.out;omega))
   have hlen:=wsOf_len HWS.out HE.out hlt
   have hq3:o * each+each≤nW:=by
    rw [← HE.out,Nat.mul_comm each nB]
    have:=Nat.mul_le_mul_right each (show o+1≤nB by omega)
    rwa [Nat.add_mul,Nat.one_mul] at this
   have hnil:wsOf ws each o=[]:=List.eq_nil_of_length_eq_zero (by have:=HE1.out;omega)
   have hbd:=HBB.out o
   obtain⟨qs,hqs⟩:∃ qs,o * each=qs:=⟨_,rfl⟩
   obtain⟨qe,hqe⟩:∃ qe,qs+each=qe:=⟨_,rfl⟩
   have hm1':IntKind.i64.wrap ((o:Int) * (each:Int))=(qs:Int):=by rw [← Int.natCast_mul,hqs];exact IntWalk.i64_in _ (by omega)
   have hm2':IntKind.i64.wrap (((o:Int)+1) * (each:Int))=(qe:Int):=by
    have:((o:Int)+1) * (each:Int)=(qe:Int):=by rw [Int.add_mul,Int.one_mul, ← Int.natCast_mul,hqs, ← hqe];simp
    rw [this];exact IntWalk.i64_in _ (by omega)
   have hm3':IntKind.i64.wrap ((o:Int)+1)=(o:Int)+1:=IntWalk.i64_in _ (by omega)
   have hqd:qe - qs=each:=by omega
   have p7:(qs:Int)≤(qe:Int):=by omega
   have p8:(qe:Int)≤(cW:Int):=by omega
   have p9:(0:Int)≤(qs:Int):=by omega
   have p10:qs≤qe:=by omega
   have p11:qe≤cW:=by omega
   have o0:(0:Int)≤(o:Int):=by omega
   have o1:(o:Int) < (nB:Int):=by omega
   have hP':bs.getD o 0+psum (dnF (wsOf ws each o) lo hi Z g) each=rowP ws bs lo hi Z g each o:=rfl
   have hQ':bs.getD o 0+psum (upF (wsOf ws each o) lo hi Z g) each=rowQ ws bs lo hi Z g each o:=rfl
   have hrc:=fun (A9:Option Addr) (c9:Nat) (w:World)=>crow_to A9 (wsOf ws each o) each c9 hlen (by omega) (wsOf_I8b HWB.out each o) (bs.getD o 0) lo hi Z hbd.1 hbd.2 l1 l2 h1 h2 z1' z2' g _ _ hP' hQ' w (by rw [hnil];exact rd_nilS _ _ _)
   have hgd:decide (P > 0)=g:=HG.out
   have hgd2:decide (0 < P)=g:=HG.out
   obtain⟨X,hX⟩:∃ X,rowP ws bs lo hi Z g each o=X:=⟨_,rfl⟩
   obtain⟨Y',hY⟩:∃ Y',rowQ ws bs lo hi Z g each o=Y':=⟨_,rfl⟩
   have HXX:=hid hX
   have HYY:=hid hY
   rw [hX,hY] at hrc
   have hset:=hid (pair_set (rowP ws bs lo hi Z g each) (rowQ ws bs lo hi Z g each) X Y' hX hY hlt)
   generalize bs.getD o 0=bo at *
   have HRC:=hid hrc
   clear hrc hcb0 hlen hbd hP' hQ' hqe hX hY
   go_upto_region 8 with fail
   refine wp_region_held_drew (S:=fun w'=>zat w.heap.size x0 x1 x2 (.int .i8 Y) (.int .i32 m1) (.int .i64 s1) (.int .i8 z1) (.int .i32 m2) (.int .i64 s2) (.int .i8 z2) (.int .i8 nlo) (.int .i8 nhi) K S P O Z WA (some ⟨bb,ob,none⟩) nW cW nB cB w') (by kernel_rfl) TN.out (fun hHeld=>?_)
   have HO1:=hid (show wr.drew.ownsRow (w.heap.size+1) 264 2 (.slice (some ⟨w.heap.size+1,0,none⟩) nB nB) nB (pairV (madeR (rowP ws bs lo hi Z g each) o) (madeR (rowQ ws bs lo hi Z g each) o) nB) from HO.out)
   have HB1:=hid HB.out.drew
   have HS1:Hid (w.heap.size+1 < wr.drew.heap.size):=hid HS.out
   clear TN HO HB HS hcx
   generalize wr.drew=W1 at HO1 HB1 HS1 hHeld ⊢
   refine Tk.x 0 rfl ?_
   try simp only [Tk.put]
   refine Tk.x 1 rfl ?_
   try simp only [Tk.put]
   refine Tk.x 2 rfl ?_
   try simp only [Tk.put]
   refine Tk.y 3 (v:=?_) rfl ?_ ?_
   rotate_left
   ·intro wS hSw
    have q0:=hSw.at 9 _ rfl
    clear hSw
    first | (go_simp;done) | (go_simp;with_reducible rfl)
   try simp only [Tk.put]
   refine Tk.x 4 rfl ?_
   try simp only [Tk.put]
   refine Tk.x 5 rfl ?_
   try simp only [Tk.put]
   refine Tk.x 6 rfl ?_
   try simp only [Tk.put]
   refine Tk.x 7 rfl ?_
   try simp only [Tk.put]
   refine Tk.x 8 rfl ?_
   try simp only [Tk.put]
   refine Tk.x 9 rfl ?_
   try simp only [Tk.put]
   refine Tk.x 10 rfl ?_
   try simp only [Tk.put]
   refine Tk.x 11 rfl ?_
   try simp only [Tk.put]
   refine Tk.x 12 rfl ?_
   try simp only [Tk.put]
   refine Tk.x 13 rfl ?_
   try simp only [Tk.put]
   refine Tk.x 14 rfl ?_
   try simp only [Tk.put]
   refine Tk.x 15 rfl ?_
   try simp only [Tk.put]
   refine Tk.y 16 (v:=?_) rfl ?_ ?_
   rotate_left
   ·intro wS hSw
    have q0:=hSw.at 7 _ rfl
    clear hSw
    first | (go_simp;done) | (go_simp;with_reducible rfl)
   try simp only [Tk.put]
   refine Tk.x 17 rfl ?_
   try simp only [Tk.put]
   refine Tk.y 18 (v:=?_) rfl ?_ ?_
   rotate_left
   ·intro wS hSw
    have q0:=hSw.at 5 _ rfl
    clear hSw
    first | (go_simp;done) | (go_simp;with_reducible rfl)
   try simp only [Tk.put]
   refine Tk.x 19 rfl ?_
   try simp only [Tk.put]
   refine Tk.s 20 rfl (fun Kq hK=>?_)
   go_simp
   go_at_call 172
   refine (HRC.out _ _ _).mono ?_
   rintro e W2 ⟨rfl,hb1⟩
   have hS1:zat w.heap.size x0 x1 x2 (.int .i8 Y) (.int .i32 m1) (.int .i64 s1) (.int .i8 z1) (.int .i32 m2) (.int .i64 s2) (.int .i8 z2) (.int .i8 nlo) (.int .i8 nhi) K S P O Z WA (some ⟨bb,ob,none⟩) nW cW nB cB W2:=hHeld.below (Nat.lt_trans (lt_succ_self _) HS1.out) hb1
   have HO2:=hid (Kit.own_below HO1.out hb1)
   have HB2:=hid (HB1.out.trans (hb1.mono HB1.out.size))
   have HS2:=hid (Nat.lt_of_lt_of_le HS1.out hb1.size)
   clear hHeld hb1 HO1 HB1 HS1
   dsimp only
   refine hK.out _ _ ?_ (fun hHeld=>?_)
   ·exact hS1
   clear hK Kq
   try simp only [Tk.put]
   refine Tk.x 21 rfl ?_
   try simp only [Tk.put]
   have kA:=HO2.out.cellAt (o * 2) (by omega)
   have kB:=HO2.out.cellAt (o * 2+1) (by omega)
   rw [(zbu _ _ hlt).1] at kA
   rw [(zbu _ _ hlt).2] at kB
   have fA:=HO2.out.frozenAt (o * 2)
   have fB:=HO2.out.frozenAt (o * 2+1)
   generalize madeR (rowP ws bs lo hi Z g each) o o=ya at kA
   generalize madeR (rowQ ws bs lo hi Z g each) o o=yb at kB
   refine Tk.s 22 rfl (fun Kq hK=>?_)
   go_simp
   refine hK.out _ _ ?_ (fun hHeld=>?_)
   ·exact apart2 hHeld (by omega) _ _ _ _
   clear hK Kq
   try simp only [Tk.put]
   have hst:=(((HO2.out.stored (o * 2) (.int .i64 X)).1).stored (o * 2+1) (.int .i64 Y')).1
   rw [hset.out] at hst
   have HO3:=hid hst
   have HB3:=hid ((HB2.out.setCell (p:=⟨w.heap.size+1,o * 2,none⟩) (Nat.le_succ _) (.int .i64 X)).setCell (p:=⟨w.heap.size+1,o * 2+1,none⟩) (Nat.le_succ _) (.int .i64 Y'))
   have HS3:Hid (w.heap.size+1 < ((W2.setCell ⟨w.heap.size+1,o * 2,none⟩ (.int .i64 X)).setCell ⟨w.heap.size+1,o * 2+1,none⟩ (.int .i64 Y')).heap.size):=hid (by have:=HS2.out;simpa using this)
   clear hst HO2 HB2 HS2 kA kB fA fB
   generalize (W2.setCell ⟨w.heap.size+1,o * 2,none⟩ (.int .i64 X)).setCell ⟨w.heap.size+1,o * 2+1,none⟩ (.int .i64 Y')=W3 at HO3 HB3 HS3 hHeld ⊢
   refine wpAnyH_done (by kernel_rfl) ?_ _
   go_wp2_with fail
   go_roundw
   case rel=>exact⟨o+1,by omega,by go_num,hid hHeld,HO3,HB3,HS3⟩
   case measure=>simp [intOf];omega
  ·obtain rfl:o=nB:=by omega
   have hfin:=HO.out
   rw [pair_all] at hfin
   have HFI:=hid hfin
   clear hfin
   go_wp2_with fail
   go_ret
   exact⟨_,rfl,Kit.zb3 HFI.out (Nat.le_succ _),HB.out⟩
theorem call_yes1 (x0 x1 x2:Value) (K S P O Z Y:Int) (WA BA:Option Addr) (nW cW nB cB:Nat) (m1 s1 z1 m2 s2 z2 nlo nhi:Int) (ws bs:List Int) (hws:ws.length=nW) (hbs:bs.length=nB) (hwb:I8b ws) (hbb:∀ q, -2147483648≤bs.getD q 0∧bs.getD q 0≤2147483647) (hcw:nW≤cW) (hcb:nB≤cB) (lo hi:Int) (l1 : -128≤lo) (l2:lo≤127) (h1 : -128≤hi) (h2:hi≤127) (z1' : -128≤Z) (z2':Z≤127)
  (each:Nat) (hE1:1≤each) (hB:1≤nB) (he:each * nB=nW) (hB2:nB≤1000000) (hW2:nW≤1000000) (g:Bool) (hg:decide (P > 0)=g) (w:World) (hrw:Kit.Rd w w.heap.size WA (I8s ws)) (hrb:Kit.Rd w w.heap.size BA (I32v bs)) :
  Calls Tryz.prog 151 #[.agg #[x0,x1,x2,.int .i64 K,.int .i64 S,.int .i64 P,.int .i64 O,.int .i8 Z,.int .i8 Y,.slice WA nW cW,.slice BA nB cB,.int .i32 m1,.int .i64 s1,.int .i8 z1,.int .i32 m2,.int .i64 s2,.int .i8 z2,.int .i8 nlo,.int .i8 nhi],.int .i8 lo,.int .i8 hi] w fun e w'=>∃ v,e=.returned v∧w'.ownsRow w.heap.size 264 2 v nB (pairV (rowP ws bs lo hi Z g each) (rowQ ws bs lo hi Z g each) nB)∧Below w.heap.size w w':=by
 have hPQ:=fun o=>rowPQ_bd hwb hbb l1 l2 h1 h2 z1' z2' g (each:=each) (by have:=Nat.le_mul_of_pos_right each hB;omega) o
 have heW:each≤nW:=by rw [← he];exact Nat.le_mul_of_pos_right each hB
 have TN:=hid (zat.new x0 x1 x2 (.int .i8 Y) (.int .i32 m1) (.int .i64 s1) (.int .i8 z1) (.int .i32 m2) (.int .i64 s2) (.int .i8 z2) (.int .i8 nlo) (.int .i8 nhi) K S P O Z WA BA nW cW nB cB 54 w)
 have HB:=hid ((Below.refl w.heap.size w).alloc (le_refl _) (.cells #[x0,x1,x2,.int .i64 K,.int .i64 S,.int .i64 P,.int .i64 O,.int .i8 Z,.int .i8 Y,.slice WA nW cW,.slice BA nB cB,.int .i32 m1,.int .i64 s1,.int .i8 z1,.int .i32 m2,.int .i64 s2,.int .i8 z2,.int .i8 nlo,.int .i8 nhi] 54))
 have HSZ:Hid ((w.alloc (.cells #[x0,x1,x2,.int .i64 K,.int .i64 S,.int .i64 P,.int .i64 O,.int .i8 Z,.int .i8 Y,.slice WA nW cW,.slice BA nB cB,.int .i32 m1,.int .i64 s1,.int .i8 z1,.int .i32 m2,.int .i64 s2,.int .i8 z2,.int .i8 nlo,.int .i8 nhi] 54)).heap.size=w.heap.size+1):=hid (by simp)
 have HWS:=hid hws
 have HBS:=hid hbs
 have HWB:=hid hwb
 have HBB:=hid hbb
 have HG:=hid hg
 have HE:=hid he
 have HRW:=hid hrw
 have HRB:=hid hrb
 have HE1:=hid hE1
 have fz0:((nB:Int) == 0)=false:=by simp;omega
 have fz1:¬ (nB:Int)=0:=by omega
 have fz2:(nW:Int).tmod (nB:Int)=0:=by rw [Int.tmod_eq_emod_of_nonneg (by omega), ← he];simp
 have fz3:(nW:Int).tdiv (nB:Int)=(each:Int):=by rw [Int.tdiv_eq_ediv_of_nonneg (by omega), ← he];simp;rw [Int.mul_ediv_cancel _ fz1]
 have fz4:IntKind.i64.wrap (each:Int)=(each:Int):=IntWalk.i64_in _ (by omega)
 clear hws hbs hwb hbb hg he hrw hrb
 obtain⟨i0,hi0,hi1,hi2,hi3⟩:=info_partsR info_rng
 go_enter Tryz.func151,Tryz.ntmps151
 go_upto_region 1 with fail
 generalize (w.alloc (.cells #[x0,x1,x2,.int .i64 K,.int .i64 S,.int .i64 P,.int .i64 O,.int .i8 Z,.int .i8 Y,.slice WA nW cW,.slice BA nB cB,.int .i32 m1,.int .i64 s1,.int .i8 z1,.int .i32 m2,.int .i64 s2,.int .i8 z2,.int .i8 nlo,.int .i8 nhi] 54))=W0 at TN HB HSZ ⊢
 have n9:=TN.out.at 9 _ rfl
 have n10:=TN.out.at 10 _ rfl
 go_upto_region 4 with fail
 clear fz0 fz2 fz3 fz4
 have hz0:=HSZ.out
 go_upto_region 5 with (at_make;refine wpList_make_full _ rfl (.tmp 34) (.tmp 34) _ rfl (w.heap.size+1) 264 i0 (.agg #[.int .i64 0,.int .i64 0]) 2 Tryz.underlying248 hi0 hi1 hi2 .i64 .i64 _ _ nB rfl rfl rfl rfl (by rw [hi3];omega) (by unfold maxLen;omega) (by omega) ?_;intro w2 hown hg2)
 rw [show (madeCells (Value.agg #[Value.int .i64 0,Value.int .i64 0]).cells (nB * 2)).toList=pairV (madeR (rowP ws bs lo hi Z g each) 0) (madeR (rowQ ws bs lo hi Z g each) 0) nB from pair_zero _ _ nB] at hown
 have hb2:Below (w.heap.size+1) W0 w2:=(Below.refl _ _).grown hg2 (by omega) (fun q hq=>by cases hq)
 have TN2:=hid (TN.out.below (lt_succ_self _) hb2)
 have HB2:=hid (HB.out.trans (hb2.mono (Nat.le_succ _)))
 have HO2:=hid hown
 rw [hz0] at HO2
 have HS2:Hid (w.heap.size+1 < w2.heap.size):=hid (own_lt HO2.out)
 clear hown hb2 hg2 TN HB HSZ n9 n10 hi0 hi1 hi2 hi3
 have n10:=TN2.out.at 10 _ rfl
 go_wp2_with fail
 clear n10 hz0
 go_loopw [39] (fun u wr=>∃ o:Nat,o≤nB∧u=.int .i64 o∧Hid (zat w.heap.size x0 x1 x2 (.int .i8 Y) (.int .i32 m1) (.int .i64 s1) (.int .i8 z1) (.int .i32 m2) (.int .i64 s2) (.int .i8 z2) (.int .i8 nlo) (.int .i8 nhi) K S P O Z WA BA nW cW nB cB wr)∧Hid (wr.ownsRow (w.heap.size+1) 264 2 (.slice (some ⟨w.heap.size+1,0,none⟩) nB nB) nB (pairV (madeR (rowP ws bs lo hi Z g each) o) (madeR (rowQ ws bs lo hi Z g each) o) nB))∧Hid (Below w.heap.size w wr)∧Hid (w.heap.size+1 < wr.heap.size)) (fun u _=>nB - (intOf u).toNat)
 case atStart=>exact⟨0,Nat.zero_le _,rfl,TN2,HO2,HB2,HS2⟩
 case round =>
  obtain⟨o,ho,rfl,TN,HO,HB,HS⟩:=hrel
  clear TN2 HO2 HB2 HS2
  by_cases hlt:o < nB
  ·obtain⟨bw,ow,rfl, -, -⟩:=ints_getD HRW.out (j:=0) (by have:=HWS.out;have:=HE1.out;omega)
   obtain⟨bb,ob,rfl,hbb,hcb0⟩:=ints_getD HRB.out (j:=0) (by have:=HBS.out;omega)
   have hcx:=(HB.out.cell (p:=⟨bb,ob+o,none⟩) hbb).trans (hcb0 o (by have:=HBS.out;omega))
   have hlen:=wsOf_len HWS.out HE.out hlt
   have hq3:o * each+each≤nW:=by
    rw [← HE.out,Nat.mul_comm each nB]
    have:=Nat.mul_le_mul_right each (show o+1≤nB by omega)
    rwa [Nat.add_mul,Nat.one_mul] at this
   have hrow:=((HRW.out.drop (o * each)).take each)
   rw [i8s_dropR,i8s_takeR,show (Option.map (fun a:Addr=>a.add (o * each)) (some ⟨bw,ow,none⟩))=some (⟨bw,ow+o * each,none⟩:Addr) by rw [Option.map_some,Go.WideShapes.add_plain],show (ws.drop (o * each)).take each=wsOf ws each o from rfl] at hrow
   have hbd:=HBB.out o
   obtain⟨qs,hqs⟩:∃ qs,o * each=qs:=⟨_,rfl⟩
   obtain⟨qe,hqe⟩:∃ qe,qs+each=qe:=⟨_,rfl⟩
   have hm1':IntKind.i64.wrap ((o:Int) * (each:Int))=(qs:Int):=by rw [← Int.natCast_mul,hqs];exact IntWalk.i64_in _ (by omega)
   have hm2':IntKind.i64.wrap (((o:Int)+1) * (each:Int))=(qe:Int):=by
    have:((o:Int)+1) * (each:Int)=(qe:Int):=by rw [Int.add_mul,Int.one_mul, ← Int.natCast_mul,hqs, ← hqe];simp
    rw [this];exact IntWalk.i64_in _ (by omega)
   have hm3':IntKind.i64.wrap ((o:Int)+1)=(o:Int)+1:=IntWalk.i64_in _ (by omega)
   have hqd:qe - qs=each:=by omega
   have hE2:=HE1.out
   have p5:¬ cW=qs:=by omega
   have p6:¬ qs=cW:=by omega
   have p12:¬ cW - qs=0:=by omega
   clear hE2
   have p7:(qs:Int)≤(qe:Int):=by omega
   have p8:(qe:Int)≤(cW:Int):=by omega
   have p9:(0:Int)≤(qs:Int):=by omega
   have p10:qs≤qe:=by omega
   have p11:qe≤cW:=by omega
   have o0:(0:Int)≤(o:Int):=by omega
   have o1:(o:Int) < (nB:Int):=by omega
   have hP':bs.getD o 0+psum (dnF (wsOf ws each o) lo hi Z g) each=rowP ws bs lo hi Z g each o:=rfl
   have hQ':bs.getD o 0+psum (upF (wsOf ws each o) lo hi Z g) each=rowQ ws bs lo hi Z g each o:=rfl
   have hrc:=fun (w:World) (a:Kit.Rd w w.heap.size (some ⟨bw,ow+o * each,none⟩) (I8s (wsOf ws each o)))=>crow_to (some ⟨bw,ow+o * each,none⟩) (wsOf ws each o) each (cW - o * each) hlen (by omega) (wsOf_I8b HWB.out each o) (bs.getD o 0) lo hi Z hbd.1 hbd.2 l1 l2 h1 h2 z1' z2' g _ _ hP' hQ' w a
   rw [hqs] at hrc hrow
   have HRO:=hid hrow
   clear hrow
   have hgd:decide (P > 0)=g:=HG.out
   have hgd2:decide (0 < P)=g:=HG.out
   obtain⟨X,hX⟩:∃ X,rowP ws bs lo hi Z g each o=X:=⟨_,rfl⟩
   obtain⟨Y',hY⟩:∃ Y',rowQ ws bs lo hi Z g each o=Y':=⟨_,rfl⟩
   have HXX:=hid hX
   have HYY:=hid hY
   rw [hX,hY] at hrc
   have hset:=hid (pair_set (rowP ws bs lo hi Z g each) (rowQ ws bs lo hi Z g each) X Y' hX hY hlt)
   generalize bs.getD o 0=bo at *
   have HRC:=hid hrc
   clear hrc hcb0 hlen hbd hP' hQ' hqe hX hY
   go_upto_region 8 with fail
   refine wp_region_held_drew (S:=fun w'=>zat w.heap.size x0 x1 x2 (.int .i8 Y) (.int .i32 m1) (.int .i64 s1) (.int .i8 z1) (.int .i32 m2) (.int .i64 s2) (.int .i8 z2) (.int .i8 nlo) (.int .i8 nhi) K S P O Z (some ⟨bw,ow,none⟩) (some ⟨bb,ob,none⟩) nW cW nB cB w') (by kernel_rfl) TN.out (fun hHeld=>?_)
   have HO1:=hid (show wr.drew.ownsRow (w.heap.size+1) 264 2 (.slice (some ⟨w.heap.size+1,0,none⟩) nB nB) nB (pairV (madeR (rowP ws bs lo hi Z g each) o) (madeR (rowQ ws bs lo hi Z g each) o) nB) from HO.out)
   have HB1:=hid HB.out.drew
   have HS1:Hid (w.heap.size+1 < wr.drew.heap.size):=hid HS.out
   clear TN HO HB HS hcx
   generalize wr.drew=W1 at HO1 HB1 HS1 hHeld ⊢
   refine Tk.x 0 rfl ?_
   try simp only [Tk.put]
   refine Tk.x 1 rfl ?_
   try simp only [Tk.put]
   refine Tk.x 2 rfl ?_
   try simp only [Tk.put]
   refine Tk.y 3 (v:=?_) rfl ?_ ?_
   rotate_left
   ·intro wS hSw
    have q0:=hSw.at 9 _ rfl
    clear hSw
    first | (go_simp;done) | (go_simp;with_reducible rfl)
   try simp only [Tk.put]
   refine Tk.x 4 rfl ?_
   try simp only [Tk.put]
   refine Tk.x 5 rfl ?_
   try simp only [Tk.put]
   refine Tk.x 6 rfl ?_
   try simp only [Tk.put]
   refine Tk.x 7 rfl ?_
   try simp only [Tk.put]
   refine Tk.x 8 rfl ?_
   try simp only [Tk.put]
   refine Tk.x 9 rfl ?_
   try simp only [Tk.put]
   refine Tk.x 10 rfl ?_
   try simp only [Tk.put]
   refine Tk.x 11 rfl ?_
   try simp only [Tk.put]
   refine Tk.x 12 rfl ?_
   try simp only [Tk.put]
   refine Tk.x 13 rfl ?_
   try simp only [Tk.put]
   refine Tk.x 14 rfl ?_
   try simp only [Tk.put]
   refine Tk.x 15 rfl ?_
   try simp only [Tk.put]
   refine Tk.y 16 (v:=?_) rfl ?_ ?_
   rotate_left
   ·intro wS hSw
    have q0:=hSw.at 7 _ rfl
    clear hSw
    first | (go_simp;done) | (go_simp;with_reducible rfl)
   try simp only [Tk.put]
   refine Tk.x 17 rfl ?_
   try simp only [Tk.put]
   refine Tk.y 18 (v:=?_) rfl ?_ ?_
   rotate_left
   ·intro wS hSw
    have q0:=hSw.at 5 _ rfl
    clear hSw
    first | (go_simp;done) | (go_simp;with_reducible rfl)
   try simp only [Tk.put]
   refine Tk.x 19 rfl ?_
   try simp only [Tk.put]
   refine Tk.s 20 rfl (fun Kq hK=>?_)
   go_simp
   go_at_call 172
   refine (HRC.out _ ((HRO.out.below HB1.out).more HB1.out.size)).mono ?_
   rintro e W2 ⟨rfl,hb1⟩
   have hS1:zat w.heap.size x0 x1 x2 (.int .i8 Y) (.int .i32 m1) (.int .i64 s1) (.int .i8 z1) (.int .i32 m2) (.int .i64 s2) (.int .i8 z2) (.int .i8 nlo) (.int .i8 nhi) K S P O Z (some ⟨bw,ow,none⟩) (some ⟨bb,ob,none⟩) nW cW nB cB W2:=hHeld.below (Nat.lt_trans (lt_succ_self _) HS1.out) hb1
   have HO2:=hid (Kit.own_below HO1.out hb1)
   have HB2:=hid (HB1.out.trans (hb1.mono HB1.out.size))
   have HS2:=hid (Nat.lt_of_lt_of_le HS1.out hb1.size)
   clear hHeld hb1 HO1 HB1 HS1
   dsimp only
   refine hK.out _ _ ?_ (fun hHeld=>?_)
   ·exact hS1
   clear hK Kq
   try simp only [Tk.put]
   refine Tk.x 21 rfl ?_
   try simp only [Tk.put]
   have kA:=HO2.out.cellAt (o * 2) (by omega)
   have kB:=HO2.out.cellAt (o * 2+1) (by omega)
   rw [(zbu _ _ hlt).1] at kA
   rw [(zbu _ _ hlt).2] at kB
   have fA:=HO2.out.frozenAt (o * 2)
   have fB:=HO2.out.frozenAt (o * 2+1)
   generalize madeR (rowP ws bs lo hi Z g each) o o=ya at kA
   generalize madeR (rowQ ws bs lo hi Z g each) o o=yb at kB
   refine Tk.s 22 rfl (fun Kq hK=>?_)
   go_simp
   refine hK.out _ _ ?_ (fun hHeld=>?_)
   ·exact apart2 hHeld (by omega) _ _ _ _
   clear hK Kq
   try simp only [Tk.put]
   have hst:=(((HO2.out.stored (o * 2) (.int .i64 X)).1).stored (o * 2+1) (.int .i64 Y')).1
   rw [hset.out] at hst
   have HO3:=hid hst
   have HB3:=hid ((HB2.out.setCell (p:=⟨w.heap.size+1,o * 2,none⟩) (Nat.le_succ _) (.int .i64 X)).setCell (p:=⟨w.heap.size+1,o * 2+1,none⟩) (Nat.le_succ _) (.int .i64 Y'))
   have HS3:Hid (w.heap.size+1 < ((W2.setCell ⟨w.heap.size+1,o * 2,none⟩ (.int .i64 X)).setCell ⟨w.heap.size+1,o * 2+1,none⟩ (.int .i64 Y')).heap.size):=hid (by have:=HS2.out;simpa using this)
   clear hst HO2 HB2 HS2 kA kB fA fB
   generalize (W2.setCell ⟨w.heap.size+1,o * 2,none⟩ (.int .i64 X)).setCell ⟨w.heap.size+1,o * 2+1,none⟩ (.int .i64 Y')=W3 at HO3 HB3 HS3 hHeld ⊢
   refine wpAnyH_done (by kernel_rfl) ?_ _
   go_wp2_with fail
   go_roundw
   case rel=>exact⟨o+1,by omega,by go_num,hid hHeld,HO3,HB3,HS3⟩
   case measure=>simp [intOf];omega
  ·obtain rfl:o=nB:=by omega
   have hfin:=HO.out
   rw [pair_all] at hfin
   have HFI:=hid hfin
   clear hfin
   go_wp2_with fail
   go_ret
   exact⟨_,rfl,Kit.zb3 HFI.out (Nat.le_succ _),HB.out⟩
theorem call_yes (x0 x1 x2:Value) (K S P O Z Y:Int) (WA BA:Option Addr) (nW cW nB cB:Nat) (m1 s1 z1 m2 s2 z2 nlo nhi:Int) (ws bs:List Int) (hws:ws.length=nW) (hbs:bs.length=nB) (hwb:I8b ws) (hbb:∀ q, -2147483648≤bs.getD q 0∧bs.getD q 0≤2147483647) (hcw:nW≤cW) (hcb:nB≤cB) (lo hi:Int) (l1 : -128≤lo) (l2:lo≤127) (h1 : -128≤hi) (h2:hi≤127) (z1' : -128≤Z) (z2':Z≤127)
  (each:Nat) (hB:1≤nB) (he:each * nB=nW) (hB2:nB≤1000000) (hW2:nW≤1000000) (g:Bool) (hg:decide (P > 0)=g) (w:World) (hrw:Kit.Rd w w.heap.size WA (I8s ws)) (hrb:Kit.Rd w w.heap.size BA (I32v bs)) :
  Calls Tryz.prog 151 #[.agg #[x0,x1,x2,.int .i64 K,.int .i64 S,.int .i64 P,.int .i64 O,.int .i8 Z,.int .i8 Y,.slice WA nW cW,.slice BA nB cB,.int .i32 m1,.int .i64 s1,.int .i8 z1,.int .i32 m2,.int .i64 s2,.int .i8 z2,.int .i8 nlo,.int .i8 nhi],.int .i8 lo,.int .i8 hi] w fun e w'=>∃ v,e=.returned v∧w'.ownsRow w.heap.size 264 2 v nB (pairV (rowP ws bs lo hi Z g each) (rowQ ws bs lo hi Z g each) nB)∧Below w.heap.size w w':=by
 by_cases h0:each=0
 ·exact call_yes0 x0 x1 x2 K S P O Z Y WA BA nW cW nB cB m1 s1 z1 m2 s2 z2 nlo nhi ws bs hws hbs hwb hbb hcw hcb lo hi l1 l2 h1 h2 z1' z2' each h0 hB he hB2 hW2 g hg w hrw hrb
 ·exact call_yes1 x0 x1 x2 K S P O Z Y WA BA nW cW nB cB m1 s1 z1 m2 s2 z2 nlo nhi ws bs hws hbs hwb hbb hcw hcb lo hi l1 l2 h1 h2 z1' z2' each (Nat.pos_of_ne_zero h0) hB he hB2 hW2 g hg w hrw hrb
end CSpan
end
end Go.Proofs.YtfgdfignoakkaaaGreatDoor
