/- -/
import Derived.Test.YtoffcaldhojjoaaGreatDoorGVU29
open Go.Lib (hid)
open Nat (le_refl lt_of_succ_lt lt_succ_self)
set_option linter.unusedVariables false
set_option linter.unusedSimpArgs false
set_option maxRecDepth 100000
set_option maxHeartbeats 16000000
namespace Go.Proofs.YtoffcaldhojjoaaGreatDoor
namespace CConv
end CConv
namespace CFix
end CFix
namespace CSat
end CSat
namespace CSpan
end CSpan
namespace CTensor
end CTensor
open Go Go.ChangeShapes Go.WideShapes Go.ChangeAt Go.RowKit Go.Deep
section
namespace CGuard
open Plain CSat CFix CShape CTensor CConv CSpan
theorem rd_nilG (w:World) (B:Nat) (A:Option Addr):Kit.Rd w B A (I8s []):=fun j u h=>by simp [I8s] at h
theorem rd_quietG {w:World} {A:Option Addr} {vs:List Value} (h:Kit.Rd w w.heap.size A vs) (n:Nat):Kit.Rd (w.drewN n) (w.drewN n).heap.size A vs:=h
theorem quiet_atG {P:Program} {f:FuncId} {args:Array Value} {w:World} {m n:Nat} {v:Value} (h:Calls P f args (w.drewN (m+n)) fun e w'=>e=.returned v∧∃ k,w'=(w.drewN (m+n)).drewN k):Calls P f args (w.drewN (m+n)) fun e w'=>e=.returned v∧∃ k,w'=w.drewN (m+k) :=
 h.mono fun _ _ ⟨he,k,hk⟩=>⟨he,n+k,by rw [hk,World.drewN_drewN,Nat.add_assoc]⟩
theorem i8s_dropG (zs:List Int) (k:Nat):(I8s zs).drop k=I8s (zs.drop k):=by simp [I8s,List.map_drop]
theorem i8s_takeG (zs:List Int) (k:Nat):(I8s zs).take k=I8s (zs.take k):=by simp [I8s,List.map_take]
def lsR (F:Nat→Int):Nat→Int
 | 0=>0
 | k+1=>if k=0 then F 0 else min (lsR F k) (F k)
def grR (F:Nat→Int):Nat→Int
 | 0=>0
 | k+1=>if k=0 then F 0 else max (grR F k) (F k)
theorem min_iteG (a b:Int):(if b < a then b else a)=min a b:=by split <;> omega
theorem max_iteG (a b:Int):(if a < b then b else a)=max a b:=by split <;> omega
theorem lsR_bd {F:Nat→Int} {a b:Int} (h:∀ k,a≤F k∧F k≤b):∀ n,0 < n→a≤lsR F n∧lsR F n≤b
 | 0,h0=>by omega
 | n+1,_=>by
   unfold lsR
   by_cases hn:n=0
   ·rw [if_pos hn];exact h 0
   ·rw [if_neg hn];have:=lsR_bd h n (by omega);have:=h n;omega
theorem grR_bd {F:Nat→Int} {a b:Int} (h:∀ k,a≤F k∧F k≤b):∀ n,0 < n→a≤grR F n∧grR F n≤b
 | 0,h0=>by omega
 | n+1,_=>by
   unfold grR
   by_cases hn:n=0
   ·rw [if_pos hn];exact h 0
   ·rw [if_neg hn];have:=grR_bd h n (by omega);have:=h n;omega
def fitB (X Y:Int):Bool:=decide (-2147483648≤X) && decide (Y≤2147483647)
theorem zbc (WA BA:Option Addr) (nW cW nB cB:Nat) (hW:nW≤1000000) (hB:nB≤1000000) (w:World) :
  Calls Tryz.prog 31 #[.slice WA nW cW,.slice BA nB cB] w fun e w'=>e=.returned (.bool (decide (1≤nB∧nW % nB=0)))∧w=w':=by
 by_cases h0:nB=0
 ·subst h0
  go_enter Tryz.func31,Tryz.ntmps31
  go_wp2_with fail
  go_ret
  exact⟨rfl,rfl⟩
 ·have z0:((nB:Int) == 0)=false:=by simp;omega
  have z1:¬ (nB:Int)=0:=by omega
  have z2:(0:Int) < (nB:Int):=by omega
  have z6:0 < nB:=by omega
  have z7:¬ nB=0:=h0
  have z3:(nW:Int).tmod (nB:Int)=((nW % nB:Nat):Int):=by rw [Int.tmod_eq_emod_of_nonneg (by omega)];rfl
  obtain⟨r,hr⟩:∃ r,nW % nB=r:=⟨_,rfl⟩
  have hrb:r < nB:=by rw [← hr];exact Nat.mod_lt _ z6
  have z4:IntKind.i64.wrap ((r:Nat):Int)=(r:Int):=IntWalk.i64_in _ (by omega)
  rw [hr] at z3 ⊢
  have z5:decide (1≤nB∧r=0)=decide (r=0):=by rw [decide_eq_decide];omega
  rw [z5]
  have z8:((r:Int) == 0)=decide (r=0):=by by_cases h:r=0 <;> simp [h]
  clear hr z5
  go_enter Tryz.func31,Tryz.ntmps31
  go_wp2_with fail
  go_ret
  exact⟨by first | rfl | (simp [z8];done) | (simp;omega),rfl⟩
theorem rrows_0 (WA BA:Option Addr) (nW cW nB cB:Nat) (ws bs:List Int) (hws:ws.length=nW) (hbs:bs.length=nB) (hwb:I8b ws) (hbb:∀ q, -2147483648≤bs.getD q 0∧bs.getD q 0≤2147483647) (hcw:nW≤cW) (hcb:nB≤cB) (hW2:nW≤20000) (hB2:nB≤20000) (l h z:Int) (l1 : -128≤l) (l2:l≤127) (h1 : -128≤h) (h2:h≤127) (z1' : -128≤z) (z2':z≤127) (g:Bool) (each:Nat) (he:each * nB=nW) (hB1:1≤nB) (he1:each=0)
  (X Y:Int) (hX:lsR (rowP ws bs l h z g each) nB=X) (hY:grR (rowQ ws bs l h z g each) nB=Y) (w:World) (hrw:Kit.Rd w w.heap.size WA (I8s ws)) (hrb:Kit.Rd w w.heap.size BA (I32v bs)) :
  Calls Tryz.prog 32 #[.slice WA nW cW,.slice BA nB cB,.int .i8 l,.int .i8 h,.int .i8 z,.bool g] w fun e w'=>e=.returned (.tuple #[.int .i64 X,.int .i64 Y,.bool (fitB X Y)])∧∃ m,w'=w.drewN m:=by
 have hPb:=fun o=>rowPQ_bd hwb hbb l1 l2 h1 h2 z1' z2' g (each:=each) (by have:=Nat.le_mul_of_pos_right each hB1;omega) o
 have HWS:=hid hws
 have HBS:=hid hbs
 have HWB:=hid hwb
 have HBB:=hid hbb
 have HE:=hid he
 have HE1:=hid he1
 have HRW:=hid hrw
 have HRB:=hid hrb
 have HX:=hid hX
 have HY:=hid hY
 have HZZ:=hid (And.intro z1' z2')
 have z0:((nB:Int) == 0)=false:=by simp;omega
 have z1:¬ (nB:Int)=0:=by omega
 have z3:(nW:Int).tdiv (nB:Int)=(each:Int):=by rw [Int.tdiv_eq_ediv_of_nonneg (by omega), ← he];simp;rw [Int.mul_ediv_cancel _ z1]
 have heW:each≤nW:=by rw [← he];exact Nat.le_mul_of_pos_right each hB1
 have z4:IntKind.i64.wrap (each:Int)=(each:Int):=IntWalk.i64_in _ (by omega)
 have HHW:=hid heW
 clear hws hbs hwb hbb he he1 hrw hrb hX hY heW
 go_enter Tryz.func32,Tryz.ntmps32
 go_wp2_with fail
 clear z0 z1 z3 z4
 go_loopw [15,16,18] (fun a b u wr=>∃ o nq:Nat,o≤nB∧u=.int .i64 o∧a=.int .i64 (lsR (rowP ws bs l h z g each) o)∧b=.int .i64 (grR (rowQ ws bs l h z g each) o)∧Hid (wr=w.drewN nq)) (fun _ _ u _=>nB - (intOf u).toNat)
 case atStart=>exact⟨0,0,Nat.zero_le _,rfl,rfl,rfl,hid rfl⟩
 case round =>
  obtain⟨o,nq,ho,rfl,rfl,rfl,hw⟩:=hrel
  obtain rfl:=hw.out
  clear hw
  by_cases hlt:o < nB
  ·obtain⟨bb,ob,rfl, -,hcb0⟩:=zb3 HRB.out (j:=0) (by have:=HBS.out;omega)
   have hcx:=hcb0 o (by have:=HBS.out;omega)
   have hlen:=wsOf_len HWS.out HE.out hlt
   have hq3:o * each+each≤nW:=by
    rw [← HE.out,Nat.mul_comm each nB]
    have:=Nat.mul_le_mul_right each (show o+1≤nB by omega)
    rwa [Nat.add_mul,Nat.one_mul] at this
   have hnil:wsOf ws each o=[]:=List.eq_nil_of_length_eq_zero (by have:=HE1.out;omega)
   have hbd:=HBB.out o
   obtain⟨qs,hqs⟩:∃ qs,o * each=qs:=⟨_,rfl⟩
   obtain⟨qe,hqe⟩:∃ qe,qs+each=qe:=⟨_,rfl⟩
   have hm1':IntKind.i64.wrap ((o:Int) * (each:Int))=(qs:Int):=by rw [← Int.natCast_mul,hqs];exact IntWalk.i64_in _ (by omega)
   have hm2':IntKind.i64.wrap (((o:Int)+1) * (each:Int))=(qe:Int):=by
    have:((o:Int)+1) * (each:Int)=(qe:Int):=by rw [Int.add_mul,Int.one_mul, ← Int.natCast_mul,hqs, ← hqe];simp
    rw [this];exact IntWalk.i64_in _ (by omega)
   have hqd:qe - qs=each:=by omega
   have p7:(qs:Int)≤(qe:Int):=by omega
   have p8:(qe:Int)≤(cW:Int):=by omega
   have p9:(0:Int)≤(qs:Int):=by omega
   have p10:qs≤qe:=by omega
   have p11:qe≤cW:=by omega
   have o0:(0:Int)≤(o:Int):=by omega
   have o1:(o:Int) < (nB:Int):=by omega
   have hP':bs.getD o 0+psum (dnF (wsOf ws each o) l h z g) each=rowP ws bs l h z g each o:=rfl
   have hQ':bs.getD o 0+psum (upF (wsOf ws each o) l h z g) each=rowQ ws bs l h z g each o:=rfl
   have hrc:=fun (A9:Option Addr) (c9:Nat) (w:World)=>rrow_to A9 (wsOf ws each o) each c9 hlen (by omega) (wsOf_I8b HWB.out each o) (bs.getD o 0) l h z hbd.1 hbd.2 l1 l2 h1 h2 HZZ.out.1 HZZ.out.2 g _ _ hP' hQ' w (B:=w.heap.size) (by rw [hnil];exact rd_nilG _ _ _)
   have hl1:lsR (rowP ws bs l h z g each) (o+1)=if o=0 then rowP ws bs l h z g each 0 else min (lsR (rowP ws bs l h z g each) o) (rowP ws bs l h z g each o):=rfl
   have hg1:grR (rowQ ws bs l h z g each) (o+1)=if o=0 then rowQ ws bs l h z g each 0 else max (grR (rowQ ws bs l h z g each) o) (rowQ ws bs l h z g each o):=rfl
   by_cases ho0:o=0
   ·have ho1:((o:Int) == 0)=true:=by simp [ho0]
    rw [if_pos ho0] at hl1 hg1
    rw [show rowP ws bs l h z g each 0=rowP ws bs l h z g each o by rw [ho0]] at hl1
    rw [show rowQ ws bs l h z g each 0=rowQ ws bs l h z g each o by rw [ho0]] at hg1
    clear ho0
    generalize rowP ws bs l h z g each o=x at *
    generalize rowQ ws bs l h z g each o=y at *
    generalize lsR (rowP ws bs l h z g each) o=p at *
    generalize grR (rowQ ws bs l h z g each) o=q at *
    generalize bs.getD o 0=bo at *
    have HRC:=hid hrc
    clear hrc hnil hcb0 hlen hbd hP' hQ' hqs hqe hPb
    have k1:=min_iteG x x
    have k2:=max_iteG y y
    go_wp2_with fail
    go_quiet ((go_at_call 53;exact quiet_atG (HRC.out _ _ _)))
    go_wp2_with fail
    go_roundw
    case rel=>exact⟨o+1,_,by omega,by go_num,by first | rw [hl1] | (rw [hl1];simp),by first | rw [hg1] | (rw [hg1];simp),hid rfl⟩
    case measure=>simp [intOf];omega
   ·have ho1:((o:Int) == 0)=false:=by simp;omega
    have ho2:¬ (o:Int)=0:=by omega
    rw [if_neg ho0] at hl1 hg1
    generalize rowP ws bs l h z g each o=x at *
    generalize rowQ ws bs l h z g each o=y at *
    generalize hp:lsR (rowP ws bs l h z g each) o=p at *
    generalize hq:grR (rowQ ws bs l h z g each) o=q at *
    generalize bs.getD o 0=bo at *
    have HRC:=hid hrc
    clear hrc hnil hcb0 hlen hbd hP' hQ' hqs hqe hPb
    have k1:=min_iteG p x
    have k2:=max_iteG q y
    go_wp2_with fail
    go_quiet ((go_at_call 53;exact quiet_atG (HRC.out _ _ _)))
    go_wp2_with fail
    go_roundw
    case rel=>exact⟨o+1,_,by omega,by go_num,by rw [hl1],by rw [hg1],hid rfl⟩
    case measure=>simp [intOf];omega
  ·obtain rfl:o=nB:=by omega
   rw [HX.out,HY.out]
   have hf1:decide (-2147483648≤X)=(fitB X Y || decide (-2147483648≤X)):=by unfold fitB;cases decide (-2147483648≤X) <;> simp
   clear hPb
   by_cases hx : -2147483648≤X
   ·have d1:decide (-2147483648≤X)=true:=by simp [hx]
    have hf:fitB X Y=decide (Y≤2147483647):=by unfold fitB;rw [d1];simp
    have HFF:=hid hf
    clear hf hf1
    go_wp2_with fail
    go_ret3
    exact⟨by rw [HFF.out];rfl,nq,rfl⟩
   ·have d1:decide (-2147483648≤X)=false:=by simp [hx]
    have hf:fitB X Y=false:=by unfold fitB;rw [d1];simp
    have HFF:=hid hf
    clear hf hf1
    go_wp2_with fail
    go_ret3
    exact⟨by rw [HFF.out];rfl,nq,rfl⟩
theorem rrows_1 (WA BA:Option Addr) (nW cW nB cB:Nat) (ws bs:List Int) (hws:ws.length=nW) (hbs:bs.length=nB) (hwb:I8b ws) (hbb:∀ q, -2147483648≤bs.getD q 0∧bs.getD q 0≤2147483647) (hcw:nW≤cW) (hcb:nB≤cB) (hW2:nW≤20000) (hB2:nB≤20000) (l h z:Int) (l1 : -128≤l) (l2:l≤127) (h1 : -128≤h) (h2:h≤127) (z1' : -128≤z) (z2':z≤127) (g:Bool) (each:Nat) (he:each * nB=nW) (hB1:1≤nB) (he1:1≤each)
  (X Y:Int) (hX:lsR (rowP ws bs l h z g each) nB=X) (hY:grR (rowQ ws bs l h z g each) nB=Y) (w:World) (hrw:Kit.Rd w w.heap.size WA (I8s ws)) (hrb:Kit.Rd w w.heap.size BA (I32v bs)) :
  Calls Tryz.prog 32 #[.slice WA nW cW,.slice BA nB cB,.int .i8 l,.int .i8 h,.int .i8 z,.bool g] w fun e w'=>e=.returned (.tuple #[.int .i64 X,.int .i64 Y,.bool (fitB X Y)])∧∃ m,w'=w.drewN m:=by
 have hPb:=fun o=>rowPQ_bd hwb hbb l1 l2 h1 h2 z1' z2' g (each:=each) (by have:=Nat.le_mul_of_pos_right each hB1;omega) o
 have HWS:=hid hws
 have HBS:=hid hbs
 have HWB:=hid hwb
 have HBB:=hid hbb
 have HE:=hid he
 have HE1:=hid he1
 have HRW:=hid hrw
 have HRB:=hid hrb
 have HX:=hid hX
 have HY:=hid hY
 have HZZ:=hid (And.intro z1' z2')
 have z0:((nB:Int) == 0)=false:=by simp;omega
 have z1:¬ (nB:Int)=0:=by omega
 have z3:(nW:Int).tdiv (nB:Int)=(each:Int):=by rw [Int.tdiv_eq_ediv_of_nonneg (by omega), ← he];simp;rw [Int.mul_ediv_cancel _ z1]
 have heW:each≤nW:=by rw [← he];exact Nat.le_mul_of_pos_right each hB1
 have z4:IntKind.i64.wrap (each:Int)=(each:Int):=IntWalk.i64_in _ (by omega)
 have HHW:=hid heW
 clear hws hbs hwb hbb he he1 hrw hrb hX hY heW
 go_enter Tryz.func32,Tryz.ntmps32
 go_wp2_with fail
 clear z0 z1 z3 z4
 go_loopw [15,16,18] (fun a b u wr=>∃ o nq:Nat,o≤nB∧u=.int .i64 o∧a=.int .i64 (lsR (rowP ws bs l h z g each) o)∧b=.int .i64 (grR (rowQ ws bs l h z g each) o)∧Hid (wr=w.drewN nq)) (fun _ _ u _=>nB - (intOf u).toNat)
 case atStart=>exact⟨0,0,Nat.zero_le _,rfl,rfl,rfl,hid rfl⟩
 case round =>
  obtain⟨o,nq,ho,rfl,rfl,rfl,hw⟩:=hrel
  obtain rfl:=hw.out
  clear hw
  by_cases hlt:o < nB
  ·obtain⟨bw,ow,rfl, -, -⟩:=zb3 HRW.out (j:=0) (by have:=HWS.out;have:=HE1.out;have:=HHW.out;omega)
   obtain⟨bb,ob,rfl, -,hcb0⟩:=zb3 HRB.out (j:=0) (by have:=HBS.out;omega)
   have hcx:=hcb0 o (by have:=HBS.out;omega)
   have hlen:=wsOf_len HWS.out HE.out hlt
   have hq3:o * each+each≤nW:=by
    rw [← HE.out,Nat.mul_comm each nB]
    have:=Nat.mul_le_mul_right each (show o+1≤nB by omega)
    rwa [Nat.add_mul,Nat.one_mul] at this
   have hrow:=(((HRW.out).drop (o * each)).take each)
   rw [i8s_dropG,i8s_takeG,show (Option.map (fun a:Addr=>a.add (o * each)) (some ⟨bw,ow,none⟩))=some (⟨bw,ow+o * each,none⟩:Addr) by rw [Option.map_some,Go.WideShapes.add_plain],show (ws.drop (o * each)).take each=wsOf ws each o from rfl] at hrow
   have hbd:=HBB.out o
   obtain⟨qs,hqs⟩:∃ qs,o * each=qs:=⟨_,rfl⟩
   obtain⟨qe,hqe⟩:∃ qe,qs+each=qe:=⟨_,rfl⟩
   have hm1':IntKind.i64.wrap ((o:Int) * (each:Int))=(qs:Int):=by rw [← Int.natCast_mul,hqs];exact IntWalk.i64_in _ (by omega)
   have hm2':IntKind.i64.wrap (((o:Int)+1) * (each:Int))=(qe:Int):=by
    have:((o:Int)+1) * (each:Int)=(qe:Int):=by rw [Int.add_mul,Int.one_mul, ← Int.natCast_mul,hqs, ← hqe];simp
    rw [this];exact IntWalk.i64_in _ (by omega)
   have hqd:qe - qs=each:=by omega
   have p5:¬ cW=qs:=by have:=HE1.out;omega
   have p6:¬ qs=cW:=by have:=HE1.out;omega
   have p12:¬ cW - qs=0:=by have:=HE1.out;omega
   have p7:(qs:Int)≤(qe:Int):=by omega
   have p8:(qe:Int)≤(cW:Int):=by omega
   have p9:(0:Int)≤(qs:Int):=by omega
   have p10:qs≤qe:=by omega
   have p11:qe≤cW:=by omega
   have o0:(0:Int)≤(o:Int):=by omega
   have o1:(o:Int) < (nB:Int):=by omega
   have hP':bs.getD o 0+psum (dnF (wsOf ws each o) l h z g) each=rowP ws bs l h z g each o:=rfl
   have hQ':bs.getD o 0+psum (upF (wsOf ws each o) l h z g) each=rowQ ws bs l h z g each o:=rfl
   have hrc:=fun (w:World) (a:Kit.Rd w w.heap.size (some ⟨bw,ow+o * each,none⟩) (I8s (wsOf ws each o)))=>rrow_to (some ⟨bw,ow+o * each,none⟩) (wsOf ws each o) each (cW - o * each) hlen (by omega) (wsOf_I8b HWB.out each o) (bs.getD o 0) l h z hbd.1 hbd.2 l1 l2 h1 h2 HZZ.out.1 HZZ.out.2 g _ _ hP' hQ' w a
   rw [hqs] at hrc hrow
   have HRO:=hid hrow
   have hl1:lsR (rowP ws bs l h z g each) (o+1)=if o=0 then rowP ws bs l h z g each 0 else min (lsR (rowP ws bs l h z g each) o) (rowP ws bs l h z g each o):=rfl
   have hg1:grR (rowQ ws bs l h z g each) (o+1)=if o=0 then rowQ ws bs l h z g each 0 else max (grR (rowQ ws bs l h z g each) o) (rowQ ws bs l h z g each o):=rfl
   by_cases ho0:o=0
   ·have ho1:((o:Int) == 0)=true:=by simp [ho0]
    rw [if_pos ho0] at hl1 hg1
    rw [show rowP ws bs l h z g each 0=rowP ws bs l h z g each o by rw [ho0]] at hl1
    rw [show rowQ ws bs l h z g each 0=rowQ ws bs l h z g each o by rw [ho0]] at hg1
    clear ho0
    generalize rowP ws bs l h z g each o=x at *
    generalize rowQ ws bs l h z g each o=y at *
    generalize lsR (rowP ws bs l h z g each) o=p at *
    generalize grR (rowQ ws bs l h z g each) o=q at *
    generalize bs.getD o 0=bo at *
    have HRC:=hid hrc
    clear hrc hrow hcb0 hlen hbd hP' hQ' hqs hqe hPb
    have k1:=min_iteG x x
    have k2:=max_iteG y y
    go_wp2_with fail
    go_quiet ((go_at_call 53;exact quiet_atG (HRC.out _ (rd_quietG HRO.out _))))
    go_wp2_with fail
    go_roundw
    case rel=>exact⟨o+1,_,by omega,by go_num,by first | rw [hl1] | (rw [hl1];simp),by first | rw [hg1] | (rw [hg1];simp),hid rfl⟩
    case measure=>simp [intOf];omega
   ·have ho1:((o:Int) == 0)=false:=by simp;omega
    have ho2:¬ (o:Int)=0:=by omega
    rw [if_neg ho0] at hl1 hg1
    generalize rowP ws bs l h z g each o=x at *
    generalize rowQ ws bs l h z g each o=y at *
    generalize hp:lsR (rowP ws bs l h z g each) o=p at *
    generalize hq:grR (rowQ ws bs l h z g each) o=q at *
    generalize bs.getD o 0=bo at *
    have HRC:=hid hrc
    clear hrc hrow hcb0 hlen hbd hP' hQ' hqs hqe hPb
    have k1:=min_iteG p x
    have k2:=max_iteG q y
    go_wp2_with fail
    go_quiet ((go_at_call 53;exact quiet_atG (HRC.out _ (rd_quietG HRO.out _))))
    go_wp2_with fail
    go_roundw
    case rel=>exact⟨o+1,_,by omega,by go_num,by rw [hl1],by rw [hg1],hid rfl⟩
    case measure=>simp [intOf];omega
  ·obtain rfl:o=nB:=by omega
   rw [HX.out,HY.out]
   have hf1:decide (-2147483648≤X)=(fitB X Y || decide (-2147483648≤X)):=by unfold fitB;cases decide (-2147483648≤X) <;> simp
   clear hPb
   by_cases hx : -2147483648≤X
   ·have d1:decide (-2147483648≤X)=true:=by simp [hx]
    have hf:fitB X Y=decide (Y≤2147483647):=by unfold fitB;rw [d1];simp
    have HFF:=hid hf
    clear hf hf1
    go_wp2_with fail
    go_ret3
    exact⟨by rw [HFF.out];rfl,nq,rfl⟩
   ·have d1:decide (-2147483648≤X)=false:=by simp [hx]
    have hf:fitB X Y=false:=by unfold fitB;rw [d1];simp
    have HFF:=hid hf
    clear hf hf1
    go_wp2_with fail
    go_ret3
    exact⟨by rw [HFF.out];rfl,nq,rfl⟩
theorem zcd (WA BA:Option Addr) (nW cW nB cB:Nat) (ws bs:List Int) (hws:ws.length=nW) (hbs:bs.length=nB) (hwb:I8b ws) (hbb:∀ q, -2147483648≤bs.getD q 0∧bs.getD q 0≤2147483647) (hcw:nW≤cW) (hcb:nB≤cB) (hW2:nW≤20000) (hB2:nB≤20000) (l h z:Int) (l1 : -128≤l) (l2:l≤127) (h1 : -128≤h) (h2:h≤127) (z1' : -128≤z) (z2':z≤127) (g:Bool) (each:Nat) (he:each * nB=nW) (hB1:1≤nB)
  (X Y:Int) (hX:lsR (rowP ws bs l h z g each) nB=X) (hY:grR (rowQ ws bs l h z g each) nB=Y) (w:World) (hrw:Kit.Rd w w.heap.size WA (I8s ws)) (hrb:Kit.Rd w w.heap.size BA (I32v bs)) :
  Calls Tryz.prog 32 #[.slice WA nW cW,.slice BA nB cB,.int .i8 l,.int .i8 h,.int .i8 z,.bool g] w fun e w'=>e=.returned (.tuple #[.int .i64 X,.int .i64 Y,.bool (fitB X Y)])∧∃ m,w'=w.drewN m:=by
 rcases (show each=0∨1≤each by omega) with h0 | h0
 ·exact rrows_0 WA BA nW cW nB cB ws bs hws hbs hwb hbb hcw hcb hW2 hB2 l h z l1 l2 h1 h2 z1' z2' g each he hB1 h0 X Y hX hY w hrw hrb
 ·exact rrows_1 WA BA nW cW nB cB ws bs hws hbs hwb hbb hcw hcb hW2 hB2 l h z l1 l2 h1 h2 z1' z2' g each he hB1 h0 X Y hX hY w hrw hrb
end CGuard
end
end Go.Proofs.YtoffcaldhojjoaaGreatDoor
