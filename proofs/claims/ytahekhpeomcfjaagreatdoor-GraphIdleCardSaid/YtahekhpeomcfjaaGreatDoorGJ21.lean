/- -/
import Derived.LaidMore
import Derived.Stop.Joined
import Derived.Test.YtahekhpeomcfjaaGreatDoorGJ20
open Go.Lib (hid)
open Nat (le_refl lt_of_succ_lt lt_succ_self)
set_option linter.unusedVariables false
set_option linter.unusedSimpArgs false
set_option maxRecDepth 100000
set_option maxHeartbeats 16000000
namespace Go.Proofs.YtahekhpeomcfjaaGreatDoor
namespace CConv
end CConv
namespace CFix
end CFix
namespace CSat
end CSat
namespace CShape
end CShape
namespace CTensor
end CTensor
namespace CWheel
end CWheel
open Go Go.ChangeShapes Go.WideShapes Go.ChangeAt Go.RowKit Go.Deep
section
namespace CKind
open Plain CSat CShape CTensor CConv
theorem zcz (a b c x y z:Int) (w:World):(Op.equalIn 10000 42 (.agg #[.int .i32 a,.int .i64 b,.int .i8 c]) (.agg #[.int .i32 x,.int .i64 y,.int .i8 z])).run Tryz.prog w=.ok (a == x && (b == y && c == z)) w:=by
 have u1:=Tryz.underlying21
 have a1:=Tryz.isAgg21
 have z1:=Tryz.sizeOf21
 have u2:=Tryz.underlying39
 have a2:=Tryz.isAgg39
 have z2:=Tryz.sizeOf39
 have u3:=Tryz.underlying3
 have a3:=Tryz.isAgg3
 have z3:=Tryz.sizeOf3
 have hS:Tryz.prog.underlying 42=some (.struct (Tryz.prog.fieldsOf 42)):=by kernel_rfl
 rw [show (10000:Nat)=9999+1 from rfl,run_equalIn_agg w 9999 42 _ _ hS Tryz.stoodInHeld42]
 simp only [Program.fieldsOf,Tryz.underlying42]
 go_simp
 by_cases h1:a=x <;> by_cases h2:b=y <;> by_cases h3:c=z <;> simp [h1,h2,h3]
end CKind
end
section
namespace CLane
open Go Go.ChangeShapes Go.WideShapes Go.ChangeAt Go.RowKit
open Plain CSat CShape CTensor CConv FloatNum CFour CWheel
def W3 (W:Nat→Nat→Int) (k:Nat) (F:List Value):Prop :=
 F.length=k * 3∧∀ j i,j < k→i < 3→F[j * 3+i]?=some (.int .i8 (W j i))
theorem W3.start (W:Nat→Nat→Int):W3 W 0 []:=⟨rfl,fun j i hj=>by omega⟩
theorem W3.step {W:Nat→Nat→Int} {k:Nat} {F:List Value} (h:W3 W k F) {a b c:Int} (ha:W k 0=a) (hb:W k 1=b) (hc:W k 2=c):W3 W (k+1) (F ++ [.int .i8 a,.int .i8 b,.int .i8 c]):=by
 obtain⟨h1,h3⟩:=h
 refine⟨by simp [h1];omega,fun j i hj hi=>?_⟩
 rcases Nat.lt_or_ge j k with hjk | hjk
 ·rw [List.getElem?_append_left (by rw [h1];omega)]
  exact h3 j i hjk hi
 ·obtain rfl:j=k:=by omega
  rw [List.getElem?_append_right (by rw [h1];omega),h1,show j * 3+i - j * 3=i by omega]
  obtain rfl | rfl | rfl:i=0∨i=1∨i=2:=by omega
  ·rw [ha];rfl
  ·rw [hb];rfl
  ·rw [hc];rfl
theorem wts_of {w:World} {base n:Nat} {e:TypeId} {v:Value} {W:Nat→Nat→Int} {F:List Value} (hF:W3 W n F) (ho:w.ownsRow base e 3 v n F):∃ A c,v=.slice A n c∧Wts w w.heap.size A n W:=by
 rcases Nat.eq_zero_or_pos n with h0 | h0
 ·obtain⟨A,c,e, -, -, -⟩:=Kit.zam ho
  exact⟨A,c,e,fun k hk=>by omega⟩
 ·obtain⟨g,cap,rfl,_,_,_,hr⟩:=Kit.own_form ho h0
  refine⟨_,_,rfl,fun k hk=>⟨g,0,rfl,Kit.zao ho,fun j v hj=>?_⟩⟩
  have hj3:j < 3:=by
   rcases Nat.lt_or_ge j 3 with h | h
   ·exact h
   ·rw [List.getElem?_eq_none (by simpa using h)] at hj;cases hj
  obtain⟨ad,e,_,hc⟩:=hr (k * 3+j) _ (hF.2 k j hk hj3)
  cases e
  rw [Go.WideShapes.add_plain] at hc
  rw [show 0+k * 3+j=0+(k * 3+j) by omega,hc]
  obtain rfl | rfl | rfl:j=0∨j=1∨j=2:=by omega
  ·simpa using hj
  ·simpa using hj
  ·simpa using hj
theorem one_w3 (a b c:Int):∀ u∈[Value.int .i8 a,.int .i8 b,.int .i8 c],u.oneCell'=true:=by intro v hv;simp at hv;rcases hv with rfl | rfl | rfl <;> rfl
theorem info_w3:(Tryz.prog.info? 200).map (fun i=>(i.zero,i.size,i.bytes))=some (some (.agg #[.int .i8 0,.int .i8 0,.int .i8 0]),3,3):=by kernel_rfl
theorem weights_to (A1:Option Addr) (n1 c1:Nat) (AP:Option Addr) (nP cP:Nat) (ps:List Int) (hpl:ps.length=nP) (hnP:nP≤100000) (x0 x1 x2 x8 x11 x12 x13 x14 x15 x16 x17 x18:Value) (K S P O Z:Int) (WA BA:Option Addr) (nW cW nB cB:Nat) (ws:List Int) (hws:ws.length=nW) (hwc:nW≤cW) (hcm:cW≤maxLen) (hwb:I8b ws)
  (d o oo:Nat) (hd1:1≤d) (hd2:d≤1024) (ho:o < oo) (hnW:oo * 3 * 3 * d=nW) (hn16:nW≤16384) (hps:∀ q,q < nP→0≤ps.getD q 0∧ps.getD q 0+2 * d < 9 * d)
  (w:World) (hrp:Kit.Rd w w.heap.size AP (I64v ps)) (hrw:Kit.Rd w w.heap.size WA (I8s ws)) :
  Calls Tryz.prog 140 #[.agg #[.slice A1 n1 c1,.slice AP nP cP],.agg #[x0,x1,x2,.int .i64 K,.int .i64 S,.int .i64 P,.int .i64 O,.int .i8 Z,x8,.slice WA nW cW,.slice BA nB cB,x11,x12,x13,x14,x15,x16,x17,x18],.int .i64 (d:Int),.int .i64 (o:Int)] w fun e w'=>∃ AW cV,e=.returned (.slice AW nP cV)∧Wts w' w'.heap.size AW nP (Wl ws (o * 3 * 3 * d) d ps)∧Below w.heap.size w w':=by
 have hle:=place_le (a:=oo) (b:=1) (c:=1) (d:=9 * d) ho (show 0 < 1 by omega) (show 0 < 1 by omega)
 have hb9:o * 3 * 3 * d+9 * d≤nW:=by
  have e1:((o * 1+0) * 1+0) * (9 * d)=o * 3 * 3 * d:=by simp only [Nat.mul_one,Nat.add_zero];rw [← Nat.mul_assoc,Nat.mul_assoc o 3 3]
  have e2:oo * 1 * 1 * (9 * d)=oo * 3 * 3 * d:=by simp only [Nat.mul_one];rw [← Nat.mul_assoc,Nat.mul_assoc oo 3 3]
  rw [e1,e2,hnW] at hle
  exact hle
 have hob:o≤16384:=by
  have h1:o * 1≤o * (3 * 3 * d):=Nat.mul_le_mul_left _ (by omega)
  rw [← Nat.mul_assoc, ← Nat.mul_assoc] at h1
  omega
 obtain⟨bs,hbs⟩:∃ bs,o * 3 * 3 * d=bs:=⟨_,rfl⟩
 rw [hbs] at hb9 ⊢
 have m1:IntKind.i64.wrap ((o:Int) * 3)=((o * 3:Nat):Int):=by rw [IntWalk.i64_in _ (by omega)];omega
 have m2:IntKind.i64.wrap (((o * 3:Nat):Int) * 3)=((o * 3 * 3:Nat):Int):=by rw [IntWalk.i64_in _ (by omega)];omega
 have m3:IntKind.i64.wrap (((o * 3 * 3:Nat):Int) * (d:Int))=(bs:Int):=by rw [← Int.natCast_mul,hbs];exact IntWalk.i64_in _ (by omega)
 generalize o * 3 * 3=o9 at m2 m3 hbs
 generalize o * 3=o3 at m1 m2
 obtain⟨bw,ow,rfl,hbw,hcw⟩:=zav hrw (j:=bs) (by omega)
 have s1:(0:Int)≤(bs:Int):=by omega
 have s2:(bs:Int)≤(nW:Int):=by omega
 have s3:bs≤nW:=by omega
 have s4:¬ cW=bs:=by omega
 obtain⟨mW,hmW⟩:∃ mW,nW - bs=mW:=⟨_,rfl⟩
 have hm9:9 * d≤mW:=by omega
 obtain⟨i3,hc0,hc1,hc2,hc3⟩:=info_parts info_w3
 have HPL:=hid hpl
 have HPS:=hid hps
 have HCW:=hid hcw
 have HB9:=hid hb9
 have HRP:=hid hrp
 have HWS:=hid hws
 have HWB:=hid hwb
 clear hpl hps hcw hb9 hrp hrw hws hwb hle hnW hbs ho
 go_enter Tryz.func140,Tryz.ntmps140
 go_upto_region 2 with fail
 have hNd:zai (w.heap.size+1) x0 x1 x2 x8 x11 x12 x13 x14 x15 x16 x17 x18 K S P O Z (some ⟨bw,ow,none⟩) BA nW cW nB cB ((w.alloc (.cells #[.slice A1 n1 c1,.slice AP nP cP] 178)).alloc (.cells #[x0,x1,x2,.int .i64 K,.int .i64 S,.int .i64 P,.int .i64 O,.int .i8 Z,x8,.slice (some ⟨bw,ow,none⟩) nW cW,.slice BA nB cB,x11,x12,x13,x14,x15,x16,x17,x18] 44)):=by
  have h9:=zai.new x0 x1 x2 x8 x11 x12 x13 x14 x15 x16 x17 x18 K S P O Z (some ⟨bw,ow,none⟩) BA nW cW nB cB 44 (w.alloc (.cells #[.slice A1 n1 c1,.slice AP nP cP] 178))
  simpa using h9
 have hL1:((w.alloc (.cells #[.slice A1 n1 c1,.slice AP nP cP] 178)).alloc (.cells #[x0,x1,x2,.int .i64 K,.int .i64 S,.int .i64 P,.int .i64 O,.int .i8 Z,x8,.slice (some ⟨bw,ow,none⟩) nW cW,.slice BA nB cB,x11,x12,x13,x14,x15,x16,x17,x18] 44)).cell? ⟨w.heap.size,1,none⟩=some (.slice AP nP cP):=by go_cell
 have hB:Below w.heap.size w ((w.alloc (.cells #[.slice A1 n1 c1,.slice AP nP cP] 178)).alloc (.cells #[x0,x1,x2,.int .i64 K,.int .i64 S,.int .i64 P,.int .i64 O,.int .i8 Z,x8,.slice (some ⟨bw,ow,none⟩) nW cW,.slice BA nB cB,x11,x12,x13,x14,x15,x16,x17,x18] 44)):=((Below.refl _ _).alloc (le_refl _) _).alloc (by simp) _
 have n9:=hNd.at 9 _ rfl
 clear hNd
 generalize ((w.alloc (.cells #[.slice A1 n1 c1,.slice AP nP cP] 178)).alloc (.cells #[x0,x1,x2,.int .i64 K,.int .i64 S,.int .i64 P,.int .i64 O,.int .i8 Z,x8,.slice (some ⟨bw,ow,none⟩) nW cW,.slice BA nB cB,x11,x12,x13,x14,x15,x16,x17,x18] 44))=w0 at n9 hL1 hB ⊢
 have HB:=hid hB
 clear hB
 go_upto_region 3 with fail
 go_upto_region 4 with fail
 try rw [hmW]
 clear m1 m2 m3 n9 hL1 hmW
 have HF0:=hid (W3.start (Wl ws bs d ps))
 have HO0:=hid (own_nil w0 w.heap.size 200 3)
 go_loopw [9,24] (fun v u wr=>∃ (k:Nat) (F:List Value),k≤nP∧u=.int .i64 k∧Hid (W3 (Wl ws bs d ps) k F)∧Hid (wr.ownsRow w.heap.size 200 3 v k F)∧Hid (Below w.heap.size w wr)) (fun _ u _=>nP - (intOf u).toNat)
 case atStart=>exact⟨0,_,Nat.zero_le _,rfl,HF0,HO0,HB⟩
 case round =>
  clear HF0 HO0 HB
  obtain⟨k,F,hk,rfl,HF,HOW,HB⟩:=hrel
  obtain⟨Av,cv,rfl, -, -, -⟩:=Kit.zam HOW.out
  by_cases hlt:k < nP
  ·have hki:(k:Int) < (nP:Int):=by omega
   have hk0:(0:Int)≤(k:Int):=by omega
   obtain⟨bp,op,rfl,hbp,hcp⟩:=zav (HRP.out.below HB.out) (j:=k) (by have:=HPL.out;omega)
   have hcx:=hcp k (by have:=HPL.out;omega)
   obtain⟨y1,y2⟩:=HPS.out k hlt
   have hW:=fun j=>show Wl ws bs d ps k j=ws.getD (bs+(ps.getD k 0).toNat+j * d) 0 from rfl
   generalize ps.getD k 0=p at hcx y1 y2 hW
   obtain⟨pn,rfl⟩:∃ pn:Nat,p=(pn:Int):=⟨p.toNat,by omega⟩
   rw [Int.toNat_natCast] at hW
   obtain⟨q1,hq1⟩:∃ q1,pn+d=q1:=⟨_,rfl⟩
   obtain⟨d2,hd2'⟩:∃ d2,2 * d=d2:=⟨_,rfl⟩
   obtain⟨q2,hq2⟩:∃ q2,pn+d2=q2:=⟨_,rfl⟩
   have e1:IntKind.i64.wrap ((pn:Int)+(d:Int))=(q1:Int):=by rw [IntWalk.i64_in _ (by omega)];omega
   have e2:IntKind.i64.wrap (2 * (d:Int))=(d2:Int):=by rw [IntWalk.i64_in _ (by omega)];omega
   have e3:IntKind.i64.wrap ((pn:Int)+(d2:Int))=(q2:Int):=by rw [IntWalk.i64_in _ (by omega)];omega
   have g0:(0:Int)≤(pn:Int):=by omega
   have g1:(pn:Int) < (mW:Int):=by omega
   have g2:(0:Int)≤(q1:Int):=by omega
   have g3:(q1:Int) < (mW:Int):=by omega
   have g4:(0:Int)≤(q2:Int):=by omega
   have g5:(q2:Int) < (mW:Int):=by omega
   have hcell:∀ t,t < 9 * d→wr.cell? ⟨bw,ow+bs+t,none⟩=some (.int .i8 (ws.getD (bs+t) 0)):=fun t ht=>by
    rw [Nat.add_assoc]
    exact (HB.out.cell (p:=⟨bw,ow+(bs+t),none⟩) hbw).trans (HCW.out (bs+t) (by have:=HWS.out;have:=HB9.out;omega))
   have h0:=hcell pn (by omega)
   have h1:=hcell q1 (by omega)
   have h2:=hcell q2 (by omega)
   have hF2:=HF.out.step (a:=ws.getD (bs+pn) 0) (b:=ws.getD (bs+q1) 0) (c:=ws.getD (bs+q2) 0) (by rw [hW];congr 1;omega) (by rw [hW];congr 1;omega) (by rw [hW];congr 1;omega)
   generalize ws.getD (bs+pn) 0=a0 at h0 hF2
   generalize ws.getD (bs+q1) 0=a1 at h1 hF2
   generalize ws.getD (bs+q2) 0=a2 at h2 hF2
   have HF2:=hid hF2
   have HBS:=hid hbw
   clear hW hcell hF2 hq1 hd2' hq2 hcp y1 y2
   go_upto_region 6 with fail
   refine wp_region_held_drew (S:=fun w'=>w'.cell? ⟨bw,ow+bs+pn,none⟩=some (.int .i8 a0)∧w'.cell? ⟨bw,ow+bs+q1,none⟩=some (.int .i8 a1)∧w'.cell? ⟨bw,ow+bs+q2,none⟩=some (.int .i8 a2)) (by kernel_rfl) ⟨h0,h1,h2⟩ (fun hHeld=>?_)
   clear h0 h1 h2 s1 s2 s3
   replace HB:=hid HB.out.drew
   have HOW2:Hid (wr.drew.ownsRow w.heap.size 200 3 (.slice Av k cv) k F):=hid (Kit.own_below HOW.out (Below.refl _ _).drew)
   have hsz:w.heap.size≤wr.drew.heap.size:=HB.out.size
   have hbz:bw < wr.drew.heap.size:=by omega
   clear HOW
   generalize wr.drew=Wa at HB HOW2 hHeld hsz hbz ⊢
   refine Tk.x 0 rfl ?_
   try simp only [Tk.put]
   refine Tk.x 1 rfl ?_
   try simp only [Tk.put]
   refine Tk.x 2 rfl ?_
   try simp only [Tk.put]
   refine Tk.x 3 rfl ?_
   try simp only [Tk.put]
   refine Tk.y 4 (v:=?_) rfl ?_ ?_
   rotate_left
   ·intro wS hSw
    obtain⟨hq1,hq2,hq3⟩:=hSw
    first | (go_simp;done) | (go_simp;with_reducible rfl)
   try simp only [Tk.put]
   refine Tk.x 5 rfl ?_
   try simp only [Tk.put]
   refine Tk.x 6 rfl ?_
   try simp only [Tk.put]
   refine Tk.x 7 rfl ?_
   try simp only [Tk.put]
   refine Tk.x 8 rfl ?_
   try simp only [Tk.put]
   refine Tk.x 9 rfl ?_
   try simp only [Tk.put]
   refine Tk.y 10 (v:=?_) rfl ?_ ?_
   rotate_left
   ·intro wS hSw
    obtain⟨hq1,hq2,hq3⟩:=hSw
    first | (go_simp;done) | (go_simp;with_reducible rfl)
   try simp only [Tk.put]
   refine Tk.x 11 rfl ?_
   try simp only [Tk.put]
   refine Tk.x 12 rfl ?_
   try simp only [Tk.put]
   refine Tk.x 13 rfl ?_
   try simp only [Tk.put]
   refine Tk.x 14 rfl ?_
   try simp only [Tk.put]
   refine Tk.x 15 rfl ?_
   try simp only [Tk.put]
   refine Tk.x 16 rfl ?_
   try simp only [Tk.put]
   refine Tk.y 17 (v:=?_) rfl ?_ ?_
   rotate_left
   ·intro wS hSw
    obtain⟨hq1,hq2,hq3⟩:=hSw
    first | (go_simp;done) | (go_simp;with_reducible rfl)
   try simp only [Tk.put]
   refine Tk.x 18 rfl ?_
   try simp only [Tk.put]
   refine Tk.s 19 rfl (fun Kq hK=>?_)
   go_simp
   refine hK.out _ _ ?_ (fun hHeld=>?_)
   ·exact⟨(((Below.refl Wa.heap.size Wa).alloc (le_refl _) (.cells #[.int .i8 a0,.int .i8 a1,.int .i8 a2] 200)).cell (p:=⟨bw,ow+bs+pn,none⟩) (by show bw < _;omega)).trans hHeld.1,(((Below.refl Wa.heap.size Wa).alloc (le_refl _) (.cells #[.int .i8 a0,.int .i8 a1,.int .i8 a2] 200)).cell (p:=⟨bw,ow+bs+q1,none⟩) (by show bw < _;omega)).trans hHeld.2.1,(((Below.refl Wa.heap.size Wa).alloc (le_refl _) (.cells #[.int .i8 a0,.int .i8 a1,.int .i8 a2] 200)).cell (p:=⟨bw,ow+bs+q2,none⟩) (by show bw < _;omega)).trans hHeld.2.2⟩
   clear hK Kq
   try simp only [Tk.put]
   replace HB:=hid (HB.out.alloc HB.out.size (.cells #[.int .i8 a0,.int .i8 a1,.int .i8 a2] 200))
   replace HOW2:=hid (HOW2.out.alloc (.cells #[.int .i8 a0,.int .i8 a1,.int .i8 a2] 200))
   have HXR:=hid (Kit.Rd.new Wa [.int .i8 a0,.int .i8 a1,.int .i8 a2] 200 (lt_succ_self _))
   replace hsz:w.heap.size≤(Wa.alloc (.cells #[.int .i8 a0,.int .i8 a1,.int .i8 a2] 200)).heap.size:=by simp;omega
   replace hbz:bw < (Wa.alloc (.cells #[.int .i8 a0,.int .i8 a1,.int .i8 a2] 200)).heap.size:=by simp;omega
   generalize Wa.alloc (.cells #[.int .i8 a0,.int .i8 a1,.int .i8 a2] 200)=Wc at HB HOW2 hHeld HXR hsz hbz ⊢
   refine Tk.s 20 rfl (fun Kq hK=>?_)
   refine Kit.zbs _ rfl (.tmp 28) (.tmp 47) _ rfl w.heap.size 200 i3 (.agg #[.int .i8 0,.int .i8 0,.int .i8 0]) 3 3 Tryz.underlying182 hc0 hc1 hc2 hc3 rfl (by decide) _ k F rfl HOW2.out _ _ 1 1 [.int .i8 a0,.int .i8 a1,.int .i8 a2] rfl rfl HXR.out (one_w3 a0 a1 a2) (by unfold maxLen;omega) (by omega) hsz ?_
   intro v5 w5 hown5 hg5 _
   obtain⟨A5,c5,rfl, -, -, -⟩:=Kit.zam hown5
   have hb5:Below w.heap.size Wc w5:=(Below.refl _ _).grown hg5 hsz (Kit.zaj HOW2.out)
   have hS1:w5.cell? ⟨bw,ow+bs+pn,none⟩=some (.int .i8 a0)∧w5.cell? ⟨bw,ow+bs+q1,none⟩=some (.int .i8 a1)∧w5.cell? ⟨bw,ow+bs+q2,none⟩=some (.int .i8 a2):=⟨(hb5.cell (p:=⟨bw,ow+bs+pn,none⟩) hbw).trans hHeld.1,(hb5.cell (p:=⟨bw,ow+bs+q1,none⟩) hbw).trans hHeld.2.1,(hb5.cell (p:=⟨bw,ow+bs+q2,none⟩) hbw).trans hHeld.2.2⟩
   replace HB:=hid (HB.out.trans hb5)
   replace HOW2:=hid hown5
   clear hown5 hg5 hb5 hHeld HXR
   dsimp only
   refine hK.out _ _ ?_ (fun hHeld=>?_)
   ·exact hS1
   clear hK Kq
   try simp only [Tk.put]
   refine Tk.x 21 rfl ?_
   try simp only [Tk.put]
   refine wpAnyH_done (by kernel_rfl) ?_ _
   clear hHeld hsz hbz
   go_wp2_with fail
   go_roundw
   case rel=>exact⟨k+1,_,by omega,by go_num,HF2,HOW2,HB⟩
   case measure=>simp [intOf];omega
  ·obtain rfl:k=nP:=by omega
   have hki:¬ (k:Int) < (k:Int):=Int.lt_irrefl _
   obtain⟨AW,cV,e9,hwt⟩:=wts_of HF.out HOW.out
   have HWT:=hid hwt
   rw [e9]
   clear hwt HF HOW
   go_wp2_with fail
   go_ret
   exact⟨_,⟨_,rfl⟩,HWT.out,HB.out⟩
end CLane
end
section
namespace CPool
open Go Go.ChangeShapes Go.WideShapes Go.ChangeAt Go.RowKit
open Plain CSat CShape CTensor CConv
def meanZ (zs:List Int):Int:=IntKind.i8.wrap (nearZ (psum (fun i=>zs.getD i 0) zs.length) zs.length)
end CPool
end
section
namespace CAct
open Plain CSat CFix CShape CTensor CConv
theorem tensB_shape {H W C:Int} {n:Nat} (h:zad H W C=false):tensB H W C n=false:=by simp [tensB,h]
theorem rsums_to (H W C:Int) (A:Option Addr) (n c:Nat) (b:Bool) (hb0:tensB H W C n=b) (w:World) :
  Calls Tryz.prog 129 #[.agg #[.int .i64 H,.int .i64 W,.int .i64 C,.slice A n c]] w fun e w'=>e=.returned (.bool b)∧Below w.heap.size w w':=by
 cases hs:zad H W C
 ·obtain rfl:false=b:=(tensB_shape hs).symm.trans hb0
  have HS:=hid hs
  clear hs hb0
  go_enter Tryz.func129,Tryz.ntmps129
  go_wp2_with (first
  | (go_at_call 120
     have hal:Below w.heap.size w (w.alloc (.cells #[.int .i64 H,.int .i64 W,.int .i64 C,.slice A n c] 83)):=(Below.refl _ _).alloc (by first | exact le_refl _ | (simp;done) | (simp;omega)) _
     refine (fill_no H W C 0 HS.out _).mono ?_
     rintro e w1 ⟨rfl,hb⟩
     have hh:Below w.heap.size w w1:=hal.trans (hb.mono hal.size)
     have qTA:=(zbd H W C A n c 83) w
     try simp only [World.size_alloc] at qTA
     have TA:=hid (qTA.below (by first | (simp;done) | (simp;omega)) hb)
     have yTA:w.heap.size < w1.heap.size:=by have:=hb.size;simp at this;omega
     clear qTA
     have HBW:Hid (Below w.heap.size w w1):=hid hh
     obtain⟨tap0,tap1,tap2,tap3⟩:=TA.out
     clear hb hh hal))
  go_ret
  exact⟨rfl,HBW.out.alloc HBW.out.size _⟩
 ·obtain⟨a1,a2,a3,a4,a5,a6,a7⟩:=zab hs
  obtain⟨p1,p2⟩:=prod_bd a1 a2 a3 a4 a5 a6
  obtain⟨m,hm⟩:∃ m:Nat,H * W * C=m:=⟨(H * W * C).toNat,by omega⟩
  have hbn:decide (n=m)=b:=by
   rw [← hb0]
   unfold tensB
   rw [hs,hm]
   by_cases e:n=m <;> simp [e] <;> omega
  have HS:=hid hs
  have HM:=hid hm
  clear hs hb0 hm p1 p2 a1 a2 a3 a4 a5 a6 a7
  by_cases e:n=m
  ·obtain rfl:true=b:=by rw [← hbn];simp [e]
   have e1:((n:Int) == (m:Int))=true:=by simp [e]
   clear e hbn
   go_enter Tryz.func129,Tryz.ntmps129
   go_wp2_with (first
  | (go_at_call 120
     have hal:Below w.heap.size w (w.alloc (.cells #[.int .i64 H,.int .i64 W,.int .i64 C,.slice A n c] 83)):=(Below.refl _ _).alloc (by first | exact le_refl _ | (simp;done) | (simp;omega)) _
     refine (fill_yes H W C 0 m HS.out HM.out _).mono ?_
     rintro e w1 ⟨v1,rfl,ho1,hb⟩
     have hh:Below w.heap.size w w1:=hal.trans (hb.mono hal.size)
     have qTA:=(zbd H W C A n c 83) w
     try simp only [World.size_alloc] at qTA
     have TA:=hid (qTA.below (by first | (simp;done) | (simp;omega)) hb)
     have yTA:w.heap.size < w1.heap.size:=by have:=hb.size;simp at this;omega
     clear qTA
     have HBW:Hid (Below w.heap.size w w1):=hid hh
     obtain⟨A1,c1,rfl, -, -, -⟩:=Kit.zam ho1
     clear ho1
     obtain⟨tap0,tap1,tap2,tap3⟩:=TA.out
     clear hb hh hal))
   go_ret
   exact⟨rfl,HBW.out.alloc HBW.out.size _⟩
  ·obtain rfl:false=b:=by rw [← hbn];simp [e]
   have e1:((n:Int) == (m:Int))=false:=by simp;omega
   have e2:¬ (n:Int)=(m:Int):=by omega
   clear e hbn
   go_enter Tryz.func129,Tryz.ntmps129
   go_wp2_with (first
  | (go_at_call 120
     have hal:Below w.heap.size w (w.alloc (.cells #[.int .i64 H,.int .i64 W,.int .i64 C,.slice A n c] 83)):=(Below.refl _ _).alloc (by first | exact le_refl _ | (simp;done) | (simp;omega)) _
     refine (fill_yes H W C 0 m HS.out HM.out _).mono ?_
     rintro e w1 ⟨v1,rfl,ho1,hb⟩
     have hh:Below w.heap.size w w1:=hal.trans (hb.mono hal.size)
     have qTA:=(zbd H W C A n c 83) w
     try simp only [World.size_alloc] at qTA
     have TA:=hid (qTA.below (by first | (simp;done) | (simp;omega)) hb)
     have yTA:w.heap.size < w1.heap.size:=by have:=hb.size;simp at this;omega
     clear qTA
     have HBW:Hid (Below w.heap.size w w1):=hid hh
     obtain⟨A1,c1,rfl, -, -, -⟩:=Kit.zam ho1
     clear ho1
     obtain⟨tap0,tap1,tap2,tap3⟩:=TA.out
     clear hb hh hal))
   go_ret
   exact⟨rfl,HBW.out.alloc HBW.out.size _⟩
end CAct
end
section
namespace CPad
open Go Go.ChangeShapes Go.WideShapes Go.ChangeAt Go.RowKit
open Plain CSat CShape CTensor
theorem za1 (H W C:Int) (A:Option Addr) (n c:Nat) (p:Int) (r:Int) (hr:(if tensB H W C n=true then (if p < 0∨4 < p then 2 else 0) else 5)=r) (w:World) :
  Calls Tryz.prog 91 #[.agg #[.int .i64 H,.int .i64 W,.int .i64 C,.slice A n c],.int .i64 p] w fun e w'=>e=.returned (.int .i64 r)∧Below w.heap.size w w':=by
 cases ht:tensB H W C n
 ·rw [ht] at hr
  simp at hr
  subst hr
  have HT:=hid ht
  clear ht
  go_enter Tryz.func91,Tryz.ntmps91
  go_wp2_with (go_at_call 13;(refine (zac H W C A n c false HT.out _).mono ?_);rintro e w1 ⟨rfl,hb⟩;(have HB:=hid (((Below.refl w.heap.size w).alloc (le_refl _) _).trans (hb.mono (by simp))));clear hb)
  go_ret
  exact⟨rfl,HB.out⟩
 ·rw [ht,if_pos rfl] at hr
  have HT:=hid ht
  clear ht
  rcases (show p < 0∨(0≤p∧4 < p)∨(0≤p∧p≤4) by omega) with h | ⟨h,h2⟩ | ⟨h,h2⟩
  ·rw [if_pos (Or.inl h)] at hr
   subst hr
   go_enter Tryz.func91,Tryz.ntmps91
   go_wp2_with (go_at_call 13;(refine (zac H W C A n c true HT.out _).mono ?_);rintro e w1 ⟨rfl,hb⟩;(have HB:=hid (((Below.refl w.heap.size w).alloc (le_refl _) _).trans (hb.mono (by simp))));clear hb)
   go_ret
   exact⟨rfl,HB.out⟩
  ·rw [if_pos (Or.inr h2)] at hr
   subst hr
   go_enter Tryz.func91,Tryz.ntmps91
   go_wp2_with (go_at_call 13;(refine (zac H W C A n c true HT.out _).mono ?_);rintro e w1 ⟨rfl,hb⟩;(have HB:=hid (((Below.refl w.heap.size w).alloc (le_refl _) _).trans (hb.mono (by simp))));clear hb)
   go_ret
   exact⟨rfl,HB.out⟩
  ·rw [if_neg (by omega)] at hr
   subst hr
   go_enter Tryz.func91,Tryz.ntmps91
   go_wp2_with (go_at_call 13;(refine (zac H W C A n c true HT.out _).mono ?_);rintro e w1 ⟨rfl,hb⟩;(have HB:=hid (((Below.refl w.heap.size w).alloc (le_refl _) _).trans (hb.mono (by simp))));clear hb)
   go_ret
   exact⟨rfl,HB.out⟩
theorem widened_to (H W C p:Int) (h1:1≤H) (h2:H≤16) (h3:1≤W) (h4:W≤16) (p1 : -4≤p) (p2:p≤4) (w:World) :
  Calls Tryz.prog 93 #[.agg #[.int .i64 H,.int .i64 W,.int .i64 C],.int .i64 p] w fun e w'=>e=.returned (.agg #[.int .i64 (H+2 * p),.int .i64 (W+2 * p),.int .i64 C])∧Below w.heap.size w w':=by
 go_enter Tryz.func93,Tryz.ntmps93
 go_wp2_with fail
 refine bodyPost_ret (Kit.za6 rfl _ _ (w.heap.size+1) 0 [.int .i64 (H+2 * p),.int .i64 (W+2 * p),.int .i64 C] _ rfl (Kit.zaq (by go_cell) (by go_cell) (by go_cell)) Tryz.underlying24 rfl (by kernel_rfl)) rfl ?_
 exact⟨rfl,by go_grown⟩
def MovedAt (B:Nat) (H W C:Int) (A:Option Addr) (n c:Nat) (p q z:Int) (wd:World):Prop :=
 BoxAt B H W C A n c wd∧wd.cell? ⟨B+1,0,none⟩=some (.int .i64 p)∧wd.cell? ⟨B+2,0,none⟩=some (.int .i64 q)∧wd.cell? ⟨B+3,0,none⟩=some (.int .i8 z)
theorem MovedAt.below {B B':Nat} {H W C:Int} {A:Option Addr} {n c:Nat} {p q z:Int} {w w':World} (h:MovedAt B H W C A n c p q z w) (hB:B+4≤B') (hb:Below B' w w'):MovedAt B H W C A n c p q z w':=by
 obtain⟨h0,h1,h2,h3⟩:=h
 exact⟨h0.below (by omega) hb,(hb.cell (p:=⟨B+1,0,none⟩) (by show B+1 < B';omega)).trans h1,(hb.cell (p:=⟨B+2,0,none⟩) (by show B+2 < B';omega)).trans h2,(hb.cell (p:=⟨B+3,0,none⟩) (by show B+3 < B';omega)).trans h3⟩
def movedF (B:Nat):Value:=.func (.func 121) #[] #[.pointer (some ⟨B,0,none⟩),.pointer (some ⟨B+1,0,none⟩),.pointer (some ⟨B+2,0,none⟩),.pointer (some ⟨B+3,0,none⟩)]
theorem moved_to (H W C:Int) (A:Option Addr) (n c:Nat) (p q z:Int) (w:World) :
  Calls Tryz.prog 94 #[.agg #[.int .i64 H,.int .i64 W,.int .i64 C,.slice A n c],.int .i64 p,.int .i64 q,.int .i8 z] w fun e w'=>e=.returned (movedF w.heap.size)∧MovedAt w.heap.size H W C A n c p q z w'∧w.heap.size+4≤w'.heap.size∧Below w.heap.size w w':=by
 go_enter Tryz.func94,Tryz.ntmps94
 go_wp2_with fail
 go_ret
 refine⟨rfl,⟨⟨?_,?_,?_,?_⟩,?_,?_,?_⟩,by simp,by go_grown⟩
 all_goals go_cell
theorem moved1_in (H W C:Int) (A:Option Addr) (zs:List Int) (n c:Nat) (hn:zs.length=n) (hc:n≤c) (ht:tensB H W C n=true) (r s k p q z h v:Int) (hh:IntKind.i64.wrap (r - p)=h) (hv:IntKind.i64.wrap (s - q)=v) (k0:0≤k) (k1:k < C) (h0:0≤h) (h1:h < H) (v0:0≤v) (v1:v < W) (x:Int) (hx:zs.getD ((h * W+v) * C+k).toNat 0=x)
  {B Bz:Nat} (W0:World) (hM:MovedAt B H W C A n c p q z W0) (hB:B+4≤W0.heap.size) (hBz:Bz≤W0.heap.size) (hr:Kit.Rd W0 Bz A (I8s zs)) :
  Calls Tryz.prog 121 #[.int .i64 r,.int .i64 s,.int .i64 k,.pointer (some ⟨B,0,none⟩),.pointer (some ⟨B+1,0,none⟩),.pointer (some ⟨B+2,0,none⟩),.pointer (some ⟨B+3,0,none⟩)] W0 fun e w'=>e=.returned (.int .i8 x)∧Below W0.heap.size W0 w':=by
 have hs:zad H W C=true:=by simp only [tensB,Bool.and_eq_true] at ht;exact ht.1
 have hm:(n:Int)=H * W * C:=by simp only [tensB,Bool.and_eq_true,decide_eq_true_eq] at ht;exact ht.2
 obtain⟨g1,g2,g3,g4,g5,g6,g7,g8⟩:=place_bd hs hm h0 h1 v0 v1 k0 k1
 obtain⟨pp,hpp⟩:∃ pp:Nat,(h * W+v) * C+k=(pp:Int):=⟨((h * W+v) * C+k).toNat,by omega⟩
 have hpn:pp < n:=by omega
 have hn9:n≤1000000:=by
  have:=(zab hs).2.2.2.2.2.2;omega
 have hx2:zs[pp]?=some x:=by
  rw [hpp] at hx
  rw [List.getElem?_eq_getElem (by omega), ← hx]
  simp [List.getD_eq_getElem?_getD,List.getElem?_eq_getElem (show pp < zs.length by omega)]
 have hpl:placeB H W C n h v k=true:=by
  simp only [placeB,inB,Bool.and_eq_true,decide_eq_true_eq]
  exact⟨ht,hs,h0,h1,v0,v1,k0,k1⟩
 have HPL:=hid hpl
 have HPP:=hid hpp
 have HX:=hid hx2
 have HN:=hid hn
 have HR:=hid hr
 obtain⟨⟨c0,c1,c2,c3⟩,c4,c5,c6⟩:=hM
 clear hpl hpp hx2 hx hn hr ht hs hm g1 g2 g3 g4 g5 g6 g7 g8
 go_enter Tryz.func121,Tryz.ntmps121
 go_wp2_with (go_at_call 122;(refine (at_yes H W C A zs n c HN.out hc hn9 h v k pp HPL.out HPP.out x HX.out (B:=Bz) _ hBz HR.out).mono ?_);rintro e w1 ⟨rfl,hb⟩;(have HB:=hid hb);clear hb)
 go_ret
 exact⟨rfl,HB.out⟩
theorem moved1_out (H W C:Int) (A:Option Addr) (n c:Nat) (r s k p q z h v:Int) (hh:IntKind.i64.wrap (r - p)=h) (hv:IntKind.i64.wrap (s - q)=v) (ho:¬ (0≤h∧h < H∧0≤v∧v < W))
  {B:Nat} (W0:World) (hM:MovedAt B H W C A n c p q z W0) (hB:B+4≤W0.heap.size) :
  Calls Tryz.prog 121 #[.int .i64 r,.int .i64 s,.int .i64 k,.pointer (some ⟨B,0,none⟩),.pointer (some ⟨B+1,0,none⟩),.pointer (some ⟨B+2,0,none⟩),.pointer (some ⟨B+3,0,none⟩)] W0 fun e w'=>e=.returned (.int .i8 z)∧Below W0.heap.size W0 w':=by
 have hpl:placeB H W C n h v k=false:=by
  cases hb:placeB H W C n h v k
  ·rfl
  ·simp only [placeB,inB,Bool.and_eq_true,decide_eq_true_eq] at hb
   obtain⟨-, -,a1,a2,a3,a4, -⟩:=hb
   exact absurd ⟨a1,a2,a3,a4⟩ ho
 have HPL:=hid hpl
 obtain⟨⟨c0,c1,c2,c3⟩,c4,c5,c6⟩:=hM
 clear hpl ho
 go_enter Tryz.func121,Tryz.ntmps121
 go_wp2_with (go_at_call 122;(refine (at_no H W C A n c h v k HPL.out _).mono ?_);rintro e w1 ⟨rfl,hb⟩;(have c6:=(hb.cell (p:=⟨B+3,0,none⟩) (by show B+3 < _;omega)).trans c6);(have HB:=hid hb);clear hb)
 go_ret
 exact⟨rfl,HB.out⟩
theorem moved1_to (H W C:Int) (A:Option Addr) (zs:List Int) (n c:Nat) (hn:zs.length=n) (hc:n≤c) (ht:tensB H W C n=true) (r s k p q z h v:Int) (hh:IntKind.i64.wrap (r - p)=h) (hv:IntKind.i64.wrap (s - q)=v) (k0:0≤k) (k1:k < C) (x:Int) (hx:pixZ zs H W C h v k z=x)
  {B Bz:Nat} (W0:World) (hM:MovedAt B H W C A n c p q z W0) (hB:B+4≤W0.heap.size) (hBz:Bz≤W0.heap.size) (hr:Kit.Rd W0 Bz A (I8s zs)) :
  Calls Tryz.prog 121 #[.int .i64 r,.int .i64 s,.int .i64 k,.pointer (some ⟨B,0,none⟩),.pointer (some ⟨B+1,0,none⟩),.pointer (some ⟨B+2,0,none⟩),.pointer (some ⟨B+3,0,none⟩)] W0 fun e w'=>e=.returned (.int .i8 x)∧Below W0.heap.size W0 w':=by
 unfold pixZ at hx
 by_cases hi:0≤h∧h < H∧0≤v∧v < W
 ·rw [if_pos hi] at hx
  exact moved1_in H W C A zs n c hn hc ht r s k p q z h v hh hv k0 k1 hi.1 hi.2.1 hi.2.2.1 hi.2.2.2 x hx W0 hM hB hBz hr
 ·rw [if_neg hi] at hx
  subst hx
  exact moved1_out H W C A n c r s k p q z h v hh hv hi W0 hM hB
theorem BoxAt.newq (H W C:Int) (A:Option Addr) (n c:Nat) (T:TypeId) (w:World):BoxAt w.heap.size H W C A n c (w.alloc (.cells #[.int .i64 H,.int .i64 W,.int .i64 C,.slice A n c] T)):=BoxAt.new H W C A n c T w
def rowL (F:Nat→Int) (k:Nat):List Int:=(List.range k).map F
end CPad
end
section
namespace CKind
open Go Go.ChangeShapes Go.WideShapes Go.ChangeAt Go.RowKit Go.Deep Go.WideElems
open Plain CSat CFix CShape CTensor CConv
theorem gVar : Tryz.prog.globalNamed "stepwell/kinds.names" = some 0 := by kernel_rfl
theorem tVar:(Tryz.prog.globals[0]?).map (·.type)=some 170:=by kernel_rfl
def namesZ:List (List UInt8):=[[],[99,111,110,118],[100,101,112,116,104],[100,101,110,115,101],[109,97,120,112,111,111,108],[97,118,103,112,111,111,108],[106,111,105,110],[97,99,116],[112,97,100],[102,108,97,116]]
theorem namesZ_at:∀ n:Nat,n < 10→namesZ[n]?=some (kname n).data.toList:=by decide +kernel
theorem of_laid {W : World} (h : laidMetH Tryz.prog [("stepwell/kinds.names", Rows.laid_stepwell_kinds_names)] W) : NamesIn W := by
 rw [MakeChecks.laidMetH_plain _ _ _ (by kernel_rfl)] at h
 obtain⟨ps,⟨g0,t0,cs0,f0,p0,q0,hg0,ht0,hv0,hd0,_⟩,_,_⟩:=h
 obtain rfl:=Option.some.inj (gVar.symm.trans hg0)
 obtain rfl:=Option.some.inj (tVar.symm.trans ht0)
 obtain⟨xs,m1,rfl,hx1,hlen,hn3,hel⟩:=DataW.trod_array Tryz.underlying170 hd0
 have c1:Tryz.prog.cellsOf 9=1:=by kernel_rfl
 intro n hn
 rw [World.var?_cell hg0 hv0 n]
 have hi:=hel n hn
 rw [c1] at hi
 have hxs:xs.map (·.1)=namesZ.map fun z=>.lit (.string z):=by
  have:=congrArg Prod.fst hx1
  simp only [Rows.laid_stepwell_kinds_names,DataW.agg.injEq] at this
  exact this.symm
 have hxn:(xs.map (·.1))[n]?=some (.lit (.string (kname n).data.toList)):=by
  rw [hxs,List.getElem?_map,namesZ_at n hn];rfl
 rw [List.getElem?_map] at hxn
 obtain⟨x,hx,hx2⟩:=Option.map_eq_some_iff.1 hxn
 rw [hx] at hi
 obtain⟨k,e1,e2,_⟩:=DataW.trod_string Tryz.underlying9 hi
 have hk:k=kname n:=by
  rw [e2] at hx2
  simp only [DataW.lit.injEq,Lit.string.injEq] at hx2
  exact ByteArray.ext (Array.toList_inj.1 hx2)
 subst hk
 have h0:=congrArg (fun l:List Value=>l[0]?) e1
 simpa using h0
end CKind
end
end Go.Proofs.YtahekhpeomcfjaaGreatDoor
