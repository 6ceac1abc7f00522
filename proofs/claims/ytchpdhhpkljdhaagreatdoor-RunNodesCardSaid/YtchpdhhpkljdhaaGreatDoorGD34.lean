/- -/
import Derived.Test.YtchpdhhpkljdhaaGreatDoorGD17
open Go.Value renaming int→Jj
open Go.IntKind renaming i64→Jq
open Go.Lib (hid)
open Nat (le_refl lt_of_succ_lt lt_succ_self)
set_option linter.unusedVariables false
set_option linter.unusedSimpArgs false
set_option maxRecDepth 100000
set_option maxHeartbeats 16000000
namespace Go.Proofs.YtchpdhhpkljdhaaGreatDoor
namespace CConv
end CConv
namespace CSat
end CSat
namespace CWheel
end CWheel
open Go Go.ChangeShapes Go.WideShapes Go.ChangeAt Go.RowKit
section
namespace CLane
open Plain CSat CShape CTensor CConv FloatNum CFour CWheel
theorem zbc.set1 {B0:Nat} {ok:Nat→Prop} {M:Nat} {v1 v2:Value} {rows:List (List Int)} {ps:List Int} {w:World} (h:zbc B0 ok M v1 v2 rows ps w) {p:Addr} (hp:¬ ok p.block) (v:Value):zbc B0 ok M v1 v2 rows ps (w.setCell p v):=by
 obtain⟨vs,h⟩:=h
 exact⟨vs,h.set hp v⟩
theorem Two.set1 {g:Nat} {a b:Value} {w:World} (h:Two g a b w) {p:Addr} (hp:p.block≠g) (v:Value):Two g a b (w.setCell p v):=Two.grown h (grown_setCell w p v) (fun e=>hp (Option.some.inj e))
def LofI (w:World) (H W C:Int) (A:Option Addr) (n c:Nat) (x0 x1 x2 x8 x11 x12 x13 x14 x15 x16 x17 x18:Value) (K S P O Z:Int) (WA BA:Option Addr) (nW cW nB cB:Nat) (X Y U:Int) (g6 gs N:Nat) (G:Nat→Int) (wr:World):Prop :=
 OfAt w H W C A n c x0 x1 x2 x8 x11 x12 x13 x14 x15 x16 x17 x18 K S P O Z WA BA nW cW nB cB X Y U g6 wr∧wr.ownsRow gs 21 1 (.slice (some ⟨gs,0,none⟩) N N) N (I32v (nums G N))∧gs < wr.heap.size
section
variable {w:World} {H W C:Int} {A:Option Addr} {n c:Nat} {x0 x1 x2 x8 x11 x12 x13 x14 x15 x16 x17 x18:Value} {K S P O Z:Int} {WA BA:Option Addr} {nW cW nB cB:Nat} {X Y U:Int} {g6 gs N:Nat} {G:Nat→Int} {wr wr':World}
theorem LofI.below (h:LofI w H W C A n c x0 x1 x2 x8 x11 x12 x13 x14 x15 x16 x17 x18 K S P O Z WA BA nW cW nB cB X Y U g6 gs N G wr) (h6:w.heap.size+3≤g6) (hgs:g6 < gs) (hb:Below wr.heap.size wr wr'):LofI w H W C A n c x0 x1 x2 x8 x11 x12 x13 x14 x15 x16 x17 x18 K S P O Z WA BA nW cW nB cB X Y U g6 gs N G wr' :=
 ⟨h.1.below h6 (B':=wr.heap.size) (Nat.lt_trans hgs h.2.2) hb,Kit.own_below h.2.1 hb,Nat.lt_of_lt_of_le h.2.2 hb.size⟩
theorem LofI.stored (h:LofI w H W C A n c x0 x1 x2 x8 x11 x12 x13 x14 x15 x16 x17 x18 K S P O Z WA BA nW cW nB cB X Y U g6 gs N G wr) (h6:w.heap.size+3≤g6) (hgs:g6 < gs) (idx:Nat) (x:Int):LofI w H W C A n c x0 x1 x2 x8 x11 x12 x13 x14 x15 x16 x17 x18 K S P O Z WA BA nW cW nB cB X Y U g6 gs N (fun q=>if q=idx then x else G q) (wr.drew.setCell ⟨gs,idx,none⟩ (.int .i32 x)):=by
 refine⟨h.1.below h6 (B':=g6+1) (lt_succ_self _) ((Below.refl _ _).drew.setCell (p:=⟨gs,idx,none⟩) hgs _),?_,by simp;exact h.2.2⟩
 have hst:=((Kit.own_below h.2.1 (Below.refl wr.heap.size wr).drew).stored idx (.int .i32 x)).1
 have hset:(I32v (nums G N)).set idx (.int .i32 x)=I32v (nums (fun q=>if q=idx then x else G q) N):=by
  apply List.ext_getElem?
  intro q
  rw [List.getElem?_set]
  rcases Nat.lt_or_ge q N with hq | hq
  ·have e9:∀ F:Nat→Int,(I32v (nums F N))[q]?=some (.int .i32 (F q)):=fun F=>by unfold I32v;rw [List.getElem?_map,nums_at F hq];rfl
   rw [e9,e9]
   by_cases e:idx=q
   ·subst e
    rw [if_pos rfl,if_pos (by simp [I32v,nums];exact hq),if_pos rfl]
   ·rw [if_neg e,if_neg (fun h=>e h.symm)]
  ·have e8:(I32v (nums G N))[q]?=none:=List.getElem?_eq_none (by simp [I32v,nums];omega)
   have e7:(I32v (nums (fun q=>if q=idx then x else G q) N))[q]?=none:=List.getElem?_eq_none (by simp [I32v,nums];omega)
   rw [e7]
   by_cases e:idx=q
   ·subst e
    rw [if_pos rfl,if_neg (by simp [I32v,nums];omega)]
   ·rw [if_neg e,e8]
 rw [hset] at hst
 exact hst
end
theorem ps_in {H top:Int} {d:Nat} : ∀ (k:Nat),k≤3→∀ p∈psTo H top d k,0≤p∧p+2 * d < 9 * d
 | 0,_,p,h=>by cases h
 | k+1,hk,p,h=>by
   unfold psTo at h
   rcases List.mem_append.1 h with h | h
   ·exact ps_in k Zb3 p h
   ·split at h
    ·obtain⟨c,hc,rfl⟩:=List.mem_map.1 h
     have hc2:c < d:=by simpa using hc
     have h1:k * 3 * d≤2 * 3 * d:=Nat.mul_le_mul_right _ (Nat.mul_le_mul_right _ Zb3)
     omega
    ·cases h
theorem ps_at {H top:Int} {d nP:Nat} (hn:(psTo H top d 3).length=nP):∀ q,q < nP→0≤(psTo H top d 3).getD q 0∧(psTo H top d 3).getD q 0+2 * d < 9 * d:=fun q hq=>by
 rw [List.getD_eq_getElem?_getD,List.getElem?_eq_getElem Zb3]
 exact ps_in 3 (le_refl _) _ (List.getElem_mem _)
theorem grid_full {a b oo N:Nat} (hN:a * b * oo=N) {F G:Nat→Int} (h:∀ i j k:Nat,i < a→j < b→k < oo→G ((i * b+j) * oo+k)=F ((i * b+j) * oo+k)):nums G N=rowL F N:=by
 show (List.range N).map G=(List.range N).map F
 refine List.map_congr_left fun q hq=>?_
 have hq:q < N:=by simpa using hq
 have ho : 0 < oo := by rcases Nat.eq_zero_or_pos oo with h0 | h0; · rw [h0, Nat.mul_zero] at hN; omega
                        ·exact h0
 have hb : 0 < b := by rcases Nat.eq_zero_or_pos b with h0 | h0; · rw [h0, Nat.mul_zero, Nat.zero_mul] at hN; omega
                       ·exact h0
 have e1:q / oo * oo+q % oo=q:=Nat.div_add_mod' q oo
 have e2:q / oo / b * b+q / oo % b=q / oo:=Nat.div_add_mod' (q / oo) b
 have l1:q / oo / b < a:=by
  rw [Nat.div_div_eq_div_mul]
  exact Nat.div_lt_of_lt_mul (by rw [Nat.mul_comm oo b,Nat.mul_comm _ a, ← Nat.mul_assoc,hN];exact hq)
 have h9:=h (q / oo / b) (q / oo % b) (q % oo) l1 (Nat.mod_lt _ hb) (Nat.mod_lt _ ho)
 rw [e2,e1] at h9
 exact h9
theorem zbc.places {B0:Nat} {ok:Nat→Prop} {M:Nat} {v1:Value} {A2:Option Addr} {L c2:Nat} {rows:List (List Int)} {ps:List Int} {w:World} (h:zbc B0 ok M v1 (.slice A2 L c2) rows ps w):Kit.Rd w w.heap.size A2 (I64v ps):=by
 obtain⟨vs,h⟩:=h
 obtain⟨A,c,e, -, -,hr⟩:=Kit.zaj h.2.2.1
 cases e
 exact hr
theorem zbc.cap {B0:Nat} {ok:Nat→Prop} {M:Nat} {v2:Value} {A1:Option Addr} {L c1:Nat} {rows:List (List Int)} {ps:List Int} {w:World} (h:zbc B0 ok M (.slice A1 L c1) v2 rows ps w) (hM:M≤maxLen):L≤c1∧c1≤maxLen:=by
 obtain⟨vs,h⟩:=h
 obtain⟨A,c,e,h1,h2, -⟩:=h.rowsAt hM
 cases e
 exact⟨h1,h2⟩
theorem zbc.rowsRd {B0:Nat} {ok:Nat→Prop} {M:Nat} {v2:Value} {A1:Option Addr} {L c1:Nat} {rows:List (List Int)} {ps:List Int} {w:World} (h:zbc B0 ok M (.slice A1 L c1) v2 rows ps w) (hM:M≤maxLen):Kit.zb4 w w.heap.size .i16 A1 rows:=by
 obtain⟨vs,h⟩:=h
 obtain⟨A,c,e, -, -,hr⟩:=h.rowsAt hM
 cases e
 exact hr
theorem weights_to' (C:Int) (A1:Option Addr) (n1 c1:Nat) (AP:Option Addr) (nP cP:Nat) (ps:List Int) (hpl:ps.length=nP) (hnP:nP≤100000) (x0 x1 x2 x8 x11 x12 x13 x14 x15 x16 x17 x18:Value) (K S P O Z:Int) (WA BA:Option Addr) (nW cW nB cB:Nat) (ws:List Int) (hws:ws.length=nW) (hwc:nW≤cW) (hcm:cW≤maxLen) (hwb:I8b ws)
  (d o oo:Nat) (hd:C=(d:Int)) (hd1:1≤d) (hd2:d≤1024) (ho:o < oo) (hnW:oo * 3 * 3 * d=nW) (hn16:nW≤16384) (hps:∀ q,q < nP→0≤ps.getD q 0∧ps.getD q 0+2 * d < 9 * d)
  (w:World) (hrp:Kit.Rd w w.heap.size AP (I64v ps)) (hrw:Kit.Rd w w.heap.size WA (I8s ws)) :
  Calls Tryz.prog 77 #[.agg #[.slice A1 n1 c1,.slice AP nP cP],.agg #[x0,x1,x2,Jj Jq K,Jj Jq S,Jj Jq P,Jj Jq O,.int .i8 Z,x8,.slice WA nW cW,.slice BA nB cB,x11,x12,x13,x14,x15,x16,x17,x18],Jj Jq C,Jj Jq (o:Int)] w fun e w'=>∃ AW cV,e=.returned (.slice AW nP cV)∧Wts w' w'.heap.size AW nP (Wl ws (o * 3 * 3 * d) d ps)∧Below w.heap.size w w':=by
 subst hd
 exact weights_to A1 n1 c1 AP nP cP ps hpl hnP x0 x1 x2 x8 x11 x12 x13 x14 x15 x16 x17 x18 K S P O Z WA BA nW cW nB cB ws hws hwc hcm hwb d o oo hd1 hd2 ho hnW hn16 hps w hrp hrw
theorem upd_eq {F G:Nat→Int} {idx:Nat} {x:Int} (h:F idx=x) {q:Nat} (hq:G q=F q):(if q=idx then x else G q)=F q:=by
 by_cases e:q=idx
 ·rw [if_pos e,e,h]
 ·rw [if_neg e,hq]
theorem many_fit {R:List (List Int)} {L M:Nat} (hL:R.length=L) (h1:1≤L) (h2:L≤1024) (hM:∀ row∈R,row.length=M):manyN R L=M - 2:=by
 have h0:(R.getD 0 []).length=M:=by rw [row0 Zb3];exact hM _ (List.getElem_mem _)
 unfold manyN
 rw [if_pos (fit_of hL Zb3 Zb3 (fun k hk=>by rw [h0];exact hM _ (List.getElem_mem _))),h0]
theorem info_i32':(Tryz.prog.info? 21).map (fun i=>(i.zero,i.size,i.bytes))=some (some (.int .i32 0),1,4):=by kernel_rfl
theorem lof_yes (H W C:Int) (A:Option Addr) (zs:List Int) (n c:Nat) (hn:zs.length=n) (ht:tensB H W C n=true) (hz:I8b zs) (x0 x1 x2 x8 x11 x12 x13 x14 x15 x16 x17 x18:Value) (K S P O Z:Int) (WA BA:Option Addr) (nW cW nB cB:Nat) (ws:List Int) (hws:ws.length=nW) (hwc:nW≤cW) (hwm:cW≤maxLen) (hwb:I8b ws) (bs:List Int) (hbs:bs.length=nB)
  (he:convE H W C K S P O nW nB=0) (hK:K=3) (hS1:S=1) (a b oo d:Nat) (ha:zad H K S P=(a:Int)) (hb:zad W K S P=(b:Int)) (hO:O=(oo:Int)) (hd:C=(d:Int)) (N:Nat) (hN:a * b * oo=N) (z1 : -128≤Z) (z2:Z≤127)
  (w:World) (hr:Kit.Rd w w.heap.size A (I8s zs)) (hrw:Kit.Rd w w.heap.size WA (I8s ws)) (hrb:Kit.Rd w w.heap.size BA (I32v bs)) :
  Calls Tryz.prog 30 #[.agg #[Jj Jq H,Jj Jq W,Jj Jq C,.slice A n c],.agg #[x0,x1,x2,Jj Jq K,Jj Jq S,Jj Jq P,Jj Jq O,.int .i8 Z,x8,.slice WA nW cW,.slice BA nB cB,x11,x12,x13,x14,x15,x16,x17,x18]] w (MadeA w (a:Int) (b:Int) O N (rowL (gridF b oo (sumF zs ws bs H W C S P d 3 Z)) N) (Jj Jq 0)):=by
 obtain⟨hsl,hnW,hn16,hnB⟩:=convE_ok he
 obtain⟨hs0,har1,har2,hst1,hst2,hsr⟩:=za9 hsl
 obtain⟨-, -,k1,k2,st1,st2,pd1,pd2,pd3⟩:=za1 har1
 have haH:(a:Int)=H+2 * P - 2:=by
  rw [← ha];unfold zad;rw [if_pos har1,if_neg Zb3,hS1,hK,Int.ediv_one];omega
 have hbW:(b:Int)=W+2 * P - 2:=by
  rw [← hb];unfold zad;rw [if_pos har2,if_neg Zb3,hS1,hK,Int.ediv_one];omega
 rw [ha,hb] at hsr
 obtain⟨q1,q2,q3,q4,q5,q6,q7⟩:=zac hsr
 obtain⟨g1,g2,g3,g4,g5,g6',g7⟩:=zac hs0
 refine Za0 ?_;intro hNI hN2 hel hS
 have hf:(decide (K=3) && decide (S=1))=true:=by rw [decide_eq_true hK,decide_eq_true hS1];rfl
 have hnWN:oo * 3 * 3 * d=nW:=by
  have:((oo * 3 * 3 * d:Nat):Int)=(nW:Int):=by rw [hnW,hO,hK,hd];simp
  omega
 obtain⟨F,hF⟩:∃ F,F=gridF b oo (sumF zs ws bs H W C S P d 3 Z):=⟨_,rfl⟩
 have hFF:∀ i j k:Nat,j < b→k < oo→F ((i * b+j) * oo+k)=IntKind.i32.wrap (bs.getD k 0+IntKind.i32.wrap (winF zs ws H W C ((i:Int) - P) ((j:Int) - P) d 3 k Z)):=fun i j k hj hk=>by rw [hF,zdf b oo _ hj hk];unfold sumF;rw [hS1,Int.mul_one,Int.mul_one,wrap32_add']
 rw [← hF]
 obtain⟨pp,hP⟩:∃ pp:Nat,P=(pp:Int):=⟨P.toNat,by omega⟩
 obtain⟨Wn,hWn⟩:∃ Wn:Nat,W=(Wn:Int):=⟨W.toNat,by omega⟩
 obtain⟨M,hM⟩:∃ M,M=Wn+2 * pp:=⟨_,rfl⟩
 have hMb:M=b+2:=by omega
 have hpp:pp≤2:=by omega
 have hd1:1≤d∧d≤1024:=by omega
 have hboo:0 < nB:=by omega
 obtain⟨bb,ob,rfl,hbb,hcb⟩:=zax hrb (j:=0) Zb3
 obtain⟨i0,ha0,ha1,ha2,ha3⟩:=info_parts info_i32'
 have HT:=hid ht
 have HE:=hid he
 have HS:=hid hS
 have HSB:=hid hs0
 have HEL:=hid hel
 have HFF:=hid hFF
 have HF:=hid hf
 refine Z9n ?_;intro HN HZ HWS HWB
 have HBS:=hid hbs
 have HO:=hid hO
 have HD:=hid hd
 have HP:=hid hP
 have HWN:=hid hWn
 have HM:=hid hM
 have HMB:=hid hMb
 have HNN:=hid hN
 have HNW:=hid hnWN
 have HNB:=hid hnB
 have HR:=hid hr
 have HRW:=hid hrw
 have HCB:=hid hcb
 have HAH:=hid haH
 have HBW':=hid hbW
 clear hcb ht he hS hel hFF hf hn hz hws hwb hbs hO hd hP hWn hM hMb hN hnWN hr hrw hrb hnW hnB hsl hs0 har1 har2 hsr q7 hNI hF ha hb hK hS1 hst1 hst2 haH hbW g7
 go_enter Tryz.func30,Tryz.ntmps30
 have HR9:=HR
 have HRW9:=HRW
 go_upto_region 9 with (first
  | (go_at_call 13
     refine Z6w ?_;intro hal
     refine (zak H W C A n c true HT.out _).mono ?_
     rintro e w1 ⟨rfl,hb⟩
     refine Z5z ?_;intro hh TB yTB
     refine Z7w ?_;intro qTN
     refine Z61 ?_;intro TN yTN
     clear qTN
     refine Z7f ?_;intro qFR
     refine Z6c ?_;intro FR yFR
     clear qFR
     refine Z7i ?_;try clear HR HRW;intro HR HRW
     refine Z71 ?_;intro HBW
     obtain⟨tbp0,tbp1,tbp2,tbp3⟩:=TB.out
     clear hb hh hal)
  | (go_at_call 74
     refine Z72 ?_;intro hal
     refine (conv_to H W C x0 x1 x2 x8 x11 x12 x13 x14 x15 x16 x17 x18 K S P O Z WA (some ⟨bb,ob,none⟩) nW cW nB cB 0 _ HE.out HS.out _).mono ?_
     rintro e w2 ⟨rfl,hb⟩
     refine Z6r ?_;intro hh
     refine Z60 ?_;try clear TB yTB TN yTN FR yFR;intro TB yTB TN yTN FR yFR
     refine Z7i ?_;try clear HR HRW;intro HR HRW
     refine Z74 ?_;try clear HBW;intro HBW
     clear tbp0 tbp1 tbp2 tbp3
     refine Z9x ?_;intro hg2 tbp0 tbp1 tbp2 tbp3
     clear hb hh hal)
  | (go_at_call 29
     have hal:Below w2.heap.size w2 (w2.alloc (.cells #[Jj Jq (a:Int),Jj Jq (b:Int),Jj Jq O] 30)):=(Below.refl _ _).alloc Zb4 _
     refine (fits_to x0 x1 x2 x8 x11 x12 x13 x14 x15 x16 x17 x18 K S P O Z WA (some ⟨bb,ob,none⟩) nW cW nB cB true HF.out _).mono ?_
     rintro e w3 ⟨rfl,hb⟩
     refine Z8c ?_;intro hh
     have qTS:=(za2 (a:Int) (b:Int) O 30) w2
     try simp only [World.size_alloc] at qTS
     refine Zaz ?_;intro TS yTS
     clear qTS
     refine Z60 ?_;try clear TB yTB TN yTN FR yFR;intro TB yTB TN yTN FR yFR
     refine Z7i ?_;try clear HR HRW;intro HR HRW
     refine Z74 ?_;try clear HBW;intro HBW
     clear tbp0 tbp1 tbp2 tbp3
     obtain⟨tbp0,tbp1,tbp2,tbp3⟩:=TB.out
     obtain⟨tsp0,tsp1,tsp2⟩:=TS.out
     clear hb hh hal)
  | (go_at_call 44
     have hal:Below w3.heap.size w3 w3:=Below.refl _ _
     refine (zb3 (a:Int) (b:Int) O N HEL.out _).mono ?_
     rintro e w4 ⟨rfl,hb⟩
     have hh:Below w3.heap.size w3 w4:=hal.trans (hb.mono hal.size)
     refine Z60 ?_;try clear TB yTB TN yTN FR yFR;intro TB yTB TN yTN FR yFR
     replace TS:=hid (TS.out.below yTS hh)
     replace yTS:=Nat.lt_of_lt_of_le yTS hh.size
     refine Z7i ?_;try clear HR HRW;intro HR HRW
     refine Z74 ?_;try clear HBW;intro HBW
     clear tbp0 tbp1 tbp2 tbp3 tsp0 tsp1 tsp2
     obtain⟨tbp0,tbp1,tbp2,tbp3⟩:=TB.out
     obtain⟨tsp0,tsp1,tsp2⟩:=TS.out
     clear hb hh hal)
  | (refine wpList_load_mid rfl 28 (.tmp 3) rfl (w.heap.size+1) 0 rfl [x0,x1,x2,Jj Jq K,Jj Jq S,Jj Jq P,Jj Jq O,.int .i8 Z,x8,.slice WA nW cW,.slice (some ⟨bb,ob,none⟩) nB cB,x11,x12,x13,x14,x15,x16,x17,x18] _ (TN.out) Tryz.underlying28 rfl Zb5 ?_)
  | (refine wpList_load_mid rfl 28 (.tmp 3) rfl (w.heap.size+1) 0 rfl [x0,x1,x2,Jj Jq K,Jj Jq S,Jj Jq P,Jj Jq O,.int .i8 Z,x8,.slice WA nW cW,.slice (some ⟨bb,ob,none⟩) nB cB,x11,x12,x13,x14,x15,x16,x17,x18] _ (TN.out.below yTN ((Below.refl _ _).alloc (le_refl _) _)) Tryz.underlying28 rfl Zb5 ?_)
  | (at_make;refine wpList_make_full _ rfl (.tmp 34) (.tmp 34) _ rfl w4.heap.size 21 i0 (.int .i32 0) 1 Tryz.underlying24 ha0 ha1 ha2 .i64 .i64 _ _ N rfl rfl rfl rfl (by rw [ha3];omega) (by unfold maxLen;omega) (le_refl _) ?_;intro w5 hown hg5))
 have hgw:Below w4.heap.size w4 w5:=(Below.refl w4.heap.size w4).grown hg5 (le_refl _) (fun q hq=>by cases hq)
 have hgs:w4.heap.size < w5.heap.size:=Kit.zbd hown
 rw [show (madeCells (Value.int IntKind.i32 0).cells (N * 1)).toList=I32v (nums (fun _=>0) N) by
  rw [Nat.mul_one];show (madeCells #[Value.int .i32 0] N).toList=_;rw [toList_madeCells_one]
  apply List.ext_getElem
  ·simp [I32v,nums]
  ·intro q h1 h2
   simp only [List.getElem_replicate,I32v,nums,List.getElem_map]] at hown
 have h63:w.heap.size+3≤w2.heap.size:=hg2
 have h6g:w2.heap.size < w4.heap.size:=yTS
 have HI0:Hid (LofI w H W C A n c x0 x1 x2 x8 x11 x12 x13 x14 x15 x16 x17 x18 K S P O Z WA (some ⟨bb,ob,none⟩) nW cW nB cB (a:Int) (b:Int) O w2.heap.size w4.heap.size N (fun _=>0) w5):=hid ⟨⟨TB.out.below yTB hgw,TN.out.below yTN hgw,FR.out.below yFR hgw,TS.out.below yTS hgw,HBW.out.trans (hgw.mono HBW.out.size),by omega⟩,hown,hgs⟩
 clear TB TN FR TS yTB yTN yFR yTS hgw hgs hown hg5 tbp0 tbp1 tbp2 tbp3 tsp0 tsp1 tsp2 HBW hg2 HR HRW
 generalize w2.heap.size=g6 at HI0 h63 h6g ⊢
 generalize w4.heap.size=gs at HI0 h6g ⊢
 obtain⟨-, -, -,⟨s1,s2,s3⟩, -, -⟩:=HI0.out.1
 have HF0:Hid (∀ i' j' k':Nat,i' < 0→j' < b→k' < oo→(fun _:Nat=>(0:Int)) ((i' * b+j') * oo+k')=F ((i' * b+j') * oo+k')):=hid (fun i' _ _ h=>absurd h (Nat.not_lt_zero _))
 go_upto_region 10 with fail
 clear s1 s2 s3
 go_loopw [38] (fun u wr=>∃ (i:Nat) (G:Nat→Int),i≤a∧u=Jj Jq i∧Hid (LofI w H W C A n c x0 x1 x2 x8 x11 x12 x13 x14 x15 x16 x17 x18 K S P O Z WA (some ⟨bb,ob,none⟩) nW cW nB cB (a:Int) (b:Int) O g6 gs N G wr)∧Hid (∀ i' j' k':Nat,i' < i→j' < b→k' < oo→G ((i' * b+j') * oo+k')=F ((i' * b+j') * oo+k'))) (fun u _=>a - (intOf u).toNat)
 case atStart=>exact⟨0,_,Nat.zero_le _,rfl,HI0,HF0⟩
 case round =>
  obtain⟨i,G,hi,rfl,HI,HF1⟩:=hrel
  clear HI0 HF0
  by_cases hlt:i < a
  ·have hiI:(i:Int) < (a:Int):=by omega
   obtain⟨⟨tb0,tb1,tb2,tb3⟩,hnd, -,⟨s1,s2,s3⟩,hbw, -⟩:=HI.out.1
   have n5:=hnd.at 5 _ rfl
   have hgs:=HI.out.2.2
   obtain⟨tp,htp⟩:∃ tp,(i:Int) - P=tp:=⟨_,rfl⟩
   have e1:IntKind.i64.wrap ((i:Int) - P)=tp:=by rw [htp];exact IntWalk.i64_in _ Zb3
   have ht1 : -(pp:Int)≤tp:=by have:=HP.out;omega
   have ht2:tp≤H+(pp:Int) - 3:=by have:=HP.out;have:=HAH.out;omega
   have HTP:=hid htp
   obtain⟨R,hR⟩:∃ R,zbj zs Z H W C tp d pp Wn M 3=R:=⟨_,rfl⟩
   obtain⟨Q,hQ⟩:∃ Q,psTo H tp d 3=Q:=⟨_,rfl⟩
   obtain⟨L,hRL⟩:∃ L,R.length=L:=⟨_,rfl⟩
   have hQL:Q.length=L:=by rw [← hRL, ← hR, ← hQ];exact (len_to zs Z H W C tp d pp Wn M 3).symm
   have hLm:1≤L∧L≤1024:=by rw [← hRL, ← hR];exact rows_many HSB.out HD.out hpp ht1 ht2
   have hRM:∀ row∈R,row.length=M:=by rw [← hR];exact rows_len zs Z H W C tp d pp Wn M 3
   have hMx:M≤maxLen:=by have:=HMB.out;unfold maxLen;omega
   have HRM6:Hid (∀ row∈R,row.length≤1000000):=hid (fun row h=>by rw [hRM row h];have:=HMB.out;omega)
   have HIN:Hid (∀ k i,In16 (XR R k i)):=hid (XR_in (by rw [← hR];exact rows_in HZ.out z1 z2 H W C tp d pp Wn M 3))
   have HPS:Hid (∀ q,q < L→0≤Q.getD q 0∧Q.getD q 0+2 * d < 9 * d):=hid (by rw [← hQ];exact ps_at (by rw [hQ];exact hQL))
   have HMN:Hid (b=manyN R L):=hid (by rw [many_fit hRL hLm.1 hLm.2 hRM];have:=HMB.out;omega)
   have HTOT:Hid (∀ j k:Nat,j < b→mnAt (XR R) (Wl ws (k * 3 * 3 * d) d Q) L j=winF zs ws H W C tp ((j:Int) - P) d 3 k Z):=hid (fun j k hj=>by
    rw [← hRL,tot_mn, ← hR, ← hQ,lane_win zs ws Z H W C tp ((j:Int) - P) k d pp Wn M j HD.out HWN.out (by rw [HP.out]) HM.out (by have:=HMB.out;omega) 3];rfl)
   have HRR:=hid hR
   have HQQ:=hid hQ
   have HRL:=hid hRL
   have HQL:=hid hQL
   have HND:=hid hnd
   have HRA:=hid ((HR9.out.below hbw).more hbw.size)
   have HMX:=hid hMx
   have HLM:=hid hLm
   clear hnd hbw htp hR hQ hRL hQL hRM hMx hLm
   go_upto_region 13 with (first
    | (refine wpList_load_mid rfl 28 (.tmp 3) rfl (w.heap.size+1) 0 rfl [x0,x1,x2,Jj Jq K,Jj Jq S,Jj Jq P,Jj Jq O,.int .i8 Z,x8,.slice WA nW cW,.slice (some ⟨bb,ob,none⟩) nB cB,x11,x12,x13,x14,x15,x16,x17,x18] _ HND.out Tryz.underlying28 rfl Zb5 ?_)
    | (go_at_call 75;refine (reached_to H W C A zs n c HN.out HZ.out HT.out x0 x1 x2 x8 x11 x12 x13 x14 x15 x16 x17 x18 K S P O Z WA (some ⟨bb,ob,none⟩) nW cW nB cB z1 z2 tp Zb3 Zb3 d pp Wn M HD.out HP.out HWN.out HM.out Zb3 _ HRA.out).mono ?_;rintro e w6 ⟨v1,v2,rfl,hla,hb6⟩;rw [HRR.out,HQQ.out] at hla;obtain⟨A1,c1,A2,c2,e8,e9⟩:=hla.sizes;rw [HRL.out] at e8;rw [HQL.out] at e9;subst e8 e9;clear tb0 tb1 tb2 tb3 s1 s2 s3 n5))
   have hal:=(Below.refl w6.heap.size w6).alloc (le_refl _) (.cells #[(.slice A1 L c1),(.slice A2 L c2)] 106)
   have HI2:=hid ((HI.out.below h63 h6g hb6).below h63 h6g hal)
   have HLA:=hid (zbc.under hla hal)
   have HTW:=hid (Two.new w6 (.slice A1 L c1) (.slice A2 L c2) 106)
   have hgl:gs < w6.heap.size:=Nat.lt_of_lt_of_le hgs hb6.size
   have hBl:¬ (wr.heap.size+4≤gs):=by omega
   clear hla hb6 hal HRA HND hgs HI
   generalize w6.alloc (.cells #[(.slice A1 L c1),(.slice A2 L c2)] 106)=w7 at HI2 HLA HTW ⊢
   generalize w6.heap.size=gl at HTW hgl ⊢
   generalize wr.heap.size+4=Bl at HLA hBl
   have HF2:Hid (∀ j' k':Nat,j' < b→k' < 0→G ((i * b+j') * oo+k')=F ((i * b+j') * oo+k')):=hid (fun _ k' _ h=>absurd h (Nat.not_lt_zero _))
   obtain⟨-, -, -,⟨s1,s2,s3⟩, -, -⟩:=HI2.out.1
   go_upto_region 14 with fail
   clear s1 s2 s3
   go_loopw [50] (fun u wr=>∃ (k:Nat) (G:Nat→Int),k≤oo∧u=Jj Jq k∧Hid (LofI w H W C A n c x0 x1 x2 x8 x11 x12 x13 x14 x15 x16 x17 x18 K S P O Z WA (some ⟨bb,ob,none⟩) nW cW nB cB (a:Int) (b:Int) O g6 gs N G wr)∧Hid (Two gl (.slice A1 L c1) (.slice A2 L c2) wr)∧Hid (zbc Bl (fun g=>Bl≤g) M (.slice A1 L c1) (.slice A2 L c2) R Q wr)∧Hid (∀ i' j' k':Nat,i' < i→j' < b→k' < oo→G ((i' * b+j') * oo+k')=F ((i' * b+j') * oo+k'))∧Hid (∀ j' k':Nat,j' < b→k' < k→G ((i * b+j') * oo+k')=F ((i * b+j') * oo+k'))) (fun u _=>oo - (intOf u).toNat)
   case atStart=>exact⟨0,_,Nat.zero_le _,rfl,HI2,HTW,HLA,HF1,HF2⟩
   case round =>
    clear HI2 HTW HLA HF1 HF2
    obtain⟨k,G,hk,rfl,HI,HTW,HLA,HF1,HF2⟩:=hrel
    by_cases hltk:k < oo
    ·have hkI:(k:Int) < O:=by have:=HO.out;omega
     refine Z93 ?_;intro hk0
     have hkB:(k:Int) < (nB:Int):=by have:=HO.out;have:=HNB.out;omega
     have hkl:k < bs.length:=by have:=HBS.out;have:=HO.out;have:=HNB.out;omega
     obtain⟨Fm,hFm⟩:∃ Fm,Fm=mnAt (XR R) (Wl ws (k * 3 * 3 * d) d Q) L:=⟨_,rfl⟩
     have HFM:=hid hFm
     clear hFm
     go_upto_region 16 with fail
     obtain⟨hbx,hnd, -, -, -, -⟩:=HI.out.1
     have hrg:=Kit.zc1 HTW.out.1 HTW.out.2.1
     refine wp_region_held_drew (S:=fun w'=>BoxAt w.heap.size H W C A n c w'∧zae (w.heap.size+1) x0 x1 x2 x8 x11 x12 x13 x14 x15 x16 x17 x18 K S P O Z WA (some ⟨bb,ob,none⟩) nW cW nB cB w'∧w'.rangeAt gl 0 [(.slice A1 L c1),(.slice A2 L c2)]) Zb5 ⟨hbx,hnd,hrg⟩ (fun hHeld=>?_)
     clear hbx hnd hrg
     have HI2:Hid (LofI w H W C A n c x0 x1 x2 x8 x11 x12 x13 x14 x15 x16 x17 x18 K S P O Z WA (some ⟨bb,ob,none⟩) nW cW nB cB (a:Int) (b:Int) O g6 gs N G wr.drew):=hid (HI.out.below h63 h6g (Below.refl _ _).drew)
     have HTW2:Hid (Two gl (.slice A1 L c1) (.slice A2 L c2) wr.drew):=hid HTW.out.drew
     have HLA2:Hid (zbc Bl (fun g=>Bl≤g) M (.slice A1 L c1) (.slice A2 L c2) R Q wr.drew):=hid (zbc.under HLA.out (Below.refl _ _).drew)
     clear HI HTW HLA
     generalize wr.drew=Wa at HI2 HTW2 HLA2 hHeld ⊢
     refine Z8l ?_
     refine Z5y ?_
     refine Tk.y 1 (v:=?_) rfl ?_ ?_
     rotate_left
     ·intro wS hSw
      obtain⟨hq1,hq2,hq3⟩:=hSw
      have hl0:=hq3 0 _ rfl;clear hq1 hq2
      exact Z0
     refine Z5y ?_
     refine Tk.t 2 (v:=.agg #[(.slice A1 L c1),(.slice A2 L c2)]) rfl (yieldsIf_load_mid Zbu _ _ rfl gl 0 rfl [(.slice A1 L c1),(.slice A2 L c2)] _ (fun w' h=>h.2.2) Tryz.underlying106 rfl Zb5) Zbd ?_
     refine Z5y ?_
     refine Tk.t 3 (v:=.agg #[x0,x1,x2,Jj Jq K,Jj Jq S,Jj Jq P,Jj Jq O,.int .i8 Z,x8,.slice WA nW cW,.slice (some ⟨bb,ob,none⟩) nB cB,x11,x12,x13,x14,x15,x16,x17,x18]) rfl (yieldsIf_load_mid Zbu _ _ rfl (w.heap.size+1) 0 rfl [x0,x1,x2,Jj Jq K,Jj Jq S,Jj Jq P,Jj Jq O,.int .i8 Z,x8,.slice WA nW cW,.slice (some ⟨bb,ob,none⟩) nB cB,x11,x12,x13,x14,x15,x16,x17,x18] _ (fun w' h=>h.2.1) Tryz.underlying28 rfl Zb5) Zbd ?_
     refine Z5y ?_
     refine Z9b ?_
     refine Z5y ?_
     refine Za1 ?_
     refine Z5y ?_
     refine Tk.y 6 (v:=?_) rfl ?_ ?_
     rotate_left
     ·exact Z5p
     refine Z5y ?_
     refine Z9w ?_
     refine Z5y ?_
     refine Za5 ?_
     refine Z5y ?_
     refine Tk.s 8 rfl (fun Kq hK=>?_)
     go_simp
     go_at_call 77
     refine (weights_to' C A1 L c1 A2 L c2 Q HQL.out (by have:=HLM.out;omega) x0 x1 x2 x8 x11 x12 x13 x14 x15 x16 x17 x18 K S P O Z WA (some ⟨bb,ob,none⟩) nW cW nB cB ws HWS.out hwc hwm HWB.out d k oo HD.out hd1.1 hd1.2 hltk HNW.out hn16 HPS.out _ (zbc.places HLA2.out) ((HRW9.out.below HI2.out.1.2.2.2.2.1).more HI2.out.1.2.2.2.2.1.size)).mono ?_
     rintro e Wb ⟨AW,cV,rfl,hwt,hb1⟩
     have hS1:BoxAt w.heap.size H W C A n c Wb∧zae (w.heap.size+1) x0 x1 x2 x8 x11 x12 x13 x14 x15 x16 x17 x18 K S P O Z WA (some ⟨bb,ob,none⟩) nW cW nB cB Wb∧Wb.rangeAt gl 0 [(.slice A1 L c1),(.slice A2 L c2)]:=⟨hHeld.1.below (B':=_) Zbi hb1,hHeld.2.1.below (B':=_) Zbi hb1,zcv hHeld.2.2 hb1 HTW2.out.2.2.2⟩
     replace HI2:=hid (HI2.out.below h63 h6g hb1)
     replace HTW2:=hid (HTW2.out.below hb1 HTW2.out.2.2.2)
     replace HLA2:=hid (zbc.under HLA2.out hb1)
     have HWT:=hid hwt
     clear hb1 hHeld hwt
     dsimp only
     refine hK.out _ _ ?_ (fun hHeld=>?_)
     ·exact hS1
     clear hK Kq
     refine Z5y ?_
     refine Tk.s 9 rfl (fun Kq hK=>?_)
     go_simp
     go_at_call 76
     have HI0B:gs < Wb.heap.size:=HI2.out.2.2
     refine (many_to A1 R L c1 AW L cV (Wl ws (k * 3 * 3 * d) d Q) b HRL.out (zbc.cap HLA2.out HMX.out).2 (zbc.cap HLA2.out HMX.out).1 (by have:=HLM.out;omega) HRM6.out HMN.out HIN.out (fun k' i'=>Wl_in HWB.out _ _ _ _ _) Fm HFM.out _ (zbc.rowsRd HLA2.out HMX.out) HWT.out).mono ?_
     rintro e Wc ⟨V62,rfl,hown6,hb1⟩
     have hS1:BoxAt w.heap.size H W C A n c Wc∧zae (w.heap.size+1) x0 x1 x2 x8 x11 x12 x13 x14 x15 x16 x17 x18 K S P O Z WA (some ⟨bb,ob,none⟩) nW cW nB cB Wc∧Wc.rangeAt gl 0 [(.slice A1 L c1),(.slice A2 L c2)]:=⟨hHeld.1.below (B':=_) Zbi hb1,hHeld.2.1.below (B':=_) Zbi hb1,zcv hHeld.2.2 hb1 HTW2.out.2.2.2⟩
     replace HI2:=hid (HI2.out.below h63 h6g hb1)
     replace HTW2:=hid (HTW2.out.below hb1 HTW2.out.2.2.2)
     replace HLA2:=hid (zbc.under HLA2.out hb1)
     have HBw:=HI0B
     have HO6:=hid hown6
     obtain⟨A62,c62,rfl, -, -, -⟩:=Kit.zaj hown6
     clear hb1 hHeld HWT hown6
     dsimp only
     refine hK.out _ _ ?_ (fun hHeld=>?_)
     ·exact hS1
     clear hK Kq
     refine Z5y ?_
     refine Z9o ?_
     refine Z5y ?_
     refine Z6y ?_
     clear hHeld
     generalize Wb.heap.size=Bw at HO6 HBw
     have HF3:Hid (∀ j':Nat,j' < 0→G ((i * b+j') * oo+k)=F ((i * b+j') * oo+k)):=hid (fun j' h=>absurd h (Nat.not_lt_zero _))
     go_upto_region 17 with fail
     go_loopw [64] (fun u wr=>∃ (x:Nat) (G:Nat→Int),x≤b∧u=Jj Jq x∧Hid (LofI w H W C A n c x0 x1 x2 x8 x11 x12 x13 x14 x15 x16 x17 x18 K S P O Z WA (some ⟨bb,ob,none⟩) nW cW nB cB (a:Int) (b:Int) O g6 gs N G wr)∧Hid (Two gl (.slice A1 L c1) (.slice A2 L c2) wr)∧Hid (zbc Bl (fun g=>Bl≤g) M (.slice A1 L c1) (.slice A2 L c2) R Q wr)∧Hid (wr.ownsRow Bw 2 1 (.slice A62 b c62) b (I64v (nums Fm b)))∧Hid (∀ i' j' k':Nat,i' < i→j' < b→k' < oo→G ((i' * b+j') * oo+k')=F ((i' * b+j') * oo+k'))∧Hid (∀ j' k':Nat,j' < b→k' < k→G ((i * b+j') * oo+k')=F ((i * b+j') * oo+k'))∧Hid (∀ j':Nat,j' < x→G ((i * b+j') * oo+k)=F ((i * b+j') * oo+k))) (fun u _=>b - (intOf u).toNat)
     case atStart=>exact⟨0,_,Nat.zero_le _,rfl,HI2,HTW2,HLA2,HO6,HF1,HF2,HF3⟩
     case round =>
      clear HI2 HTW2 HLA2 HO6 HF1 HF2 HF3
      obtain⟨x,G,hx,rfl,HI,HTW,HLA,HO6,HF1,HF2,HF3⟩:=hrel
      by_cases hltx:x < b
      ·have hxi:(x:Int) < (b:Int):=by omega
       have hx0:(0:Int)≤(x:Int):=by omega
       obtain⟨A9,c9,e9, -, -,hrd9⟩:=Kit.zaj HO6.out
       cases e9
       obtain⟨b6,o6,rfl,hb6,hc6⟩:=zax hrd9 (j:=x) (by rw [nums_len];exact hltx)
       have hcy:=hc6 x (by rw [nums_len];exact hltx)
       rw [nums_getD Fm hltx] at hcy
       have hFx:=HFF.out i x k hltx hltk
       rw [HTP.out, ← HTOT.out x k hltx, ← HFM.out] at hFx
       obtain⟨y,hyy⟩:∃ y,Fm x=y:=⟨_,rfl⟩
       rw [hyy] at hcy hFx
       obtain⟨R1,hR1⟩:∃ R1,IntKind.i32.wrap y=R1:=⟨_,rfl⟩
       rw [hR1] at hFx
       obtain⟨hbx,hnd, -,⟨s1,s2,s3⟩,hbw, -⟩:=HI.out.1
       have n10:=hnd.at 10 _ rfl
       have hcb:wr.cell? ⟨bb,ob+k,none⟩=some (.int .i32 (bs.getD k 0)):=(hbw.cell (p:=⟨bb,ob+k,none⟩) hbb).trans (HCB.out k hkl)
       obtain⟨bo,hbo⟩:∃ bo,bs.getD k 0=bo:=⟨_,rfl⟩
       rw [hbo] at hcb hFx
       obtain⟨xx,hxx⟩:∃ xx,IntKind.i32.wrap (bo+R1)=xx:=⟨_,rfl⟩
       rw [hxx] at hFx
       have hom:(i * b+x) * oo+k < N:=by rw [← HNN.out];exact at_lt hlt hltx hltk
       obtain⟨ib,hib⟩:∃ ib,i * b=ib:=⟨_,rfl⟩
       obtain⟨ibx,hibx⟩:∃ ibx,ib+x=ibx:=⟨_,rfl⟩
       obtain⟨p1,hp1⟩:∃ p1,ibx * oo=p1:=⟨_,rfl⟩
       obtain⟨idx,hidx⟩:∃ idx,p1+k=idx:=⟨_,rfl⟩
       have heq:(i * b+x) * oo+k=idx:=by rw [hib,hibx,hp1,hidx]
       rw [heq] at hFx hom
       have hq1:ibx≤p1:=by rw [← hp1];exact Nat.le_mul_of_pos_right _ Zb3
       have m1:IntKind.i64.wrap ((i:Int) * (b:Int))=(ib:Int):=by rw [← Int.natCast_mul,hib];exact IntWalk.i64_in _ Zb3
       have m2:IntKind.i64.wrap ((ib:Int)+(x:Int))=(ibx:Int):=by rw [IntWalk.i64_in _ Zb3];omega
       have m3:IntKind.i64.wrap ((ibx:Int) * O)=(p1:Int):=by rw [HO.out, ← Int.natCast_mul,hp1];exact IntWalk.i64_in _ Zb3
       have m4:IntKind.i64.wrap ((p1:Int)+(k:Int))=(idx:Int):=by rw [IntWalk.i64_in _ Zb3];omega
       have r1:(0:Int)≤(idx:Int):=by omega
       have r2:(idx:Int) < (N:Int):=by omega
       have hfr:wr.frozen? ⟨gs,idx,none⟩=false:=HI.out.2.1.frozenAt idx
       obtain⟨vold,hcl⟩:∃ v,wr.cell? ⟨gs,idx,none⟩=some v:=⟨_,(HI.out.2.1.cellAt idx Zb3).trans (List.getElem?_eq_getElem (by simp [I32v,nums];exact hom))⟩
       have HI2:=hid (HI.out.stored h63 h6g idx xx)
       have HTW2:Hid (Two gl (.slice A1 L c1) (.slice A2 L c2) (wr.drew.setCell ⟨gs,idx,none⟩ (.int .i32 xx))):=hid (Two.set1 HTW.out.drew (p:=⟨gs,idx,none⟩) (by show gs≠gl;omega) _)
       have HLA2:Hid (zbc Bl (fun g=>Bl≤g) M (.slice A1 L c1) (.slice A2 L c2) R Q (wr.drew.setCell ⟨gs,idx,none⟩ (.int .i32 xx))):=hid (zbc.set1 (zbc.under HLA.out (Below.refl _ _).drew) (p:=⟨gs,idx,none⟩) hBl _)
       have HO2:=hid (zat (Kit.own_below HO6.out (Below.refl _ _).drew) ⟨gs,idx,none⟩ (.int .i32 xx) HBw)
       have HG1:Hid (∀ i' j' k':Nat,i' < i→j' < b→k' < oo→(fun q=>if q=idx then xx else G q) ((i' * b+j') * oo+k')=F ((i' * b+j') * oo+k')):=hid (fun i' j' k' h1 h2 h3=>upd_eq hFx (HF1.out i' j' k' h1 h2 h3))
       have HG2:Hid (∀ j' k':Nat,j' < b→k' < k→(fun q=>if q=idx then xx else G q) ((i * b+j') * oo+k')=F ((i * b+j') * oo+k')):=hid (fun j' k' h2 h3=>upd_eq hFx (HF2.out j' k' h2 h3))
       have HG3:Hid (∀ j':Nat,j' < x+1→(fun q=>if q=idx then xx else G q) ((i * b+j') * oo+k)=F ((i * b+j') * oo+k)):=hid (fun j' h2=>by
        rcases Nat.lt_or_ge j' x with h9 | h9
        ·exact upd_eq hFx (HF3.out j' h9)
        ·obtain rfl:j'=x:=by omega
         show (if (i * b+j') * oo+k=idx then xx else G ((i * b+j') * oo+k))=_
         rw [if_pos heq,heq,hFx])
       have s1':wr.drew.cell? ⟨g6,0,none⟩=some (Jj Jq (a:Int)):=s1
       have s2':wr.drew.cell? ⟨g6,1,none⟩=some (Jj Jq (b:Int)):=s2
       have s3':wr.drew.cell? ⟨g6,2,none⟩=some (Jj Jq O):=s3
       have n10':wr.drew.cell? ⟨w.heap.size+1,10,none⟩=some (.slice (some ⟨bb,ob,none⟩) nB cB):=n10
       have hcb':wr.drew.cell? ⟨bb,ob+k,none⟩=some (.int .i32 bo):=hcb
       have hcl':wr.drew.cell? ⟨gs,idx,none⟩=some vold:=hcl
       have hfr':wr.drew.frozen? ⟨gs,idx,none⟩=false:=hfr
       clear hnd hbx hbw hrd9 hc6 hcb hcl hfr n10 s1 s2 s3 HI HTW HLA HO6 HF1 HF2 HF3 hib hibx hp1 hidx heq hFx hyy hbo hq1 hom
       go_upto_region 19 with fail
       refine wp_region_still_tail 21 Zb5 Zb5 ?_
       rw [show ({ wr with drawn:=wr.drawn+1 } : World)=wr.drew from rfl]
       generalize wr.drew=Wd at s1' s2' s3' n10' hcb' hcl' hfr' HI2 HTW2 HLA2 HO2 ⊢
       simp only [List.take_succ_cons,List.take_zero,List.drop_succ_cons,List.drop_zero]
       repeat still_step
       refine wpStill_nil ?_
       go_wp2_with fail
       go_roundw
       case rel=>exact⟨x+1,_,by omega,by go_num,HI2,HTW2,HLA2,HO2,HG1,HG2,HG3⟩
       case measure=>simp [intOf];omega
      ·obtain rfl:x=b:=by omega
       have hxi:¬ (x:Int) < (x:Int):=Int.lt_irrefl _
       have HG2:Hid (∀ j' k':Nat,j' < x→k' < k+1→G ((i * x+j') * oo+k')=F ((i * x+j') * oo+k')):=hid (fun j' k' h1 h2=>by
        rcases Nat.lt_or_ge k' k with h9 | h9
        ·exact HF2.out j' k' h1 h9
        ·obtain rfl:k'=k:=by omega
         exact HF3.out j' h1)
       go_wp2_with fail
       go_roundw
       case rel=>exact⟨k+1,_,by omega,by go_num,HI,HTW,HLA,HF1,HG2⟩
       case measure=>simp [intOf];omega
    ·obtain rfl:k=oo:=by omega
     have hkI:¬ (k:Int) < O:=by have:=HO.out;omega
     have HG1:Hid (∀ i' j' k':Nat,i' < i+1→j' < b→k' < k→G ((i' * b+j') * k+k')=F ((i' * b+j') * k+k')):=hid (fun i' j' k' h1 h2 h3=>by
      rcases Nat.lt_or_ge i' i with h9 | h9
      ·exact HF1.out i' j' k' h9 h2 h3
      ·obtain rfl:i'=i:=by omega
       exact HF2.out j' k' h2 h3)
     go_wp2_with fail
     go_roundw
     case rel=>exact⟨i+1,_,by omega,by go_num,HI,HG1⟩
     case measure=>simp [intOf];omega
  ·obtain rfl:i=a:=by omega
   have hii:¬ (i:Int) < (i:Int):=Int.lt_irrefl _
   have hfull:=grid_full HNN.out HF1.out
   have hW0:=HI.out.2.1
   rw [hfull] at hW0
   have HW0:=hid hW0
   obtain⟨-, -,⟨⟨z0,z1',z2',z3⟩,z4,z5,z6,z7⟩,⟨s1,s2,s3⟩,hbw,hsz⟩:=HI.out.1
   have HBW:=hid hbw
   clear hbw hW0 hfull HI HF1
   go_wp2_with fail
   refine bodyPost_ret (Kit.zaa rfl _ _ (w.heap.size+2) 0 [Jj Jq (i:Int),Jj Jq (b:Int),Jj Jq O,(.slice (some ⟨gs,0,none⟩) N N)] _ rfl (CTensor.zao Zb6 Zb6 Zb6 Zb6) Tryz.underlying41 rfl Zb5) rfl ?_
   refine⟨_,rfl,Kit.zah (za0 HW0.out ?_) ?_,?_⟩
   any_goals (first | omega | (simp;done) | (simp;omega))
   exact (((HBW.out.setCell (p:=⟨w.heap.size+2,0,none⟩) Zb7 _).setCell (p:=⟨w.heap.size+2,1,none⟩) Zb7 _).setCell (p:=⟨w.heap.size+2,2,none⟩) Zb7 _).setCell (p:=⟨w.heap.size+2,3,none⟩) Zb7 _
end CLane
end
end Go.Proofs.YtchpdhhpkljdhaaGreatDoor
