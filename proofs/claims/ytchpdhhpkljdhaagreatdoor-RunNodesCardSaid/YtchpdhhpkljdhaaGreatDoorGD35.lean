/- -/
import Derived.Test.YtchpdhhpkljdhaaGreatDoorGD31
open Go.Value renaming int→Jj
open Go.IntKind renaming i64→Jq
open Go.Lib (hid)
open Nat (le_refl lt_of_succ_lt lt_succ_self)
set_option linter.unusedVariables false
set_option linter.unusedSimpArgs false
set_option maxRecDepth 100000
set_option maxHeartbeats 16000000
namespace Go.Proofs.YtchpdhhpkljdhaaGreatDoor
namespace CConv
end CConv
namespace CSat
end CSat
section
namespace CLower
open Go Go.ChangeShapes Go.WideShapes Go.ChangeAt Go.RowKit Go.Shelf Round
open Plain CSat CShape CTensor CConv
attribute [local go_sem] Oper.semAt_some
theorem lOf_bad (H W C:Int) (A:Option Addr) (n c:Nat) (x0 x1 x2 x8 x11 x12 x13 x14 x15 x16 x17 x18:Value) (K S P O Z:Int) (WA BA:Option Addr) (nW cW nB cB:Nat) (ht:tensB H W C n=false) (w:World) :
  Calls Tryz.prog 31 #[.agg #[Jj Jq H,Jj Jq W,Jj Jq C,.slice A n c],.agg #[x0,x1,x2,Jj Jq K,Jj Jq S,Jj Jq P,Jj Jq O,.int .i8 Z,x8,.slice WA nW cW,.slice BA nB cB,x11,x12,x13,x14,x15,x16,x17,x18]] w (MadeA w 0 0 0 0 [] (Jj Jq 5)):=by
 have HT:=hid ht
 clear ht
 go_enter Tryz.func31,Tryz.ntmps31
 go_wp2_with (go_at_call 13;(refine (zak H W C A n c false HT.out _).mono ?_);(rintro e w1 ⟨rfl,hb⟩;obtain⟨hcc,hff⟩:=Kit.bcell hb;have hz:w.heap.size+3≤w1.heap.size:=Zbb;have hz2:w.heap.size+2 < w1.heap.size:=Zb3;have HB:=hid hb;clear hb))
 exact Z3e
theorem lOf_err (H W C:Int) (A:Option Addr) (n c:Nat) (x0 x1 x2 x8 x11 x12 x13 x14 x15 x16 x17 x18:Value) (K S P O Z:Int) (WA BA:Option Addr) (nW cW nB cB:Nat) (ht:tensB H W C n=true) (er:Int) (he:convE H W C K S P O nW nB=er) (h0:er≠0) (w:World) :
  Calls Tryz.prog 31 #[.agg #[Jj Jq H,Jj Jq W,Jj Jq C,.slice A n c],.agg #[x0,x1,x2,Jj Jq K,Jj Jq S,Jj Jq P,Jj Jq O,.int .i8 Z,x8,.slice WA nW cW,.slice BA nB cB,x11,x12,x13,x14,x15,x16,x17,x18]] w (MadeA w 0 0 0 0 [] (Jj Jq er)):=by
 have hS:convS H W C K S P O nW nB=#[Jj Jq 0,Jj Jq 0,Jj Jq 0]:=by unfold convS;rw [he,if_neg h0]
 refine Z7j ?_;intro HT HE HS h0b h0c
 clear ht he hS
 go_enter Tryz.func31,Tryz.ntmps31
 go_wp2_with (first
  | (go_at_call 13
     refine Z68 ?_;intro hal
     refine (zak H W C A n c true HT.out _).mono ?_
     rintro e w1 ⟨rfl,hb⟩
     refine Z5w ?_;intro hh TB yTB TN yTN FR yFR
     refine Z71 ?_;intro HBW
     obtain⟨tbp0,tbp1,tbp2,tbp3⟩:=TB.out
     clear hb hh hal)
  | (go_at_call 74
     refine Z72 ?_;intro hal
     refine (conv_to H W C x0 x1 x2 x8 x11 x12 x13 x14 x15 x16 x17 x18 K S P O Z WA BA nW cW nB cB er _ HE.out HS.out _).mono ?_
     rintro e w2 ⟨rfl,hb⟩
     refine Z6r ?_;intro hh
     refine Z60 ?_;try clear TB yTB TN yTN FR yFR;intro TB yTB TN yTN FR yFR
     refine Z74 ?_;try clear HBW;intro HBW
     clear tbp0 tbp1 tbp2 tbp3
     obtain⟨⟨z0,z1,z2,z3⟩,z4,z5,z6,z7⟩:=FR.out
     obtain⟨tbp0,tbp1,tbp2,tbp3⟩:=TB.out
     clear hb hh hal)
  | (refine wpList_load_mid rfl 28 (.tmp 3) rfl (w.heap.size+1) 0 rfl [x0,x1,x2,Jj Jq K,Jj Jq S,Jj Jq P,Jj Jq O,.int .i8 Z,x8,.slice WA nW cW,.slice BA nB cB,x11,x12,x13,x14,x15,x16,x17,x18] _ TN.out Tryz.underlying28 rfl Zb5 ?_))
 exact Zf
def cont (M:Nat→Int) (bs:List Int) (d:Nat) (p:List Nat):Nat→Int :=
 p.foldl (fun F x i=>if i / d=x then IntKind.i32.wrap (F i+bs.getD (i % d) 0) else F i) M
theorem cont_more (M:Nat→Int) (bs:List Int) (d:Nat) (p:List Nat) (x:Nat) (i:Nat):cont M bs d (p ++ [x]) i=if i / d=x then IntKind.i32.wrap (cont M bs d p i+bs.getD (i % d) 0) else cont M bs d p i:=by
 unfold cont;rw [List.foldl_append];rfl
theorem cont_first (M:Nat→Int) (bs:List Int) (d:Nat) (i:Nat):∀ k,cont M bs d (first k) i=if i / d < k then IntKind.i32.wrap (M i+bs.getD (i % d) 0) else M i
 | 0=>by rw [if_neg (Nat.not_lt_zero _)];rfl
 | k+1=>by
   rw [zdb,cont_more,cont_first M bs d i k]
   by_cases h:i / d=k
   ·rw [if_pos h,if_neg Zb3,if_pos Zb3]
   ·rw [if_neg h]
    by_cases h2:i / d < k
    ·rw [if_pos h2,if_pos Zb3]
    ·rw [if_neg h2,if_neg Zb3]
def newF (M:Nat→Int) (bs:List Int) (d:Nat) (p:List Nat) (x:Nat) (i:Nat):Int:=if i < x * d then cont M bs d p i else cont M bs d (p ++ [x]) i
theorem new_before (M:Nat→Int) (bs:List Int) (d:Nat) (p:List Nat) (x N:Nat):CGemm.rowL (mixF (newF M bs d p x) (cont M bs d p) (x * d)) N=CGemm.rowL (cont M bs d p) N:=CGemm.zc9 fun i _=>by
 unfold mixF newF
 by_cases h:i < x * d
 ·rw [if_pos h,if_pos h]
 ·rw [if_neg h]
theorem new_behind (M:Nat→Int) (bs:List Int) (d:Nat) (hd:0 < d) (p:List Nat) (x N:Nat):CGemm.rowL (mixF (newF M bs d p x) (cont M bs d p) (x * d+d)) N=CGemm.rowL (cont M bs d (p ++ [x])) N:=CGemm.zc9 fun i _=>by
 unfold mixF newF
 by_cases h:i < x * d+d
 ·rw [if_pos h]
  by_cases h2:i < x * d
  ·rw [if_pos h2,cont_more,if_neg (by
    intro e
    have:=(Nat.div_lt_iff_lt_mul hd).2 h2;omega)]
  ·rw [if_neg h2]
 ·rw [if_neg h,cont_more,if_neg (by
   intro e
   have h3:i < (x+1) * d:=by rw [← Nat.div_lt_iff_lt_mul hd];omega
   rw [Nat.add_mul,Nat.one_mul] at h3;omega)]
theorem new_at (M:Nat→Int) (bs:List Int) (d:Nat) (p:List Nat) (x j:Nat) (hj:j < d):IntKind.i32.wrap (cont M bs d p (x * d+j)+bs.getD j 0)=newF M bs d p x (x * d+j):=by
 have h1:(x * d+j) / d=x:=by rw [Nat.mul_comm,Nat.mul_add_div Zb3,Nat.div_eq_of_lt hj];rfl
 have h2:(x * d+j) % d=j:=by rw [Nat.mul_comm,Nat.mul_add_mod,Nat.mod_eq_of_lt hj]
 unfold newF
 rw [if_neg Zb3,cont_more,if_pos h1,h2]
theorem slide_one {H W C K S P O:Int} (h:za7 H W C K S P O=0):za7 H W C K S P 1=0:=by
 obtain⟨a1,a2,a3,a4,a5,a6⟩:=za9 h
 obtain⟨q1,q2,q3,q4,q5,q6,q7⟩:=zac a6
 have h6:zam (zad H K S P) (zad W K S P) 1=true:=by
  unfold zam at a6 ⊢
  simp only [decide_eq_true_eq] at a6 ⊢
  have h7:zad H K S P * zad W K S P * 1≤zad H K S P * zad W K S P * O:=Int.mul_le_mul_of_nonneg_left Zb3 (Int.mul_nonneg Zb3 Zb3)
  omega
 have e1:zbm H K S P=0:=by unfold zbm;rw [if_pos a2,if_neg Zb3]
 have e2:zbm W K S P=0:=by unfold zbm;rw [if_pos a3,if_neg Zb3]
 unfold za7
 rw [a1,e1,e2,h6];simp
theorem numF_bd (zs:List Int) (H W C S P Z:Int) (b kk d wd:Nat) (hz:I8b zs) (z1 : -128≤Z) (z2:Z≤127) (t:Nat) : -255≤CPatch.numF zs H W C S P Z b kk d wd t∧CPatch.numF zs H W C S P Z b kk d wd t≤255:=by
 unfold CPatch.numF
 split
 ·have:=hz (((((((t / wd / b:Nat):Int) * S - P+((t % wd / d / kk:Nat):Int)) * W+(((t / wd % b:Nat):Int) * S - P+((t % wd / d % kk:Nat):Int))) * C+((t % wd % d:Nat):Int)).toNat))
  omega
 ·omega
theorem ownFrom_own {β:Type} (B base g n cap:Nat) (e:TypeId) (hg:g < B) (xs:β→List Value):OwnFrom B (fun (s:β) (W:World)=>W.ownsRow base e 1 (.slice (some ⟨g,0,none⟩) n cap) n (xs s)):=fun s W W' row hs hgr hr =>
 hs.kept hgr (.inr (by
  intro e1
  have e2:some g=row:=e1
  have:=(hr g e2.symm).1
  omega))
theorem ownFrom_grown {β:Type} (W0:World) (g:Nat):OwnFrom W0.heap.size (fun (_:β) W=>W0.grownBy W (some g)):=fun s W W' row hs hgr hr =>
 ⟨hgr.os.trans hs.os,hgr.tape.trans hs.tape,hgr.output.trans hs.output,Nat.le_trans hs.size hgr.size,fun k hk hne =>
  (hgr.block k (Nat.lt_of_lt_of_le hk hs.size) (by intro e;have:=(hr k e.symm).1;omega)).trans (hs.block k hk hne)⟩
theorem ownFrom_false {β:Type} (B:Nat):OwnFrom B (fun (_:β) (_:World)=>False):=fun _ _ _ _ hs _ _=>hs
theorem four_new (w:World) (v1 v2 v3 v4:Value) (T1 T2 T3 T4:TypeId):∀ W,W=(((w.alloc (.cells #[v1] T1)).alloc (.cells #[v2] T2)).alloc (.cells #[v3] T3)).alloc (.cells #[v4] T4) →
  W.cell? ⟨w.heap.size,0,none⟩=some v1∧W.cell? ⟨w.heap.size+1,0,none⟩=some v2∧W.cell? ⟨w.heap.size+1+1,0,none⟩=some v3∧W.cell? ⟨w.heap.size+1+1+1,0,none⟩=some v4∧Below w.heap.size w W∧W.heap.size=w.heap.size+4:=by
 intro W hW
 obtain⟨A,hA⟩:∃ A,A=w.alloc (.cells #[v1] T1):=⟨_,rfl⟩
 obtain⟨B,hB⟩:∃ B,B=A.alloc (.cells #[v2] T2):=⟨_,rfl⟩
 obtain⟨C,hC⟩:∃ C,C=B.alloc (.cells #[v3] T3):=⟨_,rfl⟩
 rw [← hA, ← hB, ← hC] at hW
 have sA:A.heap.size=w.heap.size+1:=by rw [hA];exact World.size_alloc _ _
 have sB:B.heap.size=w.heap.size+1+1:=by rw [hB, ← sA];exact World.size_alloc _ _
 have sC:C.heap.size=w.heap.size+1+1+1:=by rw [hC, ← sB];exact World.size_alloc _ _
 have sW:W.heap.size=w.heap.size+1+1+1+1:=by rw [hW, ← sC];exact World.size_alloc _ _
 have cA:A.cell? ⟨w.heap.size,0,none⟩=some v1:=by rw [hA];exact Kit.zan _ _ _ _
 have cB:B.cell? ⟨w.heap.size+1,0,none⟩=some v2:=by rw [hB, ← sA];exact Kit.zan _ _ _ _
 have cC:C.cell? ⟨w.heap.size+1+1,0,none⟩=some v3:=by rw [hC, ← sB];exact Kit.zan _ _ _ _
 have cW:W.cell? ⟨w.heap.size+1+1+1,0,none⟩=some v4:=by rw [hW, ← sC];exact Kit.zan _ _ _ _
 have bA:Below w.heap.size w A:=by rw [hA];exact (Below.refl _ _).alloc (le_refl _) _
 have bB:Below A.heap.size A B:=by rw [hB];exact (Below.refl _ _).alloc (le_refl _) _
 have bC:Below B.heap.size B C:=by rw [hC];exact (Below.refl _ _).alloc (le_refl _) _
 have bW:Below C.heap.size C W:=by rw [hW];exact (Below.refl _ _).alloc (le_refl _) _
 have bCW:=bC.trans (bW.mono bC.size)
 have bBW:=bB.trans (bCW.mono bB.size)
 exact⟨(bBW.cell (p:=⟨w.heap.size,0,none⟩) (by show w.heap.size < _;omega)).trans cA,(bCW.cell (p:=⟨w.heap.size+1,0,none⟩) (by show w.heap.size+1 < _;omega)).trans cB,(bW.cell (p:=⟨w.heap.size+1+1,0,none⟩) (by show w.heap.size+1+1 < _;omega)).trans cC,cW,bA.trans (bBW.mono bA.size),sW⟩
theorem range_put {W:World} {b o:Nat} {cs:List Value} (h:W.rangeAt b o cs) {D:Nat} (o':Obj) (hD:W.heap[D]?=some (.deferred (some []))):(W.putObj D o').rangeAt b o cs:=fun j v hj =>
 cell_kept (W:=W) (h j v hj) (grownBy_putObj' _ D o') (fun r e=>by cases e;exact⟨_,hD,rfl⟩)
theorem seq_chunks (F:Fence) (n:Nat) (h8:F.fn 129) (hro:F.round=none) (hn:1≤n) (Bs Bn g d r L cap:Nat) (hd:1≤d) (hdm:d≤1024) (hL:r * d=L) (hLm:L≤1000000) (hcap:L≤cap) (hcm:cap≤maxLen)
  (W0:World) (hBs:W0.cell? ⟨Bs,0,none⟩=some (.slice (some ⟨g,0,none⟩) L cap)) (hBn:W0.cell? ⟨Bn,0,none⟩=some (Jj Jq d)) (l1:Bs < W0.heap.size) (l2:Bn < W0.heap.size) :
  SeqStopsK F n Tryz.prog 129 #[.pointer (some ⟨Bs,0,none⟩),.pointer (some ⟨Bn,0,none⟩)] (fun x:Fin r=>#[.slice (some ⟨g,x.val * d,none⟩) d d]) (Keep2 Bs Bn) (fun ys=>ys.map Fin.val=first r) (fun _=>True) r W0:=by
 intro l J Jx W hb hJ hJx hY h0
 refine CallsIn.mono (chunk_in F n h8 hro hn l Bs Bn g d r L cap hd hdm hL hLm hcap hcm (fun pre W=>∃ p:List (Fin r),p.map Fin.val=pre∧J p W) (fun pre W=>∃ p:List (Fin r),p.map Fin.val=pre∧Jx p W) ?_ ?_ W ((hb.cell (p:=⟨Bs,0,none⟩) l1).trans hBs) ((hb.cell (p:=⟨Bn,0,none⟩) l2).trans hBn) ⟨[],rfl,h0⟩) ?_
 ·rintro pre W1 ⟨p,rfl,hp⟩
  exact⟨p,rfl,hJ _ _ _ none hp (grown_drew _ _) (fun r e=>by cases e)⟩
 ·rintro pre W1 ⟨p,rfl,hp⟩ hlt
  have hl:p.length < r:=by simpa using hlt
  obtain⟨fn,tmps,assign,body,h1,h2⟩:=hY p ⟨p.length,hl⟩ W1 hp hl
  rw [show (p.map Fin.val).length=p.length by simp]
  refine⟨fn,tmps,assign,body,h1,h2.mono ?_⟩
  rintro e W' (⟨he,hj,hk⟩ | ⟨he,hj⟩)
  ·exact .inl ⟨he,⟨_,by simp,hj⟩,hk⟩
  ·exact .inr ⟨he,⟨_,by simp,hj⟩⟩
 ·rintro e W' ⟨he,(⟨ys,rfl,p,hp,hj⟩ | ⟨pre, -,p,hp,hj⟩)⟩
  ·exact⟨he,.inl ⟨p,hp,hj⟩⟩
  ·exact⟨he,.inr ⟨p,trivial,hj⟩⟩
theorem lOf_yes (H W C:Int) (A:Option Addr) (zs:List Int) (n c:Nat) (hn:zs.length=n) (ht:tensB H W C n=true) (hz:I8b zs) (x0 x1 x2 x8 x11 x12 x13 x14 x15 x16 x17 x18:Value) (K S P Z:Int) (WA BA:Option Addr) (nW cW nB cB:Nat) (ws:List Int) (hws:ws.length=nW) (hwc:nW≤cW) (hwm:cW≤maxLen) (hwb:I8b ws) (bs:List Int) (hbs:bs.length=nB)
  (oo:Nat) (he:convE H W C K S P (oo:Int) nW nB=0) (a b d kk:Nat) (ha:zad H K S P=(a:Int)) (hb:zad W K S P=(b:Int)) (hd:C=(d:Int)) (hk:K=(kk:Int)) (N:Nat) (hN:a * b * oo=N) (z1 : -128≤Z) (z2:Z≤127)
  (w:World) (hr:Kit.Rd w w.heap.size A (I8s zs)) (hrw:Kit.Rd w w.heap.size WA (I8s ws)) (hrb:Kit.Rd w w.heap.size BA (I32v bs)) :
  Calls Tryz.prog 31 #[.agg #[Jj Jq H,Jj Jq W,Jj Jq C,.slice A n c],.agg #[x0,x1,x2,Jj Jq K,Jj Jq S,Jj Jq P,Jj Jq (oo:Int),.int .i8 Z,x8,.slice WA nW cW,.slice BA nB cB,x11,x12,x13,x14,x15,x16,x17,x18]] w (MadeA w (a:Int) (b:Int) (oo:Int) N (rowL (gridF b oo (sumF zs ws bs H W C S P d kk Z)) N) (Jj Jq 0)):=by
 obtain⟨hsl,hnW,hn16,hnB⟩:=convE_ok he
 obtain⟨hs0,har1,har2, -, -,hsr⟩:=za9 hsl
 obtain⟨q1,q2,q3,q4,q5,q6,q7⟩:=zac hsr
 obtain⟨g1,g2,g3,g4,c1,c2,g7⟩:=zac hs0
 obtain⟨-, -,k1,k2',st1,st2,pd1,pd2, -⟩:=za1 har1
 obtain⟨k2,hk2⟩:∃ k2,kk * kk=k2:=⟨_,rfl⟩
 obtain⟨wd,hwd⟩:∃ wd,k2 * d=wd:=⟨_,rfl⟩
 obtain⟨N1,hN1⟩:∃ N1,a * b=N1:=⟨_,rfl⟩
 obtain⟨NN,hNN⟩:∃ NN,N1 * wd=NN:=⟨_,rfl⟩
 rw [ha] at q1 q2
 rw [hb] at q3 q4
 have hd1:1≤d:=by omega
 have hkk1:1≤kk:=by omega
 have hoo1:1≤oo:=by omega
 have hk21:1≤k2:=by rw [← hk2];exact Nat.mul_pos hkk1 hkk1
 have hwd1:1≤wd:=by rw [← hwd];exact Nat.mul_pos hk21 hd1
 have hN11:1≤N1:=by rw [← hN1];exact Nat.mul_pos Zb3 Zb3
 have hnWn:nW=oo * wd:=by
  have:(nW:Int)=((oo * wd:Nat):Int):=by
   rw [hnW,hk,hd, ← hwd, ← hk2];simp [Int.mul_assoc]
  omega
 have hwd16:wd≤16384:=by
  have:=Nat.le_mul_of_pos_left wd hoo1
  omega
 have hN3:N1 * oo=N:=by rw [← hN1];exact hN
 have hNle:N≤1024:=by
  have h1:(N:Int)≤1024:=by
   have:(N:Int)=zad H K S P * zad W K S P * (oo:Int):=by rw [ha,hb, ← hN];simp
   omega
  omega
 have hN1le:N1≤1024:=by
  have:=Nat.le_mul_of_pos_right N1 hoo1
  omega
 have hN0:1≤N:=by rw [← hN3];exact Nat.mul_pos hN11 hoo1
 have hNNm:NN≤16777216:=by rw [← hNN];exact Nat.le_trans (Nat.mul_le_mul hN1le hwd16) Zbc
 obtain⟨F,hF⟩:∃ F,F=CPatch.numF zs H W C S P Z b kk d wd:=⟨_,rfl⟩
 obtain⟨M,hM⟩:∃ M,M=CGemm.mulF (CPatch.listF F NN) ws wd oo:=⟨_,rfl⟩
 have hcv:convS H W C K S P (oo:Int) nW nB=#[Jj Jq (a:Int),Jj Jq (b:Int),Jj Jq (oo:Int)]:=by unfold convS;rw [if_pos he,ha,hb]
 have HPO:Hid (∀ (w:World),Kit.Rd w w.heap.size A (I8s zs)→Calls Tryz.prog 78 #[.agg #[Jj Jq H,Jj Jq W,Jj Jq C,.slice A n c],.agg #[x0,x1,x2,Jj Jq K,Jj Jq S,Jj Jq P,Jj Jq (oo:Int),.int .i8 Z,x8,.slice WA nW cW,.slice BA nB cB,x11,x12,x13,x14,x15,x16,x17,x18]] w (CPatch.MadeR w (N1:Int) (wd:Int) NN (CPatch.listF F NN) (Jj Jq 0))):=hid (fun w hr =>
  CPatch.pOf_yes H W C A zs n c hn hz x0 x1 x2 x8 x11 x12 x13 x14 x15 x16 x17 x18 K S P (oo:Int) Z WA BA nW cW nB cB z1 z2 ht (slide_one hsl) a b kk d k2 wd N1 NN ha hb hk hd hk2 hwd hN1 hNN F hF w hr)
 have hxb:CGemm.I16b (CPatch.listF F NN):=fun q=>by
  rw [List.getD_eq_getElem?_getD]
  by_cases h:q < NN
  ·rw [CPatch.zdj F h,hF]
   have:=numF_bd zs H W C S P Z b kk d wd hz z1 z2 q
   show -32768≤CPatch.numF zs H W C S P Z b kk d wd q∧CPatch.numF zs H W C S P Z b kk d wd q≤32767
   omega
  ·rw [List.getElem?_eq_none (by rw [CPatch.zcn];omega)];decide
 have hh1:CGemm.zcy (NN:Int) (N1:Int) (wd:Int)=true:=by unfold CGemm.zcy;rw [decide_eq_true_eq, ← hNN];simp;omega
 have hh2:CGemm.zcy (nW:Int) (oo:Int) (wd:Int)=true:=by unfold CGemm.zcy;rw [decide_eq_true_eq,hnWn];simp;omega
 have HGM:Hid (∀ (w:World) (A4:Option Addr) (c4:Nat),NN≤c4→c4≤maxLen→Kit.Rd w w.heap.size A4 (CPatch.I16v (CPatch.listF F NN))→Kit.Rd w w.heap.size WA (I8s ws)→Calls Tryz.prog 79 #[.slice A4 NN c4,.slice WA nW cW,Jj Jq (N1:Int),Jj Jq (wd:Int),Jj Jq (oo:Int)] w (CGemm.Owned w 21 N (I32v (CGemm.rowL M N)))):=hid (fun w A4 c4 hc4 hm4 hra hrb =>
  CGemm.mul_yes A4 WA (CPatch.listF F NN) ws NN nW c4 cW N1 wd oo N (CPatch.zcn _ _) hws hh1 hh2 hN3 Zb3 hc4 hwc hm4 hwm hxb hwb M hM w hra hrb)
 have HNUM:Hid (∀ i,i < N→IntKind.i32.wrap (M i+bs.getD (i % oo) 0)=gridF b oo (sumF zs ws bs H W C S P d kk Z) i):=hid (fun i hi=>by
  rw [hM];exact low_num zs ws bs H W C S P Z b kk d k2 wd oo N1 NN hk2 hwd Zb3 hd hNN F hF i Zb3)
 obtain⟨G,hG⟩:∃ G,gridF b oo (sumF zs ws bs H W C S P d kk Z)=G:=⟨_,rfl⟩
 rw [hG] at HNUM ⊢
 have HT:=hid ht
 have HE:=hid he
 have HV:=hid hcv
 have HR:=hid hr
 have HRW:=hid hrw
 have HRB:=hid hrb
 have HRB0:=hid hrb
 have HBS:=hid hbs
 have HN3:=hid hN3
 have HNB:Hid (nB=oo):=hid Zb3
 clear hn ht hz hws hwb hbs he ha hb hd hk hN hF hM hG hcv hr hrw hrb hsl hs0 har1 har2 hsr g7 q7 hnW hnB hk2 hwd hN1 hNN hxb hh1 hh2 hnWn hN3
 refine (callsIn_wide (n:=5)).1 ?_
 refine callsIn_of_wp_marks Tryz.func31 rfl trivial ?_ rfl
 simp only [Tryz.ntmps31,List.size_toArray,List.length_cons,List.length_nil,Nat.reduceAdd,Nat.reduceSub,Array.replicate_succ,Array.replicate_zero,List.push_toArray,List.append_toArray,List.nil_append,List.cons_append]
 refine wpIn_wide.2 ?_
 have hsf:∀ (l:Array Value) (w:World) (a:Addr) (m:Mode),(store a (.func (.func 128) #[] l) m).run Tryz.prog w=stored Tryz.prog w a (.func (.func 128) #[] l) m:=fun l w a m=>run_store _ w a _ m rfl
 go_wp2_with (first
  | (go_at_call 13
     have hal:Below w.heap.size w (((w.alloc (.cells #[Jj Jq H,Jj Jq W,Jj Jq C,.slice A n c] 32)).alloc (.cells #[x0,x1,x2,Jj Jq K,Jj Jq S,Jj Jq P,Jj Jq (oo:Int),.int .i8 Z,x8,.slice WA nW cW,.slice BA nB cB,x11,x12,x13,x14,x15,x16,x17,x18] 28)).alloc (.cells #[Jj Jq 0,Jj Jq 0,Jj Jq 0,.slice none 0 0] 41)):=(((Below.refl _ _).alloc Zb4 _).alloc Zb4 _).alloc Zb4 _
     refine (zak H W C A n c true HT.out _).mono ?_
     rintro e w1 ⟨rfl,hb⟩
     refine Z5z ?_;intro hh TB yTB
     have qTN:=(zae.new x0 x1 x2 x8 x11 x12 x13 x14 x15 x16 x17 x18 K S P (oo:Int) Z WA BA nW cW nB cB 28) (w.alloc (.cells #[Jj Jq H,Jj Jq W,Jj Jq C,.slice A n c] 32))
     try simp only [World.size_alloc] at qTN
     refine Z61 ?_;intro TN yTN
     clear qTN
     have qFR:=(zaw 41) ((w.alloc (.cells #[Jj Jq H,Jj Jq W,Jj Jq C,.slice A n c] 32)).alloc (.cells #[x0,x1,x2,Jj Jq K,Jj Jq S,Jj Jq P,Jj Jq (oo:Int),.int .i8 Z,x8,.slice WA nW cW,.slice BA nB cB,x11,x12,x13,x14,x15,x16,x17,x18] 28))
     try simp only [World.size_alloc] at qFR
     refine Z6c ?_;intro FR yFR
     clear qFR
     refine Z7i ?_;try clear HR HRW;intro HR HRW
     replace HRB:=hid ((HRB.out.below hh).more hh.size)
     refine Z71 ?_;intro HBW
     obtain⟨tbp0,tbp1,tbp2,tbp3⟩:=TB.out
     clear hb hh hal)
  | (go_at_call 74
     refine Z72 ?_;intro hal
     refine (conv_to H W C x0 x1 x2 x8 x11 x12 x13 x14 x15 x16 x17 x18 K S P (oo:Int) Z WA BA nW cW nB cB 0 _ HE.out HV.out _).mono ?_
     rintro e w2 ⟨rfl,hb⟩
     refine Z6r ?_;intro hh
     refine Z60 ?_;try clear TB yTB TN yTN FR yFR;intro TB yTB TN yTN FR yFR
     refine Z7i ?_;try clear HR HRW;intro HR HRW
     replace HRB:=hid ((HRB.out.below hh).more hh.size)
     refine Z74 ?_;try clear HBW;intro HBW
     clear tbp0 tbp1 tbp2 tbp3
     obtain⟨tbp0,tbp1,tbp2,tbp3⟩:=TB.out
     refine Z82 ?_;intro n9 n10
     clear hb hh hal)
  | (go_at_call 78
     have hal:Below w2.heap.size w2 (w2.alloc (.cells #[Jj Jq (a:Int),Jj Jq (b:Int),Jj Jq (oo:Int)] 30)):=(Below.refl _ _).alloc Zb4 _
     refine (HPO.out _ ((HR.out.below hal).more hal.size)).mono ?_
     rintro e w3 ⟨v3,rfl,ho3,hb⟩
     refine Z8c ?_;intro hh
     have qTS:=(za2 (a:Int) (b:Int) (oo:Int) 30) w2
     try simp only [World.size_alloc] at qTS
     refine Zaz ?_;intro TS yTS
     clear qTS
     refine Z60 ?_;try clear TB yTB TN yTN FR yFR;intro TB yTB TN yTN FR yFR
     refine Z7i ?_;try clear HR HRW;intro HR HRW
     replace HRB:=hid ((HRB.out.below hh).more hh.size)
     refine Z74 ?_;try clear HBW;intro HBW
     clear tbp0 tbp1 tbp2 tbp3 n9 n10
     have hw3:w.heap.size+2 < w3.heap.size:=yFR
     have hw23:w2.heap.size < w3.heap.size:=yTS
     obtain⟨A4,c4,rfl,hc4,hm4,hrd4⟩:=Kit.zaj ho3
     have RA4:=hid hrd4
     clear ho3 hrd4
     obtain⟨tbp0,tbp1,tbp2,tbp3⟩:=TB.out
     refine Z82 ?_;intro n9 n10
     obtain⟨tsp0,tsp1,tsp2⟩:=TS.out
     clear hb hh hal)
  | (go_at_call 79
     have hal:Below w3.heap.size w3 (w3.alloc (.cells #[Jj Jq (N1:Int),Jj Jq (wd:Int),.slice A4 NN c4] 114)):=(Below.refl _ _).alloc Zb4 _
     refine (HGM.out _ A4 c4 hc4 hm4 ((RA4.out.below hal).more hal.size) ((HRW.out.below hal).more hal.size)).mono ?_
     rintro e w4 ⟨v4,rfl,ho4,hb⟩
     have hh:Below w3.heap.size w3 w4:=hal.trans (hb.mono hal.size)
     refine Z60 ?_;try clear TB yTB TN yTN FR yFR;intro TB yTB TN yTN FR yFR
     replace TS:=hid (TS.out.below yTS hh)
     replace yTS:=Nat.lt_of_lt_of_le yTS hh.size
     refine Z7i ?_;try clear HR HRW;intro HR HRW
     replace HRB:=hid ((HRB.out.below hh).more hh.size)
     replace RA4:=hid ((RA4.out.below hh).more hh.size)
     refine Z74 ?_;try clear HBW;intro HBW
     clear tbp0 tbp1 tbp2 tbp3 n9 n10 tsp0 tsp1 tsp2
     obtain⟨g,c5,rfl,hgb,hc5,hcm5, -⟩:=Kit.own_form ho4 hN0
     have HO4:=hid ho4
     have hgs:=Kit.zbd ho4
     clear ho4
     obtain⟨tbp0,tbp1,tbp2,tbp3⟩:=TB.out
     refine Z82 ?_;intro n9 n10
     obtain⟨tsp0,tsp1,tsp2⟩:=TS.out
     clear hb hh hal)
  | (go_at_call 80;(refine (raising_to BA nB cB _).mono ?_);rintro e w5 ⟨rfl,rfl⟩)
  | (go_at_call 81;(refine (chunks_to (some ⟨g,0,none⟩) N c5 oo hoo1 _).mono ?_);rintro e w6 ⟨rfl,rfl⟩)
  | (refine wpList_load_mid rfl 28 (.tmp 3) rfl (w.heap.size+1) 0 rfl [x0,x1,x2,Jj Jq K,Jj Jq S,Jj Jq P,Jj Jq (oo:Int),.int .i8 Z,x8,.slice WA nW cW,.slice BA nB cB,x11,x12,x13,x14,x15,x16,x17,x18] _ (TN.out) Tryz.underlying28 rfl Zb5 ?_)
  | (refine wpList_load_mid rfl 28 (.tmp 3) rfl (w.heap.size+1) 0 rfl [x0,x1,x2,Jj Jq K,Jj Jq S,Jj Jq P,Jj Jq (oo:Int),.int .i8 Z,x8,.slice WA nW cW,.slice BA nB cB,x11,x12,x13,x14,x15,x16,x17,x18] _ (TN.out.below yTN ((Below.refl _ _).alloc (le_refl _) _)) Tryz.underlying28 rfl Zb5 ?_))
 obtain⟨k1,k2,k3,k4,hbz,hz5⟩:=four_new w4 (.slice BA nB cB) (.func (.func 128) #[] #[.pointer (some ⟨w4.heap.size,0,none⟩)]) (.slice (some ⟨g,0,none⟩) N c5) (Jj Jq (oo:Int)) 24 118 24 3 _ rfl
 have HO5:=hid ((((HO4.out.alloc (.cells #[.slice BA nB cB] 24)).alloc (.cells #[.func (.func 128) #[] #[.pointer (some ⟨w4.heap.size,0,none⟩)]] 118)).alloc (.cells #[.slice (some ⟨g,0,none⟩) N c5] 24)).alloc (.cells #[Jj Jq (oo:Int)] 3))
 obtain⟨B0,hB0⟩:∃ B0,(w3.alloc (.cells #[Jj Jq (N1:Int),Jj Jq (wd:Int),.slice A4 NN c4] 114)).heap.size=B0:=⟨_,rfl⟩
 have hB0w:w3.heap.size+1=B0:=by rw [← hB0];exact (World.size_alloc _ _).symm
 rw [hB0] at HO5 hgb
 clear HO4 hB0
 generalize (((w4.alloc (.cells #[.slice BA nB cB] 24)).alloc (.cells #[.func (.func 128) #[] #[.pointer (some ⟨w4.heap.size,0,none⟩)]] 118)).alloc (.cells #[.slice (some ⟨g,0,none⟩) N c5] 24)).alloc (.cells #[Jj Jq (oo:Int)] 3)=W5 at k1 k2 k3 k4 hbz hz5 HO5 ⊢
 have HB5:Hid (Below w.heap.size w W5):=hid (HBW.out.trans (hbz.mono HBW.out.size))
 have hRI:∀ (pre:List (Fin N1)) (x:Fin N1) (W:World),W.ownsRow B0 21 1 (.slice (some ⟨g,0,none⟩) N c5) N (I32v (CGemm.rowL (cont M bs oo (pre.map Fin.val)) N))→W5.grownBy W (some g) →
   Calls Tryz.prog 128 #[.slice (some ⟨g,x.val * oo,none⟩) oo oo,.pointer (some ⟨w4.heap.size,0,none⟩)] W fun e W'=>(∃ v,e=.returned v)∧W'.ownsRow B0 21 1 (.slice (some ⟨g,0,none⟩) N c5) N (I32v (CGemm.rowL (cont M bs oo ((pre ++ [x]).map Fin.val)) N))∧W.grownBy W' (some g):=by
  intro pre x W hrow hg
  have hq:x.val * oo+oo≤N:=by
   have:=Nat.mul_le_mul_right oo (show x.val+1≤N1 from x.isLt)
   rw [Nat.add_mul,Nat.one_mul,HN3.out] at this;exact this
  have hk:=(zdc hg (p:=⟨w4.heap.size,0,none⟩) (by show w4.heap.size < _;omega) (by show w4.heap.size≠g;omega)).trans k1
  rw [HNB.out] at hk
  have hgs:=hg.size
  refine (raise_to g (x.val * oo) oo N c5 B0 w4.heap.size cB w.heap.size BA bs (newF M bs oo (pre.map Fin.val) x.val) (cont M bs oo (pre.map Fin.val)) (HBS.out.trans HNB.out) hoo1 (by have:=Nat.le_mul_of_pos_left oo hN11;have:=HN3.out;omega) hq Zb3 Zb3 Zb3 (fun j hj=>new_at M bs oo _ x.val j hj) W (by have:=HB5.out.size;omega) (by rw [new_before];exact hrow) hk Zb3 (HRB0.out.below (HB5.out.trans (zc3 hg Zb3 (by have:=HB5.out.size;omega))))).mono ?_
  rintro e W' ⟨h1,h2,h3⟩
  rw [new_behind M bs oo hoo1] at h2
  refine⟨h1,?_,h3⟩
  rw [List.map_append]
  exact h2
 have HRI:=hid hRI
 clear hRI
 have hos:oo≤1024:=by have:=Nat.le_mul_of_pos_left oo hN11;have:=HN3.out;omega
 refine (wpIn_wide (n:=5)).1 ?_
 refine wpIn_rangeFunc_ownG (F:=Fence.wide) (n:=5) rfl Zb3 (gf:=129) (lb:=#[.pointer (some ⟨w4.heap.size+1+1,0,none⟩),.pointer (some ⟨w4.heap.size+1+1+1,0,none⟩)]) rfl trivial (enters_of Tryz.func129 Zb5 rfl)
  (seq_chunks Fence.wide (5 - 1) trivial rfl Zb3 (w4.heap.size+1+1) (w4.heap.size+1+1+1) g oo N1 N c5 hoo1 hos HN3.out Zb3 hc5 hcm5 W5 k3 k4 Zb3 Zb3) Keep2.trans
  (fun W l o o' hl ho h1 h2=>⟨(belowK_b (w:=W5) (le_refl _) W l o o' hl ho h1 h2).cell (p:=⟨w4.heap.size+1+1,0,none⟩) (by show w4.heap.size+1+1 < _;omega),(belowK_b (w:=W5) (le_refl _) W l o o' hl ho h1 h2).cell (p:=⟨w4.heap.size+1+1+1,0,none⟩) (by show w4.heap.size+1+1+1 < _;omega)⟩)
  (Below.refl _ _) (fun _=>rfl)
  (fun p W=>W.ownsRow B0 21 1 (.slice (some ⟨g,0,none⟩) N c5) N (I32v (CGemm.rowL (cont M bs oo (p.map Fin.val)) N))∧W5.grownBy W (some g))
  (fun _ _ _=>False)
  (OwnFrom.and (ownFrom_own W5.heap.size B0 g N c5 21 Zb3 (fun p:List (Fin N1)=>I32v (CGemm.rowL (cont M bs oo (p.map Fin.val)) N))) (ownFrom_grown W5 g))
  (fun _=>ownFrom_false _)
  ⟨HO5.out,grown_self _ _⟩
  (fun x => { tmps:=#[.agg #[Jj Jq H,Jj Jq W,Jj Jq C,.slice A n c],.agg #[x0,x1,x2,Jj Jq K,Jj Jq S,Jj Jq P,Jj Jq (oo:Int),.int .i8 Z,x8,.slice WA nW cW,.slice BA nB cB,x11,x12,x13,x14,x15,x16,x17,x18],.pointer (some ⟨w.heap.size,0,none⟩),.pointer (some ⟨w.heap.size+1,0,none⟩),.pointer (some ⟨w.heap.size+1+1,0,none⟩),Jj Jq 0,.pointer (some ⟨w2.heap.size,0,none⟩),Jj Jq 0,.pointer (some ⟨w3.heap.size,0,none⟩),Jj Jq 0,.slice (some ⟨g,0,none⟩) N c5,.pointer (some ⟨w4.heap.size+1,0,none⟩),.slice (some ⟨g,x.val * oo,none⟩) oo oo,.agg #[Jj Jq H,Jj Jq W,Jj Jq C,.slice A n c],.bool true,.bool false,undef,.tuple #[.agg #[Jj Jq (a:Int),Jj Jq (b:Int),Jj Jq (oo:Int)],Jj Jq 0],.pointer (some ⟨w.heap.size,0,none⟩),.agg #[Jj Jq H,Jj Jq W,Jj Jq C],.agg #[x0,x1,x2,Jj Jq K,Jj Jq S,Jj Jq P,Jj Jq (oo:Int),.int .i8 Z,x8,.slice WA nW cW,.slice BA nB cB,x11,x12,x13,x14,x15,x16,x17,x18],.tuple #[.agg #[Jj Jq (a:Int),Jj Jq (b:Int),Jj Jq (oo:Int)],Jj Jq 0],.agg #[Jj Jq (a:Int),Jj Jq (b:Int),Jj Jq (oo:Int)],Jj Jq 0,Jj Jq 0,.bool false,undef,undef,.tuple #[.agg #[Jj Jq (N1:Int),Jj Jq (wd:Int),.slice A4 NN c4],Jj Jq 0],.agg #[Jj Jq H,Jj Jq W,Jj Jq C,.slice A n c],.agg #[x0,x1,x2,Jj Jq K,Jj Jq S,Jj Jq P,Jj Jq (oo:Int),.int .i8 Z,x8,.slice WA nW cW,.slice BA nB cB,x11,x12,x13,x14,x15,x16,x17,x18],.tuple #[.agg #[Jj Jq (N1:Int),Jj Jq (wd:Int),.slice A4 NN c4],Jj Jq 0],.agg #[Jj Jq (N1:Int),Jj Jq (wd:Int),.slice A4 NN c4],Jj Jq 0,.pointer (some ⟨w3.heap.size,2,none⟩),.slice A4 NN c4,.pointer (some ⟨w.heap.size+1,9,none⟩),.slice WA nW cW,.pointer (some ⟨w3.heap.size,0,none⟩),Jj Jq (N1:Int),.pointer (some ⟨w3.heap.size,1,none⟩),Jj Jq (wd:Int),.pointer (some ⟨w2.heap.size,2,none⟩),Jj Jq (oo:Int),.slice (some ⟨g,0,none⟩) N c5,.pointer (some ⟨w.heap.size+1,10,none⟩),.slice BA nB cB,.func (.func 128) #[] #[.pointer (some ⟨w4.heap.size,0,none⟩)],.slice (some ⟨g,0,none⟩) N c5,.pointer (some ⟨w2.heap.size,2,none⟩),Jj Jq (oo:Int),.func (.func 129) #[] #[.pointer (some ⟨w4.heap.size+1+1,0,none⟩),.pointer (some ⟨w4.heap.size+1+1+1,0,none⟩)],.slice (some ⟨g,x.val * oo,none⟩) oo oo,undef,undef,undef,undef,undef,undef],defers:=[] }) ?assign ?body ?done ?stop
 case assign =>
  intro l x W K hK
  gi_wp2
  exact hK
 case body =>
  rintro l pre x W ⟨hrow,hg⟩ hlt
  have k2W:=(zdc hg (p:=⟨w4.heap.size+1,0,none⟩) (by show w4.heap.size+1 < _;omega) (by show w4.heap.size+1≠g;omega)).trans k2
  have HROW:=hid hrow
  have HG:=hid hg
  clear hrow hg k1 k2 k3 k4 hbz hlt
  have hwide:∀ f,Fence.wide.fn f:=fun _=>trivial
  gi_wp2_with (gi_at_call 128;refine (CallsIn.inRound l (callsIn_wide.2 (HRI.out pre x W HROW.out HG.out))).mono ?_;rintro e W' ⟨⟨v,rfl⟩,hrow',hg'⟩)
  exact⟨KeepsFrom.of_grownBy hg' (fun j e=>by cases e;omega),⟨zdc hg' (by show w4.heap.size+1+1 < _;have:=HG.out.size;omega) (by show w4.heap.size+1+1≠g;omega),zdc hg' (by show w4.heap.size+1+1+1 < _;have:=HG.out.size;omega) (by show w4.heap.size+1+1+1≠g;omega)⟩,hrow',grown_trans HG.out hg'⟩
 case done =>
  rintro D ys W hD hys ⟨hrow,hg⟩ hK
  have hcf:CGemm.rowL (cont M bs oo (first N1)) N=rowL G N:=CGemm.zc9 fun i hi=>by
   rw [cont_first,if_pos ((Nat.div_lt_iff_lt_mul hoo1).2 (by rw [HN3.out];exact hi)),HNUM.out i hi]
  rw [hys,hcf] at hrow
  have HROW:=hid hrow
  have HBD:=hid (HB5.out.trans (zc3 hg (show w.heap.size≤g by omega) HB5.out.size))
  have hcW:∀ (b i:Nat),b < w4.heap.size→b≠g→W.cell? ⟨b,i,none⟩=w4.cell? ⟨b,i,none⟩:=fun b i h1 h2=>(zdc hg (p:=⟨b,i,none⟩) (by show b < _;omega) h2).trans (hbz.cell (p:=⟨b,i,none⟩) h1)
  have hfW:∀ (b i:Nat),b < w4.heap.size→b≠g→W.frozen? ⟨b,i,none⟩=w4.frozen? ⟨b,i,none⟩:=fun b i h1 h2=>(grown_frozen hg (p:=⟨b,i,none⟩) (by show b < _;omega) h2).trans (hbz.frozen (p:=⟨b,i,none⟩) h1)
  obtain⟨⟨z0,z1,z2,z3⟩,z4,z5,z6,z7⟩:=FR.out
  have hyF:w.heap.size+2 < w4.heap.size:=yFR
  have r0:=(hcW (w.heap.size+2) 0 hyF Zb3).trans z0
  have r1:=(hcW (w.heap.size+2) 1 hyF Zb3).trans z1
  have r2:=(hcW (w.heap.size+2) 2 hyF Zb3).trans z2
  have r3:=(hcW (w.heap.size+2) 3 hyF Zb3).trans z3
  have r4:=(hfW (w.heap.size+2) 0 hyF Zb3).trans z4
  have r5:=(hfW (w.heap.size+2) 1 hyF Zb3).trans z5
  have r6:=(hfW (w.heap.size+2) 2 hyF Zb3).trans z6
  have r7:=(hfW (w.heap.size+2) 3 hyF Zb3).trans z7
  have s0:=(hcW w2.heap.size 0 yTS Zb3).trans tsp0
  have s1:=(hcW w2.heap.size 1 yTS Zb3).trans tsp1
  have s2:=(hcW w2.heap.size 2 yTS Zb3).trans tsp2
  have hW4:w4.heap.size+4≤W.heap.size:=by have:=hg.size;omega
  clear hrow hg hcW hfW z0 z1 z2 z3 z4 z5 z6 z7 k1 k2 k3 k4 hbz tbp0 tbp1 tbp2 tbp3 tsp0 tsp1 tsp2 TB TN FR TS HR HRW HRB RA4 HBW
  have HK:=hid hK
  clear hK
  go_wp2_with fail
  have hk:=((((KeepsOthers.setCell W ⟨w.heap.size+2,0,none⟩ (Jj Jq (a:Int))).trans (KeepsOthers.setCell _ ⟨w.heap.size+2,1,none⟩ (Jj Jq (b:Int)))).trans (KeepsOthers.setCell _ ⟨w.heap.size+2,2,none⟩ (Jj Jq (oo:Int)))).trans (KeepsOthers.setCell _ ⟨w.heap.size+2,3,none⟩ (.slice (some ⟨g,0,none⟩) N c5))).same D _ HK.out rfl
  refine⟨by simp,.inl ⟨_,_,rfl,run_takeDeferred hk,?_⟩⟩
  refine⟨_,Kit.zaa rfl _ _ (w.heap.size+2) 0 [Jj Jq (a:Int),Jj Jq (b:Int),Jj Jq (oo:Int),.slice (some ⟨g,0,none⟩) N c5] _ rfl (range_put (CGemm.zao Zb6 Zb6 Zb6 Zb6) _ hk) Tryz.underlying41 rfl Zb5,?_⟩
  refine⟨_,rfl,Kit.zah (ownsRow_putObj (za0 HROW.out ?_) _ hk rfl) ?_,?_⟩
  any_goals (first | omega | (simp;done) | (simp;omega))
  exact ((((HBD.out.setCell (p:=⟨w.heap.size+2,0,none⟩) Zb7 _).setCell (p:=⟨w.heap.size+2,1,none⟩) Zb7 _).setCell (p:=⟨w.heap.size+2,2,none⟩) Zb7 _).setCell (p:=⟨w.heap.size+2,3,none⟩) Zb7 _).trans (belowK_b (w:=w) (le_refl _) _ D _ _ Zb3 hk rfl rfl)
 case stop =>
  rintro D c pre W _ _ h _
  exact h.elim
end CLower
end
end Go.Proofs.YtchpdhhpkljdhaaGreatDoor
