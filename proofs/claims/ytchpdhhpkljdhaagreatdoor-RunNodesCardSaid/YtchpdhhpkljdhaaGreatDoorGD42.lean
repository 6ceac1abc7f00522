/- -/
import Derived.Test.YtchpdhhpkljdhaaGreatDoorGD41
open Go.Value renaming int→Jj
open Go.IntKind renaming i64→Jq
open Go.Lib (hid)
open Nat (le_refl lt_of_succ_lt lt_succ_self)
set_option linter.unusedVariables false
set_option linter.unusedSimpArgs false
set_option maxRecDepth 100000
set_option maxHeartbeats 16000000
namespace Go.Proofs.YtchpdhhpkljdhaaGreatDoor
namespace CConv
end CConv
namespace CSat
end CSat
open Go Go.ChangeShapes Go.WideShapes Go.ChangeAt Go.RowKit
section
namespace CPool
open Plain CSat CShape CTensor CConv
def greatF (zs:List Int) (H W C S P:Int) (kk:Nat) (h v o:Nat):Int:=maxL (zcg zs H W C ((h:Int) * S - P) ((v:Int) * S - P) kk o)
theorem eachMax_yes (H W C:Int) (A:Option Addr) (zs:List Int) (n c:Nat) (hn:zs.length=n) (ht:tensB H W C n=true) (hz:I8b zs) (x0 x1 x2 x8 x11 x12 x13 x14 x15 x16 x17 x18:Value) (K S P O Z:Int) (WA BA:Option Addr) (nW cW nB cB:Nat) (a b d kk:Nat) (he:za7 H W C K S P C=0) (ha:zad H K S P=(a:Int)) (hb:zad W K S P=(b:Int)) (hd:C=(d:Int)) (hk:K=(kk:Int)) (N:Nat) (hN:a * b * d=N)
  (w:World) (hr:Kit.Rd w w.heap.size A (I8s zs)) :
  Calls Tryz.prog 45 #[.agg #[Jj Jq H,Jj Jq W,Jj Jq C,.slice A n c],.agg #[x0,x1,x2,Jj Jq K,Jj Jq S,Jj Jq P,Jj Jq O,.int .i8 Z,x8,.slice WA nW cW,.slice BA nB cB,x11,x12,x13,x14,x15,x16,x17,x18],.func (.func 46) #[] #[]] w (MadeP w (a:Int) (b:Int) C N (rowL (gridF b d (greatF zs H W C S P kk)) N) (Jj Jq 0)):=by
 refine Z7h ?_;intro hs0 har1 har2 hsr k1 k2 st1 st2 pd1 pd2 hS q1 q2 q3 q4 q5 q6 q7 hNI hN2 hel
 obtain⟨F,hF⟩:∃ F,F=gridF b d (greatF zs H W C S P kk):=⟨_,rfl⟩
 have hFF:∀ i j k:Nat,j < b→k < d→F ((i * b+j) * d+k)=greatF zs H W C S P kk i j k:=fun i j k hj hk=>by rw [hF,zdf b d _ hj hk]
 rw [← hF]
 have hn1:0 < n:=by
  exact Z57
 obtain⟨bb,ob,rfl,hbb,hcb⟩:=zax hr (j:=0) Zb3
 obtain⟨i0,hi0,hi1,hi2,hi3⟩:=zbf info_i8p
 refine Z8q ?_;intro hmk
 have hkk1:1≤kk:=by omega
 have hkk7:kk≤7:=by omega
 subst hk
 refine Zao ?_;intro HT HE HS HEL
 have HFF:=hid hFF
 have HN:=hid hn
 have HZ:=hid hz
 have HD:=hid hd
 have HNN:=hid hN
 have HCB:=hid hcb
 clear hcb ht he hS hel hFF hn hz hd hN hr hs0 har1 har2 hsr q7 hNI hF ha hb
 go_enter Tryz.func45,Tryz.ntmps45
 go_wp2_with (first
  | (go_at_call 13
     refine Z7y ?_;intro hal
     refine (zak H W C (some ⟨bb,ob,none⟩) n c true HT.out _).mono ?_
     rintro e w1 ⟨rfl,hb⟩
     refine Z6m ?_;intro hh
     have qTB:=(zav H W C (some ⟨bb,ob,none⟩) n c 32) w
     try simp only [World.size_alloc] at qTB
     refine Z62 ?_;intro TB yTB
     clear qTB
     refine Za7 ?_;intro qTN
     refine Z61 ?_;intro TN yTN
     clear qTN
     refine Z9a ?_;intro qFR
     refine Z6c ?_;intro FR yFR
     clear qFR
     refine Z71 ?_;intro HBW
     obtain⟨tbp0,tbp1,tbp2,tbp3⟩:=TB.out
     refine Z7p ?_;intro n3 n4 n5
     clear hb hh hal)
  | (go_at_call 98
     refine Z72 ?_;intro hal
     refine (zb1 H W C (kk:Int) S P C 0 _ HE.out HS.out _).mono ?_
     rintro e w2 ⟨rfl,hb⟩
     refine Z6r ?_;intro hh
     refine Z60 ?_;try clear TB yTB TN yTN FR yFR;intro TB yTB TN yTN FR yFR
     refine Z74 ?_;try clear HBW;intro HBW
     clear tbp0 tbp1 tbp2 tbp3 n3 n4 n5
     refine Z9x ?_;intro hg2 tbp0 tbp1 tbp2 tbp3
     refine Z7p ?_;intro n3 n4 n5
     clear hb hh hal)
  | (go_at_call 44
     refine Z91 ?_;intro hal
     refine (zb3 (a:Int) (b:Int) C N HEL.out _).mono ?_
     rintro e w3 ⟨rfl,hb⟩
     refine Z80 ?_;intro hh TS yTS
     refine Z60 ?_;try clear TB yTB TN yTN FR yFR;intro TB yTB TN yTN FR yFR
     refine Z74 ?_;try clear HBW;intro HBW
     clear tbp0 tbp1 tbp2 tbp3 n3 n4 n5
     obtain⟨tbp0,tbp1,tbp2,tbp3⟩:=TB.out
     refine Z7p ?_;intro n3 n4 n5
     obtain⟨tsp0,tsp1,tsp2⟩:=TS.out
     clear hb hh hal))
 refine Z7k ?_;intro hal h63 hOA hW
 clear TB TN FR TS yTB yTN yFR yTS hal tbp0 tbp1 tbp2 tbp3 n3 n4 n5 tsp0 tsp1 tsp2 HBW hg2
 generalize (w3.alloc (.cells (madeCells #[.int .i8 0] N) 22))=Wm at hOA hW ⊢
 generalize w2.heap.size=g6 at hOA hW h63 ⊢
 generalize (⟨w3.heap.size,0,none⟩:Addr)=ad at hW ⊢
 go_loopw [10,42] (fun v u wr=>∃ i:Nat,i≤a∧u=Jj Jq i∧Hid (OfAt w H W C (some ⟨bb,ob,none⟩) n c x0 x1 x2 x8 x11 x12 x13 x14 x15 x16 x17 x18 (kk:Int) S P O Z WA BA nW cW nB cB (a:Int) (b:Int) C g6 wr)∧Hid (wr.ownsRow (g6+1) 22 1 v (i * b * d) (I8s (rowL F (i * b * d))))) (fun _ u _=>a - (intOf u).toNat)
 case atStart=>exact Z30
 case round =>
  obtain⟨i,hi,rfl,hA0,hW0⟩:=hrel
  clear hOA hW
  obtain⟨Av0,cv0,rfl, -, -, -⟩:=Kit.zaj hW0.out
  obtain⟨-, -, -,⟨s1,s2,s3⟩, -, -⟩:=hA0.out
  by_cases hlt:i < a
  ·have hiI:(i:Int) < (a:Int):=by omega
   go_wp2_with fail
   go_loopw [10,47] (fun v u wr=>∃ j:Nat,j≤b∧u=Jj Jq j∧Hid (OfAt w H W C (some ⟨bb,ob,none⟩) n c x0 x1 x2 x8 x11 x12 x13 x14 x15 x16 x17 x18 (kk:Int) S P O Z WA BA nW cW nB cB (a:Int) (b:Int) C g6 wr)∧Hid (wr.ownsRow (g6+1) 22 1 v ((i * b+j) * d) (I8s (rowL F ((i * b+j) * d))))) (fun _ u _=>b - (intOf u).toNat)
   case atStart=>exact Z2y
   case round =>
    obtain⟨j,hj,rfl,hA1,hW1⟩:=hrel
    clear hA0 hW0 s1 s2 s3
    obtain⟨Av1,cv1,rfl, -, -, -⟩:=Kit.zaj hW1.out
    obtain⟨-, -, -,⟨s1,s2,s3⟩, -, -⟩:=hA1.out
    by_cases hltj:j < b
    ·have hjI:(j:Int) < (b:Int):=by omega
     obtain⟨o,ho⟩:∃ o,(i * b+j) * d=o:=⟨_,rfl⟩
     rw [ho] at hW1 ⊢
     have HOO:=hid ho
     clear ho
     go_wp2_with fail
     go_loopw [10,52] (fun v u wr=>∃ k:Nat,k≤d∧u=Jj Jq k∧Hid (OfAt w H W C (some ⟨bb,ob,none⟩) n c x0 x1 x2 x8 x11 x12 x13 x14 x15 x16 x17 x18 (kk:Int) S P O Z WA BA nW cW nB cB (a:Int) (b:Int) C g6 wr)∧Hid (wr.ownsRow (g6+1) 22 1 v (o+k) (I8s (rowL F (o+k))))) (fun _ u _=>d - (intOf u).toNat)
     case atStart=>exact⟨0,Nat.zero_le _,rfl,hA1,hW1⟩
     case round =>
      obtain⟨k,hk,rfl,hA2,hW2⟩:=hrel
      clear hA1 hW1 s1 s2 s3
      obtain⟨Av,cv,rfl, -, -, -⟩:=Kit.zaj hW2.out
      obtain⟨hbx,hnd, -,⟨s1,s2,s3⟩,hbw,hsz⟩:=hA2.out
      have HBW:=hid hbw
      clear hbw
      by_cases hltk:k < d
      ·refine Z86 ?_;intro hkI hk0 hom hs hhs vs hvs b1 b2 e1 e2 top htop left hleft e3 e4 hF1
       unfold greatF zcg at hF1
       rw [HOO.out,hhs,hvs,htop,hleft] at hF1
       obtain⟨x,hx⟩:∃ x,F (o+k)=x:=⟨_,rfl⟩
       rw [hx] at hF1
       have HX1:Hid (maxL ((rowsI H W C top left kk k kk).map (fun q=>zs.getD q 0))=x):=hid (by rw [← rowsI_L];exact hF1.symm)
       have HXX:=hid hx
       have t1 : -1000≤top:=by omega
       have t2:top≤1000:=by omega
       have l1 : -1000≤left:=by omega
       have l2:left≤1000:=by omega
       obtain⟨k0,k1_,k2_,k3_⟩:=hbx
       have n3:=hnd.at 3 _ rfl
       have n4:=hnd.at 4 _ rfl
       have n5:=hnd.at 5 _ rfl
       clear hx hF1 htop hleft hnd
       go_wp2_with (first
        | (go_at_call 99;(refine (pwin_to H W C (some ⟨bb,ob,none⟩) n c (kk:Int) top left (k:Int) _).mono ?_);(rintro e w4 ⟨rfl,hcap,hb4,hs4⟩;have HCAP:=hid hcap;have HB4:=hid hb4;have HS4:=hid hs4;have hz4:w.heap.size≤w4.heap.size:=Nat.le_trans HBW.out.size hb4.size;clear hcap hb4 hs4))
        | (go_at_call 46;(refine (maxC_to wr.heap.size bb ob H W C n c kk k d top left (fun q=>zs.getD q 0) HZ.out HT.out HD.out hltk hkk7 t1 t2 l1 l2 x HX1.out w4 (by have:=HS4.out;omega) Zb3 HCAP.out (fun j hj=>((HBW.out.trans (HB4.out.mono HBW.out.size)).cell (p:=⟨bb,ob+j,none⟩) hbb).trans (HCB.out j (by rw [HN.out];exact hj)))).mono ?_);(rintro e w5 ⟨rfl,hb5⟩;have HB5:=hid ((HB4.out.trans (hb5.mono HB4.out.size)).alloc (Nat.le_trans HB4.out.size hb5.size) (.cells #[.int .i8 x] 22));have HO5:=hid (Kit.own_below hW2.out HB5.out);have hz5:g6+1≤(w5.alloc (.cells #[.int .i8 x] 22)).heap.size:=Nat.le_trans hsz HB5.out.size;clear hb5))
        | (at_builtin;refine Kit.zbb _ rfl (.tmp 55) (.tmp 77) _ rfl (g6+1) 22 i0 (.int .i8 0) 1 1 Tryz.underlying23 hi0 hi1 hi2 hi3 rfl Zbc _ (o+k) (I8s (rowL F (o+k))) rfl HO5.out _ _ 1 1 [.int .i8 x] rfl rfl (Kit.Rd.new _ _ _ (lt_succ_self _)) (Kit.za5 .i8 [x]) (by unfold maxLen;omega) Zb3 hz5 ?_;(intro v6 w6 hown6 hg7 _;obtain⟨A6,c6,rfl, -, -, -⟩:=Kit.zaj hown6;have hb6:Below (g6+1) _ w6:=(Below.refl _ _).grown hg7 hz5 (Kit.zaq HO5.out);rw [zcr F (o+k) x HXX.out] at hown6;have HW6:=hid hown6;have HA6:=hid ((hA2.out.below h63 (show g6 < wr.heap.size by omega) HB5.out).below h63 (lt_succ_self _) hb6);clear hown6 hg7 hb6)))
       exact Z31
      ·obtain rfl:k=d:=by omega
       exact Z1m
    ·obtain rfl:j=b:=by omega
     exact Z1r
  ·obtain rfl:i=a:=by omega
   exact Z41
theorem eachAvg_yes (H W C:Int) (A:Option Addr) (zs:List Int) (n c:Nat) (hn:zs.length=n) (ht:tensB H W C n=true) (hz:I8b zs) (x0 x1 x2 x8 x11 x12 x13 x14 x15 x16 x17 x18:Value) (K S P O Z:Int) (WA BA:Option Addr) (nW cW nB cB:Nat) (a b d kk:Nat) (he:za7 H W C K S P C=0) (ha:zad H K S P=(a:Int)) (hb:zad W K S P=(b:Int)) (hd:C=(d:Int)) (hk:K=(kk:Int)) (N:Nat) (hN:a * b * d=N)
  (w:World) (hr:Kit.Rd w w.heap.size A (I8s zs)) :
  Calls Tryz.prog 45 #[.agg #[Jj Jq H,Jj Jq W,Jj Jq C,.slice A n c],.agg #[x0,x1,x2,Jj Jq K,Jj Jq S,Jj Jq P,Jj Jq O,.int .i8 Z,x8,.slice WA nW cW,.slice BA nB cB,x11,x12,x13,x14,x15,x16,x17,x18],.func (.func 47) #[] #[]] w (MadeP w (a:Int) (b:Int) C N (rowL (gridF b d (meanF zs H W C S P kk)) N) (Jj Jq 0)):=by
 refine Z7h ?_;intro hs0 har1 har2 hsr k1 k2 st1 st2 pd1 pd2 hS q1 q2 q3 q4 q5 q6 q7 hNI hN2 hel
 obtain⟨F,hF⟩:∃ F,F=gridF b d (meanF zs H W C S P kk):=⟨_,rfl⟩
 have hFF:∀ i j k:Nat,j < b→k < d→F ((i * b+j) * d+k)=meanF zs H W C S P kk i j k:=fun i j k hj hk=>by rw [hF,zdf b d _ hj hk]
 rw [← hF]
 have hn1:0 < n:=by
  exact Z57
 obtain⟨bb,ob,rfl,hbb,hcb⟩:=zax hr (j:=0) Zb3
 obtain⟨i0,hi0,hi1,hi2,hi3⟩:=zbf info_i8p
 refine Z8q ?_;intro hmk
 have hkk1:1≤kk:=by omega
 have hkk7:kk≤7:=by omega
 subst hk
 refine Zao ?_;intro HT HE HS HEL
 have HFF:=hid hFF
 have HN:=hid hn
 have HZ:=hid hz
 have HD:=hid hd
 have HNN:=hid hN
 have HCB:=hid hcb
 clear hcb ht he hS hel hFF hn hz hd hN hr hs0 har1 har2 hsr q7 hNI hF ha hb
 go_enter Tryz.func45,Tryz.ntmps45
 go_wp2_with (first
  | (go_at_call 13
     refine Z7y ?_;intro hal
     refine (zak H W C (some ⟨bb,ob,none⟩) n c true HT.out _).mono ?_
     rintro e w1 ⟨rfl,hb⟩
     refine Z6m ?_;intro hh
     have qTB:=(zav H W C (some ⟨bb,ob,none⟩) n c 32) w
     try simp only [World.size_alloc] at qTB
     refine Z62 ?_;intro TB yTB
     clear qTB
     refine Za7 ?_;intro qTN
     refine Z61 ?_;intro TN yTN
     clear qTN
     refine Z9a ?_;intro qFR
     refine Z6c ?_;intro FR yFR
     clear qFR
     refine Z71 ?_;intro HBW
     obtain⟨tbp0,tbp1,tbp2,tbp3⟩:=TB.out
     refine Z7p ?_;intro n3 n4 n5
     clear hb hh hal)
  | (go_at_call 98
     refine Z72 ?_;intro hal
     refine (zb1 H W C (kk:Int) S P C 0 _ HE.out HS.out _).mono ?_
     rintro e w2 ⟨rfl,hb⟩
     refine Z6r ?_;intro hh
     refine Z60 ?_;try clear TB yTB TN yTN FR yFR;intro TB yTB TN yTN FR yFR
     refine Z74 ?_;try clear HBW;intro HBW
     clear tbp0 tbp1 tbp2 tbp3 n3 n4 n5
     refine Z9x ?_;intro hg2 tbp0 tbp1 tbp2 tbp3
     refine Z7p ?_;intro n3 n4 n5
     clear hb hh hal)
  | (go_at_call 44
     refine Z91 ?_;intro hal
     refine (zb3 (a:Int) (b:Int) C N HEL.out _).mono ?_
     rintro e w3 ⟨rfl,hb⟩
     refine Z80 ?_;intro hh TS yTS
     refine Z60 ?_;try clear TB yTB TN yTN FR yFR;intro TB yTB TN yTN FR yFR
     refine Z74 ?_;try clear HBW;intro HBW
     clear tbp0 tbp1 tbp2 tbp3 n3 n4 n5
     obtain⟨tbp0,tbp1,tbp2,tbp3⟩:=TB.out
     refine Z7p ?_;intro n3 n4 n5
     obtain⟨tsp0,tsp1,tsp2⟩:=TS.out
     clear hb hh hal))
 refine Z7k ?_;intro hal h63 hOA hW
 clear TB TN FR TS yTB yTN yFR yTS hal tbp0 tbp1 tbp2 tbp3 n3 n4 n5 tsp0 tsp1 tsp2 HBW hg2
 generalize (w3.alloc (.cells (madeCells #[.int .i8 0] N) 22))=Wm at hOA hW ⊢
 generalize w2.heap.size=g6 at hOA hW h63 ⊢
 generalize (⟨w3.heap.size,0,none⟩:Addr)=ad at hW ⊢
 go_loopw [10,42] (fun v u wr=>∃ i:Nat,i≤a∧u=Jj Jq i∧Hid (OfAt w H W C (some ⟨bb,ob,none⟩) n c x0 x1 x2 x8 x11 x12 x13 x14 x15 x16 x17 x18 (kk:Int) S P O Z WA BA nW cW nB cB (a:Int) (b:Int) C g6 wr)∧Hid (wr.ownsRow (g6+1) 22 1 v (i * b * d) (I8s (rowL F (i * b * d))))) (fun _ u _=>a - (intOf u).toNat)
 case atStart=>exact Z30
 case round =>
  obtain⟨i,hi,rfl,hA0,hW0⟩:=hrel
  clear hOA hW
  obtain⟨Av0,cv0,rfl, -, -, -⟩:=Kit.zaj hW0.out
  obtain⟨-, -, -,⟨s1,s2,s3⟩, -, -⟩:=hA0.out
  by_cases hlt:i < a
  ·have hiI:(i:Int) < (a:Int):=by omega
   go_wp2_with fail
   go_loopw [10,47] (fun v u wr=>∃ j:Nat,j≤b∧u=Jj Jq j∧Hid (OfAt w H W C (some ⟨bb,ob,none⟩) n c x0 x1 x2 x8 x11 x12 x13 x14 x15 x16 x17 x18 (kk:Int) S P O Z WA BA nW cW nB cB (a:Int) (b:Int) C g6 wr)∧Hid (wr.ownsRow (g6+1) 22 1 v ((i * b+j) * d) (I8s (rowL F ((i * b+j) * d))))) (fun _ u _=>b - (intOf u).toNat)
   case atStart=>exact Z2y
   case round =>
    obtain⟨j,hj,rfl,hA1,hW1⟩:=hrel
    clear hA0 hW0 s1 s2 s3
    obtain⟨Av1,cv1,rfl, -, -, -⟩:=Kit.zaj hW1.out
    obtain⟨-, -, -,⟨s1,s2,s3⟩, -, -⟩:=hA1.out
    by_cases hltj:j < b
    ·have hjI:(j:Int) < (b:Int):=by omega
     obtain⟨o,ho⟩:∃ o,(i * b+j) * d=o:=⟨_,rfl⟩
     rw [ho] at hW1 ⊢
     have HOO:=hid ho
     clear ho
     go_wp2_with fail
     go_loopw [10,52] (fun v u wr=>∃ k:Nat,k≤d∧u=Jj Jq k∧Hid (OfAt w H W C (some ⟨bb,ob,none⟩) n c x0 x1 x2 x8 x11 x12 x13 x14 x15 x16 x17 x18 (kk:Int) S P O Z WA BA nW cW nB cB (a:Int) (b:Int) C g6 wr)∧Hid (wr.ownsRow (g6+1) 22 1 v (o+k) (I8s (rowL F (o+k))))) (fun _ u _=>d - (intOf u).toNat)
     case atStart=>exact⟨0,Nat.zero_le _,rfl,hA1,hW1⟩
     case round =>
      obtain⟨k,hk,rfl,hA2,hW2⟩:=hrel
      clear hA1 hW1 s1 s2 s3
      obtain⟨Av,cv,rfl, -, -, -⟩:=Kit.zaj hW2.out
      obtain⟨hbx,hnd, -,⟨s1,s2,s3⟩,hbw,hsz⟩:=hA2.out
      have HBW:=hid hbw
      clear hbw
      by_cases hltk:k < d
      ·refine Z86 ?_;intro hkI hk0 hom hs hhs vs hvs b1 b2 e1 e2 top htop left hleft e3 e4 hF1
       unfold meanF zcg at hF1
       rw [HOO.out,hhs,hvs,htop,hleft] at hF1
       obtain⟨x,hx⟩:∃ x,F (o+k)=x:=⟨_,rfl⟩
       rw [hx] at hF1
       have HX1:Hid (meanZ ((rowsI H W C top left kk k kk).map (fun q=>zs.getD q 0))=x):=hid (by rw [← rowsI_L];exact hF1.symm)
       have HXX:=hid hx
       have t1 : -1000≤top:=by omega
       have t2:top≤1000:=by omega
       have l1 : -1000≤left:=by omega
       have l2:left≤1000:=by omega
       obtain⟨k0,k1_,k2_,k3_⟩:=hbx
       have n3:=hnd.at 3 _ rfl
       have n4:=hnd.at 4 _ rfl
       have n5:=hnd.at 5 _ rfl
       clear hx hF1 htop hleft hnd
       go_wp2_with (first
        | (go_at_call 99;(refine (pwin_to H W C (some ⟨bb,ob,none⟩) n c (kk:Int) top left (k:Int) _).mono ?_);(rintro e w4 ⟨rfl,hcap,hb4,hs4⟩;have HCAP:=hid hcap;have HB4:=hid hb4;have HS4:=hid hs4;have hz4:w.heap.size≤w4.heap.size:=Nat.le_trans HBW.out.size hb4.size;clear hcap hb4 hs4))
        | (go_at_call 47;(refine (meanC_to wr.heap.size bb ob H W C n c kk k d top left (fun q=>zs.getD q 0) HZ.out HT.out HD.out hltk hkk7 t1 t2 l1 l2 x HX1.out w4 (by have:=HS4.out;omega) Zb3 HCAP.out (fun j hj=>((HBW.out.trans (HB4.out.mono HBW.out.size)).cell (p:=⟨bb,ob+j,none⟩) hbb).trans (HCB.out j (by rw [HN.out];exact hj)))).mono ?_);(rintro e w5 ⟨rfl,hb5⟩;have HB5:=hid ((HB4.out.trans (hb5.mono HB4.out.size)).alloc (Nat.le_trans HB4.out.size hb5.size) (.cells #[.int .i8 x] 22));have HO5:=hid (Kit.own_below hW2.out HB5.out);have hz5:g6+1≤(w5.alloc (.cells #[.int .i8 x] 22)).heap.size:=Nat.le_trans hsz HB5.out.size;clear hb5))
        | (at_builtin;refine Kit.zbb _ rfl (.tmp 55) (.tmp 77) _ rfl (g6+1) 22 i0 (.int .i8 0) 1 1 Tryz.underlying23 hi0 hi1 hi2 hi3 rfl Zbc _ (o+k) (I8s (rowL F (o+k))) rfl HO5.out _ _ 1 1 [.int .i8 x] rfl rfl (Kit.Rd.new _ _ _ (lt_succ_self _)) (Kit.za5 .i8 [x]) (by unfold maxLen;omega) Zb3 hz5 ?_;(intro v6 w6 hown6 hg7 _;obtain⟨A6,c6,rfl, -, -, -⟩:=Kit.zaj hown6;have hb6:Below (g6+1) _ w6:=(Below.refl _ _).grown hg7 hz5 (Kit.zaq HO5.out);rw [zcr F (o+k) x HXX.out] at hown6;have HW6:=hid hown6;have HA6:=hid ((hA2.out.below h63 (show g6 < wr.heap.size by omega) HB5.out).below h63 (lt_succ_self _) hb6);clear hown6 hg7 hb6)))
       exact Z31
      ·obtain rfl:k=d:=by omega
       exact Z1m
    ·obtain rfl:j=b:=by omega
     exact Z1r
  ·obtain rfl:i=a:=by omega
   exact Z41
end CPool
end
end Go.Proofs.YtchpdhhpkljdhaaGreatDoor
