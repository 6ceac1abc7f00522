/- -/
import Derived.Test.YtchpdhhpkljdhaaGreatDoorGD29
open Go.Value renaming int→Jj
open Go.IntKind renaming i64→Jq
open Go.Lib (hid)
open Nat (le_refl lt_of_succ_lt lt_succ_self)
set_option linter.unusedVariables false
set_option linter.unusedSimpArgs false
set_option maxRecDepth 100000
set_option maxHeartbeats 16000000
namespace Go.Proofs.YtchpdhhpkljdhaaGreatDoor
namespace CConv
end CConv
namespace CSat
end CSat
open Go Go.ChangeShapes Go.WideShapes Go.ChangeAt Go.RowKit
section
namespace CDepth
open Plain CSat CShape CTensor CConv
theorem drefOf_bad (H W C:Int) (A:Option Addr) (n c:Nat) (x0 x1 x2 x8 x11 x12 x13 x14 x15 x16 x17 x18:Value) (K S P O Z:Int) (WA BA:Option Addr) (nW cW nB cB:Nat) (ht:tensB H W C n=false) (w:World) :
  Calls Tryz.prog 35 #[.agg #[Jj Jq H,Jj Jq W,Jj Jq C,.slice A n c],.agg #[x0,x1,x2,Jj Jq K,Jj Jq S,Jj Jq P,Jj Jq O,.int .i8 Z,x8,.slice WA nW cW,.slice BA nB cB,x11,x12,x13,x14,x15,x16,x17,x18]] w (MadeA w 0 0 0 0 [] (Jj Jq 5)):=by
 have HT:=hid ht
 clear ht
 go_enter Tryz.func35,Tryz.ntmps35
 exact Z5k
theorem drefOf_err (H W C:Int) (A:Option Addr) (n c:Nat) (x0 x1 x2 x8 x11 x12 x13 x14 x15 x16 x17 x18:Value) (K S P O Z:Int) (WA BA:Option Addr) (nW cW nB cB:Nat) (ht:tensB H W C n=true) (er:Int) (he:zcw H W C K S P nW nB=er) (h0:er≠0) (w:World) :
  Calls Tryz.prog 35 #[.agg #[Jj Jq H,Jj Jq W,Jj Jq C,.slice A n c],.agg #[x0,x1,x2,Jj Jq K,Jj Jq S,Jj Jq P,Jj Jq O,.int .i8 Z,x8,.slice WA nW cW,.slice BA nB cB,x11,x12,x13,x14,x15,x16,x17,x18]] w (MadeA w 0 0 0 0 [] (Jj Jq er)):=by
 have hS:depthS H W C K S P nW nB=#[Jj Jq 0,Jj Jq 0,Jj Jq 0]:=by unfold depthS;rw [he,if_neg h0]
 refine Z7j ?_;intro HT HE HS h0b h0c
 clear ht he hS
 go_enter Tryz.func35,Tryz.ntmps35
 go_wp2_with (first
  | (go_at_call 22
     refine Z68 ?_;intro hal
     refine (zal H W C A n c true HT.out _).mono ?_
     rintro e w1 ⟨rfl,hb⟩
     refine Z5w ?_;intro hh TB yTB TN yTN FR yFR
     refine Z71 ?_;intro HBW
     obtain⟨tbp0,tbp1,tbp2,tbp3⟩:=TB.out
     clear hb hh hal)
  | (go_at_call 88
     refine Z72 ?_;intro hal
     refine (refDep_to H W C x0 x1 x2 x8 x11 x12 x13 x14 x15 x16 x17 x18 K S P O Z WA BA nW cW nB cB er _ HE.out HS.out _).mono ?_
     rintro e w2 ⟨rfl,hb⟩
     refine Z6r ?_;intro hh
     refine Z60 ?_;try clear TB yTB TN yTN FR yFR;intro TB yTB TN yTN FR yFR
     refine Z74 ?_;try clear HBW;intro HBW
     clear tbp0 tbp1 tbp2 tbp3
     obtain⟨⟨z0,z1,z2,z3⟩,z4,z5,z6,z7⟩:=FR.out
     obtain⟨tbp0,tbp1,tbp2,tbp3⟩:=TB.out
     clear hb hh hal)
  | (refine wpList_load_mid rfl 28 (.tmp 3) rfl (w.heap.size+1) 0 rfl [x0,x1,x2,Jj Jq K,Jj Jq S,Jj Jq P,Jj Jq O,.int .i8 Z,x8,.slice WA nW cW,.slice BA nB cB,x11,x12,x13,x14,x15,x16,x17,x18] _ TN.out Tryz.underlying28 rfl Zb5 ?_))
 exact Zf
theorem drefOf_yes (H W C:Int) (A:Option Addr) (zs:List Int) (n c:Nat) (hn:zs.length=n) (ht:tensB H W C n=true) (hz:I8b zs) (x0 x1 x2 x8 x11 x12 x13 x14 x15 x16 x17 x18:Value) (K S P O Z:Int) (WA BA:Option Addr) (nW cW nB cB:Nat) (ws:List Int) (hws:ws.length=nW) (hwc:nW≤cW) (hwb:I8b ws) (bs:List Int) (hbs:bs.length=nB) (hb32:∀ q, -2147483648≤bs.getD q 0∧bs.getD q 0≤2147483647)
  (he:zcw H W C K S P nW nB=0) (a b d kk:Nat) (ha:zad H K S P=(a:Int)) (hb:zad W K S P=(b:Int)) (hd:C=(d:Int)) (hk:K=(kk:Int)) (N:Nat) (hN:a * b * d=N) (z1 : -128≤Z) (z2:Z≤127)
  (w:World) (hr:Kit.Rd w w.heap.size A (I8s zs)) (hrw:Kit.Rd w w.heap.size WA (I8s ws)) (hrb:Kit.Rd w w.heap.size BA (I32v bs)) :
  Calls Tryz.prog 35 #[.agg #[Jj Jq H,Jj Jq W,Jj Jq C,.slice A n c],.agg #[x0,x1,x2,Jj Jq K,Jj Jq S,Jj Jq P,Jj Jq O,.int .i8 Z,x8,.slice WA nW cW,.slice BA nB cB,x11,x12,x13,x14,x15,x16,x17,x18]] w (MadeA w (a:Int) (b:Int) C N (rowL (gridF b d (sumD zs ws bs H W C S P kk Z)) N) (Jj Jq 0)):=by
 obtain⟨hsl,hnW,hn16,hnB⟩:=depthE_ok he
 obtain⟨hs0,har1,har2, -, -,hsr⟩:=za9 hsl
 obtain⟨-, -,k1,k2,st1,st2,pd1,pd2, -⟩:=za1 har1
 rw [ha,hb] at hsr
 obtain⟨q1,q2,q3,q4,q5,q6,q7⟩:=zac hsr
 refine Z87 ?_;intro hNI hN2 hel hS hnWN F hF hFF
 rw [← hF]
 have hboo:0 < nB:=by omega
 obtain⟨bb,ob,rfl,hbb,hcb⟩:=zax hrb (j:=0) Zb3
 obtain⟨i0,hi0,hi1,hi2,hi3⟩:=zbf info_i32
 have hkk1:1≤kk:=by omega
 have hkk7:kk≤7:=by omega
 refine Zao ?_;intro HT HE HS HEL
 have HFF:=hid hFF
 refine Z9n ?_;intro HN HZ HWS HWB
 have HBS:=hid hbs
 have HD:=hid hd
 have HK:=hid hk
 have HNN:=hid hN
 have HNW:=hid hnWN
 have HNB:=hid hnB
 have HR:=hid hr
 have HRW:=hid hrw
 have HRB:=hid hrb
 have HB32:=hid hb32
 have HCB:=hid hcb
 clear hb32 hcb ht he hS hel hFF hn hz hws hwb hbs hd hk hN hnWN hr hrw hrb hnW hnB hsl hs0 har1 har2 hsr q7 hNI hF ha hb
 go_enter Tryz.func35,Tryz.ntmps35
 go_wp2_with (first
  | (go_at_call 22
     refine Z6w ?_;intro hal
     refine (zal H W C A n c true HT.out _).mono ?_
     rintro e w1 ⟨rfl,hb⟩
     refine Z5z ?_;intro hh TB yTB
     refine Z7w ?_;intro qTN
     refine Z61 ?_;intro TN yTN
     clear qTN
     refine Z7f ?_;intro qFR
     refine Z6c ?_;intro FR yFR
     clear qFR
     refine Z71 ?_;intro HBW
     obtain⟨tbp0,tbp1,tbp2,tbp3⟩:=TB.out
     clear hb hh hal)
  | (go_at_call 88
     refine Z72 ?_;intro hal
     refine (refDep_to H W C x0 x1 x2 x8 x11 x12 x13 x14 x15 x16 x17 x18 K S P O Z WA (some ⟨bb,ob,none⟩) nW cW nB cB 0 _ HE.out HS.out _).mono ?_
     rintro e w2 ⟨rfl,hb⟩
     refine Z6r ?_;intro hh
     refine Z60 ?_;try clear TB yTB TN yTN FR yFR;intro TB yTB TN yTN FR yFR
     refine Z74 ?_;try clear HBW;intro HBW
     clear tbp0 tbp1 tbp2 tbp3
     refine Z9x ?_;intro hg2 tbp0 tbp1 tbp2 tbp3
     clear hb hh hal)
  | (refine wpList_load_mid rfl 28 (.tmp 3) rfl (w.heap.size+1) 0 rfl [x0,x1,x2,Jj Jq K,Jj Jq S,Jj Jq P,Jj Jq O,.int .i8 Z,x8,.slice WA nW cW,.slice (some ⟨bb,ob,none⟩) nB cB,x11,x12,x13,x14,x15,x16,x17,x18] _ TN.out Tryz.underlying28 rfl Zb5 ?_))
 have hal:Below w2.heap.size w2 ((w2.alloc (.cells #[Jj Jq (a:Int),Jj Jq (b:Int),Jj Jq C] 30)).alloc (.cells #[Jj Jq (a:Int),Jj Jq (b:Int),Jj Jq C,.slice none 0 0] 41)):=((Below.refl _ _).alloc (le_refl _) _).alloc Zb7 _
 have h63:w.heap.size+3≤w2.heap.size:=hg2
 have hts:=(za2 (a:Int) (b:Int) C 30 w2).below (B':=w2.heap.size+1) Zb3 ((Below.refl _ _).alloc Zb7 (.cells #[Jj Jq (a:Int),Jj Jq (b:Int),Jj Jq C,.slice none 0 0] 41))
 have hot:=OutAt.new (a:Int) (b:Int) C (.slice none 0 0) 41 (w2.alloc (.cells #[Jj Jq (a:Int),Jj Jq (b:Int),Jj Jq C] 30))
 rw [World.size_alloc] at hot
 have HOT:=hid hot
 have hOA:Hid (OfAt w H W C A n c x0 x1 x2 x8 x11 x12 x13 x14 x15 x16 x17 x18 K S P O Z WA (some ⟨bb,ob,none⟩) nW cW nB cB (a:Int) (b:Int) C w2.heap.size ((w2.alloc (.cells #[Jj Jq (a:Int),Jj Jq (b:Int),Jj Jq C] 30)).alloc (.cells #[Jj Jq (a:Int),Jj Jq (b:Int),Jj Jq C,.slice none 0 0] 41))):=hid ⟨TB.out.below yTB hal,TN.out.below yTN hal,FR.out.below yFR hal,hts,HBW.out.trans (hal.mono HBW.out.size),by first | (simp;done) | (simp;omega)⟩
 have hW:Hid (((w2.alloc (.cells #[Jj Jq (a:Int),Jj Jq (b:Int),Jj Jq C] 30)).alloc (.cells #[Jj Jq (a:Int),Jj Jq (b:Int),Jj Jq C,.slice none 0 0] 41)).ownsRow (w2.heap.size+2) 21 1 (.slice none 0 0) 0 (I32v (rowL F 0))):=hid ⟨by simp [I32v,rowL],.inl ⟨rfl,rfl⟩⟩
 have hzz:w2.heap.size+2≤((w2.alloc (.cells #[Jj Jq (a:Int),Jj Jq (b:Int),Jj Jq C] 30)).alloc (.cells #[Jj Jq (a:Int),Jj Jq (b:Int),Jj Jq C,.slice none 0 0] 41)).heap.size:=by simp
 clear TB TN FR yTB yTN yFR hal tbp0 tbp1 tbp2 tbp3 HBW hg2 hts hot
 generalize ((w2.alloc (.cells #[Jj Jq (a:Int),Jj Jq (b:Int),Jj Jq C] 30)).alloc (.cells #[Jj Jq (a:Int),Jj Jq (b:Int),Jj Jq C,.slice none 0 0] 41))=Wm at hOA hW HOT hzz ⊢
 generalize w2.heap.size=g6 at hOA hW HOT h63 hzz ⊢
 go_loopw [9] (fun u wr=>∃ (i:Nat) (v:Value),i≤a∧u=Jj Jq i∧Hid (OfAt w H W C A n c x0 x1 x2 x8 x11 x12 x13 x14 x15 x16 x17 x18 K S P O Z WA (some ⟨bb,ob,none⟩) nW cW nB cB (a:Int) (b:Int) C g6 wr)∧Hid (OutAt (g6+1) (a:Int) (b:Int) C v wr)∧Hid (wr.ownsRow (g6+2) 21 1 v (i * b * d) (I32v (rowL F (i * b * d))))∧g6+2≤wr.heap.size) (fun u _=>a - (intOf u).toNat)
 case atStart=>exact⟨0,_,Nat.zero_le _,rfl,hOA,HOT,by simpa using hW,hzz⟩
 case round =>
  obtain⟨i,v0,hi,rfl,hA0,hT0,hW0,hz0⟩:=hrel
  clear hOA hW HOT hzz
  obtain⟨-, -, -,⟨s1,s2,s3⟩, -, -⟩:=hA0.out
  by_cases hlt:i < a
  ·have hiI:(i:Int) < (a:Int):=by omega
   go_wp2_with fail
   go_loopw [10] (fun u wr=>∃ (j:Nat) (v:Value),j≤b∧u=Jj Jq j∧Hid (OfAt w H W C A n c x0 x1 x2 x8 x11 x12 x13 x14 x15 x16 x17 x18 K S P O Z WA (some ⟨bb,ob,none⟩) nW cW nB cB (a:Int) (b:Int) C g6 wr)∧Hid (OutAt (g6+1) (a:Int) (b:Int) C v wr)∧Hid (wr.ownsRow (g6+2) 21 1 v ((i * b+j) * d) (I32v (rowL F ((i * b+j) * d))))∧g6+2≤wr.heap.size) (fun u _=>b - (intOf u).toNat)
   case atStart=>exact⟨0,_,Nat.zero_le _,rfl,hA0,hT0,by simpa using hW0,hz0⟩
   case round =>
    obtain⟨j,v1,hj,rfl,hA1,hT1,hW1,hz1⟩:=hrel
    clear hA0 hT0 hW0 hz0 s1 s2 s3
    obtain⟨-, -, -,⟨s1,s2,s3⟩, -, -⟩:=hA1.out
    by_cases hltj:j < b
    ·have hjI:(j:Int) < (b:Int):=by omega
     obtain⟨o,ho⟩:∃ o,(i * b+j) * d=o:=⟨_,rfl⟩
     rw [ho] at hW1
     have HOO:=hid ho
     clear ho
     go_wp2_with fail
     go_loopw [11] (fun u wr=>∃ (k:Nat) (v:Value),k≤d∧u=Jj Jq k∧Hid (OfAt w H W C A n c x0 x1 x2 x8 x11 x12 x13 x14 x15 x16 x17 x18 K S P O Z WA (some ⟨bb,ob,none⟩) nW cW nB cB (a:Int) (b:Int) C g6 wr)∧Hid (OutAt (g6+1) (a:Int) (b:Int) C v wr)∧Hid (wr.ownsRow (g6+2) 21 1 v (o+k) (I32v (rowL F (o+k))))∧g6+2≤wr.heap.size) (fun u _=>d - (intOf u).toNat)
     case atStart=>exact⟨0,_,Nat.zero_le _,rfl,hA1,hT1,hW1,hz1⟩
     case round =>
      obtain⟨k,v2,hk,rfl,hA2,hT2,hW2,hz2⟩:=hrel
      clear hA1 hT1 hW1 hz1 s1 s2 s3
      obtain⟨Av,cv,rfl, -, -, -⟩:=Kit.zaj hW2.out
      obtain⟨hbx,hnd, -,⟨s1,s2,s3⟩,hbw,hsz⟩:=hA2.out
      have HBW:=hid hbw
      clear hbw
      by_cases hltk:k < d
      ·have hkI:(k:Int) < C:=by have:=HD.out;omega
       refine Z93 ?_;intro hk0
       have hom:o+k < N:=by rw [← HOO.out, ← HNN.out];exact at_lt hlt hltj hltk
       have hoon:d=nB:=by have:=HD.out;have:=HNB.out;omega
       obtain⟨R1,hR1⟩:∃ R1,bs.getD k 0+winD zs ws H W C ((i:Int) * S - P) ((j:Int) * S - P) kk k Z=R1:=⟨_,rfl⟩
       have HR1:=hid hR1
       obtain⟨x,hx⟩:∃ x,F (o+k)=x:=⟨_,rfl⟩
       have hcv:IntKind.i32.wrap R1=x:=by
        rw [← hx, ← hR1, ← HOO.out,HFF.out i j k hltj hltk]
        rfl
       have HXX:=hid hx
       have hi16:i≤16:=by omega
       have hj16:j≤16:=by omega
       clear hx hR1
       obtain⟨-, -, -,ov3,ovf⟩:=hT2.out
       go_wp2_with fail
       refine wp_region_held_drew (S:=fun w'=>BoxAt w.heap.size H W C A n c w'∧zae (w.heap.size+1) x0 x1 x2 x8 x11 x12 x13 x14 x15 x16 x17 x18 K S P O Z WA (some ⟨bb,ob,none⟩) nW cW nB cB w') Zb5 ⟨hbx,hnd⟩ (fun hHeld=>?_)
       clear hbx hnd s1 s2 s3 ov3 ovf
       replace HBW:=hid HBW.out.drew
       refine Za9 ?_;intro hA3
       have hT3:Hid (OutAt (g6+1) (a:Int) (b:Int) C (.slice Av (o+k) cv) wr.drew):=hT2
       have hW3:Hid (wr.drew.ownsRow (g6+2) 21 1 (.slice Av (o+k) cv) (o+k) (I32v (rowL F (o+k)))):=hid (Kit.own_below hW2.out (Below.refl _ _).drew)
       have hsz:g6+2≤wr.drew.heap.size:=hz2
       obtain⟨-, -, -,ov3,ovf⟩:=hT3.out
       clear hA2 hW2 hT2 hz2
       generalize wr.drew=Wa at HBW hA3 hT3 hW3 hsz ov3 ovf hHeld ⊢
       refine Z8l ?_
       refine Z5y ?_
       refine Tk.y 2 (v:=?_) rfl ?_ ?_
       rotate_left
       ·exact Z42
       refine Z5y ?_
       refine Tk.t 3 (v:=.agg #[x0,x1,x2,Jj Jq K,Jj Jq S,Jj Jq P,Jj Jq O,.int .i8 Z,x8,.slice WA nW cW,.slice (some ⟨bb,ob,none⟩) nB cB,x11,x12,x13,x14,x15,x16,x17,x18]) rfl (yieldsIf_load_mid Zbu _ _ rfl (w.heap.size+1) 0 rfl [x0,x1,x2,Jj Jq K,Jj Jq S,Jj Jq P,Jj Jq O,.int .i8 Z,x8,.slice WA nW cW,.slice (some ⟨bb,ob,none⟩) nB cB,x11,x12,x13,x14,x15,x16,x17,x18] _ (fun w' h=>h.2) Tryz.underlying28 rfl Zb5) Zbd ?_
       refine Z5y ?_
       refine Z9b ?_
       refine Z5y ?_
       refine Za1 ?_
       refine Z5y ?_
       refine Z9e ?_
       refine Z5y ?_
       refine wpAnyH_ready (rs:=[1,7]) Zb5 Zb7 ?_
       refine Tk.c rfl (fun Kq hK=>?_) ?_
       ·go_simp
        refine hK.out _ _ ?_ (fun hHeld=>?_)
        ·exact hHeld
        clear hK Kq
        refine Z5y ?_
        refine Tk.s 7 rfl (fun Kq hK=>?_)
        go_simp
        go_at_call 89
        refine (drefSum_to H W C A zs n c HN.out HT.out HZ.out x0 x1 x2 x8 x11 x12 x13 x14 x15 x16 x17 x18 K S P O Z WA (some ⟨bb,ob,none⟩) nW cW nB cB ws HWS.out HWB.out bs HBS.out HB32.out d kk k HD.out HK.out hkk1 hkk7 hltk hoon HNW.out hn16 z1 z2 i j hi16 hj16 st1 st2 pd1 pd2 _ ((HR.out.below HBW.out).more HBW.out.size) ((HRW.out.below HBW.out).more HBW.out.size) ((HRB.out.below HBW.out).more HBW.out.size) R1 HR1.out).mono ?_
        exact Z38
       refine Tk.c rfl (fun Kq hK=>?_) ?_
       ·go_simp
        go_at_call 89
        refine (drefSum_to H W C A zs n c HN.out HT.out HZ.out x0 x1 x2 x8 x11 x12 x13 x14 x15 x16 x17 x18 K S P O Z WA (some ⟨bb,ob,none⟩) nW cW nB cB ws HWS.out HWB.out bs HBS.out HB32.out d kk k HD.out HK.out hkk1 hkk7 hltk hoon HNW.out hn16 z1 z2 i j hi16 hj16 st1 st2 pd1 pd2 _ ((HR.out.below HBW.out).more HBW.out.size) ((HRW.out.below HBW.out).more HBW.out.size) ((HRB.out.below HBW.out).more HBW.out.size) R1 HR1.out).mono ?_
        exact Z34
       exact AllReadyH.nil
      ·obtain rfl:k=d:=by omega
       have hkI:¬ (k:Int) < C:=by have:=HD.out;omega
       exact Z1q
    ·obtain rfl:j=b:=by omega
     have e:(i+1) * j * d=(i * j+j) * d:=by rw [Nat.add_mul i 1,Nat.one_mul]
     have hW3:Hid (wr.ownsRow (g6+2) 21 1 v1 ((i+1) * j * d) (I32v (rowL F ((i+1) * j * d)))):=by rw [e];exact hW1
     exact Z2n
  ·obtain rfl:i=a:=by omega
   rw [HNN.out] at hW0
   clear s1 s2 s3
   obtain⟨Av0,cv0,rfl, -, -, -⟩:=Kit.zaj hW0.out
   obtain⟨-, -,⟨⟨z0,z1,z2,z3⟩,z4,z5,z6,z7⟩,⟨s1,s2,s3⟩,hbw,hsz⟩:=hA0.out
   obtain⟨o0,o1,o2,o3, -⟩:=hT0.out
   have HBW:=hid hbw
   clear hbw
   exact Z4m
end CDepth
end
end Go.Proofs.YtchpdhhpkljdhaaGreatDoor
