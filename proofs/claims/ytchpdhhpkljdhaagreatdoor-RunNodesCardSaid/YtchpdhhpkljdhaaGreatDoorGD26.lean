/- -/
import Derived.Test.YtchpdhhpkljdhaaGreatDoorGD25
open Go.Value renaming int→Jj
open Go.IntKind renaming i64→Jq
open Go.Lib (hid)
open Nat (le_refl lt_of_succ_lt lt_succ_self)
set_option linter.unusedVariables false
set_option linter.unusedSimpArgs false
set_option maxRecDepth 100000
set_option maxHeartbeats 16000000
namespace Go.Proofs.YtchpdhhpkljdhaaGreatDoor
namespace CConv
end CConv
namespace CSat
end CSat
open Go Go.ChangeShapes Go.WideShapes Go.ChangeAt Go.RowKit
section
namespace CPool
open Plain CSat CShape CTensor CConv
def PutAt (B:Nat) (X Y U:Int) (v:Value) (wd:World):Prop :=
 wd.cell? ⟨B,0,none⟩=some (Jj Jq X)∧wd.cell? ⟨B,1,none⟩=some (Jj Jq Y)∧wd.cell? ⟨B,2,none⟩=some (Jj Jq U)∧wd.cell? ⟨B,3,none⟩=some v∧wd.frozen? ⟨B,3,none⟩=false
theorem PutAt.below {B B':Nat} {X Y U:Int} {v:Value} {w w':World} (h:PutAt B X Y U v w) (hB:B < B') (hb:Below B' w w'):PutAt B X Y U v w' :=
 ⟨(hb.cell (p:=⟨B,0,none⟩) hB).trans h.1,(hb.cell (p:=⟨B,1,none⟩) hB).trans h.2.1,(hb.cell (p:=⟨B,2,none⟩) hB).trans h.2.2.1,(hb.cell (p:=⟨B,3,none⟩) hB).trans h.2.2.2.1,(hb.frozen (p:=⟨B,3,none⟩) hB).trans h.2.2.2.2⟩
theorem PutAt.new (X Y U:Int) (v:Value) (T:TypeId) (w:World):PutAt w.heap.size X Y U v (w.alloc (.cells #[Jj Jq X,Jj Jq Y,Jj Jq U,v] T)) :=
 ⟨Kit.zan _ _ _ _,Kit.zan _ _ _ _,Kit.zan _ _ _ _,Kit.zan _ _ _ _,World.frozen?_alloc_at _ _ _ _ rfl⟩
theorem PutAt.store {B:Nat} {X Y U:Int} {v:Value} {w:World} (h:PutAt B X Y U v w) (u:Value):PutAt B X Y U u (w.setCell ⟨B,3,none⟩ u):=by
 exact Z14
def meanF (zs:List Int) (H W C S P:Int) (kk:Nat) (h v o:Nat):Int:=meanZ (zcg zs H W C ((h:Int) * S - P) ((v:Int) * S - P) kk o)
theorem zcr (F:Nat→Int) (k:Nat) (x:Int) (h:F k=x):I8s (rowL F k) ++ [.int .i8 x]=I8s (rowL F (k+1)):=by
 simp [I8s,rowL,List.range_succ,h]
theorem hereL_I8 (zs:List Int) (hz:I8b zs) (H W C top left:Int) (o i j:Nat):∀ x∈hereL zs H W C top left o i j, -128≤x∧x≤127:=by
 unfold hereL
 split
 ·intro x hx
  rw [List.mem_singleton] at hx
  subst hx
  exact hz _
 ·intro x hx;cases hx
theorem colL_I8 (zs:List Int) (hz:I8b zs) (H W C top left:Int) (o i:Nat):∀ j,∀ x∈colL zs H W C top left o i j, -128≤x∧x≤127
 | 0=>fun x hx=>by cases hx
 | j+1=>fun x hx=>by
   rcases List.mem_append.mp (show x∈colL zs H W C top left o i j ++ hereL zs H W C top left o i j from hx) with h | h
   ·exact colL_I8 zs hz H W C top left o i j x h
   ·exact hereL_I8 zs hz H W C top left o i j x h
theorem rowsL_I8 (zs:List Int) (hz:I8b zs) (H W C top left:Int) (kk o:Nat):∀ i,∀ x∈rowsL zs H W C top left kk o i, -128≤x∧x≤127
 | 0=>fun x hx=>by cases hx
 | i+1=>fun x hx=>by
   rcases List.mem_append.mp (show x∈rowsL zs H W C top left kk o i ++ colL zs H W C top left o i kk from hx) with h | h
   ·exact rowsL_I8 zs hz H W C top left kk o i x h
   ·exact colL_I8 zs hz H W C top left o i kk x h
theorem windowL_I8 (zs:List Int) (hz:I8b zs) (H W C top left:Int) (kk o:Nat):I8b (zcg zs H W C top left kk o):=by
 intro q
 by_cases hq:q < (zcg zs H W C top left kk o).length
 ·rw [List.getD_eq_getElem?_getD,List.getElem?_eq_getElem hq]
  exact rowsL_I8 zs hz H W C top left kk o kk _ (List.getElem_mem hq)
 ·rw [List.getD_eq_getElem?_getD,List.getElem?_eq_none Zb3]
  exact⟨by decide,by decide⟩
theorem windowL_len (zs:List Int) (H W C top left:Int) (kk o:Nat):(zcg zs H W C top left kk o).length≤kk * kk:=rowsL_len zs H W C top left kk o kk
theorem refMean_x (A:Option Addr) (zs:List Int) (n c:Nat) (hn:zs.length=n) (hn2:n≤1000000) (hz:I8b zs) (x:Int) (hx:meanZ zs=x) (w:World) {B:Nat} (hr:Kit.Rd w B A (I8s zs)) :
  Calls Tryz.prog 69 #[.slice A n c] w fun e w'=>e=.returned (.int .i8 x)∧∃ q,w'=w.drewN q:=by
 subst hx
 exact refMean_to A zs n c hn hn2 hz w hr
theorem refPool_mean (H W C:Int) (A:Option Addr) (zs:List Int) (n c:Nat) (hn:zs.length=n) (ht:tensB H W C n=true) (hz:I8b zs) (x0 x1 x2 x8 x11 x12 x13 x14 x15 x16 x17 x18:Value) (K S P O Z:Int) (WA BA:Option Addr) (nW cW nB cB:Nat) (a b d kk:Nat) (he:za7 H W C K S P C=0) (ha:zad H K S P=(a:Int)) (hb:zad W K S P=(b:Int)) (hd:C=(d:Int)) (hk:K=(kk:Int)) (N:Nat) (hN:a * b * d=N)
  (w:World) (hr:Kit.Rd w w.heap.size A (I8s zs)) :
  Calls Tryz.prog 23 #[.agg #[Jj Jq H,Jj Jq W,Jj Jq C,.slice A n c],.agg #[x0,x1,x2,Jj Jq K,Jj Jq S,Jj Jq P,Jj Jq O,.int .i8 Z,x8,.slice WA nW cW,.slice BA nB cB,x11,x12,x13,x14,x15,x16,x17,x18],.bool false] w (MadeP w (a:Int) (b:Int) C N (rowL (gridF b d (meanF zs H W C S P kk)) N) (Jj Jq 0)):=by
 refine Z7h ?_;intro hs0 har1 har2 hsr k1 k2 st1 st2 pd1 pd2 hS q1 q2 q3 q4 q5 q6 q7 hNI hN2 hel
 obtain⟨F,hF⟩:∃ F,F=gridF b d (meanF zs H W C S P kk):=⟨_,rfl⟩
 rw [← hF]
 obtain⟨i0,hi0,hi1,hi2,hi3⟩:=zbf info_i8p
 have hkk7:kk≤7:=by omega
 have hkk2:kk * kk≤49:=Nat.le_trans (Nat.mul_le_mul hkk7 hkk7) Zb3
 subst hk
 refine Zao ?_;intro HT HE HS HEL
 have HF:=hid hF
 have HN:=hid hn
 have HZ:=hid hz
 have HD:=hid hd
 have HNN:=hid hN
 have HR:=hid hr
 clear ht he hS hel hF hn hz hd hN hr hs0 har1 har2 hsr q7 hNI ha hb
 go_enter Tryz.func23,Tryz.ntmps23
 go_wp2_with (first
  | (go_at_call 22
     refine Z81 ?_;intro hal
     refine (zal H W C A n c true HT.out _).mono ?_
     rintro e w1 ⟨rfl,hb⟩
     refine Z5z ?_;intro hh TB yTB
     refine Zaf ?_;intro qTN
     refine Z61 ?_;intro TN yTN
     clear qTN
     refine Z9j ?_;intro qFR
     refine Z6c ?_;intro FR yFR
     clear qFR
     refine Z71 ?_;intro HBW
     have n3:=TN.out.at 3 _ rfl;have n4:=TN.out.at 4 _ rfl;have n5:=TN.out.at 5 _ rfl
     obtain⟨tbp0,tbp1,tbp2,tbp3⟩:=TB.out
     clear hb hh hal)
  | (go_at_call 66
     refine Z72 ?_;intro hal
     refine (zbl H W C (kk:Int) S P C 0 _ HE.out HS.out _).mono ?_
     rintro e w2 ⟨rfl,hb⟩
     refine Z6r ?_;intro hh
     refine Z60 ?_;try clear TB yTB TN yTN FR yFR;intro TB yTB TN yTN FR yFR
     refine Z74 ?_;try clear HBW;intro HBW
     clear tbp0 tbp1 tbp2 tbp3
     clear n3 n4 n5
     refine Z9x ?_;intro hg2 tbp0 tbp1 tbp2 tbp3
     clear hb hh hal))
 refine Z70 ?_;clear TB TN FR yTB yTN yFR tbp0 tbp1 tbp2 tbp3 HBW hg2;intro h63 HOT hOA hW hzz
 generalize ((w2.alloc (.cells #[Jj Jq (a:Int),Jj Jq (b:Int),Jj Jq C] 30)).alloc (.cells #[Jj Jq (a:Int),Jj Jq (b:Int),Jj Jq C,.slice none 0 0] 32))=Wm at hOA hW HOT hzz ⊢
 generalize w2.heap.size=g6 at hOA hW HOT h63 hzz ⊢
 go_loopw [11] (fun u wr=>∃ (k:Nat) (v:Value),k≤N∧u=Jj Jq k∧Hid (OfAt w H W C A n c x0 x1 x2 x8 x11 x12 x13 x14 x15 x16 x17 x18 (kk:Int) S P O Z WA BA nW cW nB cB (a:Int) (b:Int) C g6 wr)∧Hid (PutAt (g6+1) (a:Int) (b:Int) C v wr)∧Hid (wr.ownsRow (g6+2) 22 1 v k (I8s (rowL F k)))∧g6+2≤wr.heap.size) (fun u _=>N - (intOf u).toNat)
 case atStart=>exact⟨0,_,Nat.zero_le _,rfl,hOA,HOT,hW,hzz⟩
 case round =>
  obtain⟨k,v0,hk,rfl,hA0,hT0,hW0,hz0⟩:=hrel
  clear hOA hW HOT hzz
  obtain⟨-, -, -,⟨s1,s2,s3⟩, -, -⟩:=hA0.out
  by_cases hlt:k < N
  ·have hkI:(k:Int) < (N:Int):=by omega
   refine Z93 ?_;intro hk0
   obtain⟨r,hr⟩:∃ r:Nat,k / d=r:=⟨_,rfl⟩
   obtain⟨o,ho⟩:∃ o:Nat,k % d=o:=⟨_,rfl⟩
   obtain⟨h,hh⟩:∃ h:Nat,r / b=h:=⟨_,rfl⟩
   obtain⟨v,hv⟩:∃ v:Nat,r % b=v:=⟨_,rfl⟩
   refine Z77 ?_;intro hd1 hb1 hrk hrab hha hvb hod hh16 hv16 c0 b0 b0n d1 d2 d3 d4 hrl w1 w2 w3 w4 L hL hL8 hLn
   obtain⟨x,hx⟩:∃ x,meanZ L=x:=⟨_,rfl⟩
   have hFk:F k=x:=by
    rw [HF.out, ← hx, ← hL]
    unfold gridF meanF
    rw [hr,hh,hv,ho]
   have HLL:=hid hL
   have HL8:=hid hL8
   have HXX:=hid hx
   have HFK:=hid hFk
   clear hr ho hh hv hL hL8 hx hFk hrk hrab
   go_wp2_with (go_at_call 65;(refine (zas (a:Int) (b:Int) C _ HEL.out _).mono ?_);rintro e Wa ⟨rfl,hbe⟩;have hA1:=hid (hA0.out.below h63 (B':=wr.heap.size) Zb3 hbe);have hT1:=hid (hT0.out.below (B':=wr.heap.size) Zb3 hbe);have hW1:=hid (Kit.own_below hW0.out hbe);have hz1:=Nat.le_trans hz0 hbe.size;clear hA0 hT0 hW0 hz0 s1 s2 s3 hbe)
   obtain⟨hbx,hnd, -,hsh,hbw, -⟩:=hA1.out
   refine wp_region_held_drew (S:=fun w'=>BoxAt w.heap.size H W C A n c w'∧zae (w.heap.size+1) x0 x1 x2 x8 x11 x12 x13 x14 x15 x16 x17 x18 (kk:Int) S P O Z WA BA nW cW nB cB w'∧zbg g6 (a:Int) (b:Int) C w') Zb5 ⟨hbx,hnd,hsh⟩ (fun hHeld=>?_)
   have HBW:=hid hbw.drew
   clear hbx hnd hsh hbw
   refine Z8r ?_;intro hA2 hT2 hW2 hz2
   clear hA1 hT1 hW1 hz1
   generalize Wa.drew=Wb at HBW hA2 hT2 hW2 hz2 hHeld ⊢
   refine Tk.y 0 (v:=?_) rfl ?_ ?_
   rotate_left
   ·exact Z4x
   refine Z5y ?_
   refine Tk.t 1 (v:=.agg #[x0,x1,x2,Jj Jq (kk:Int),Jj Jq S,Jj Jq P,Jj Jq O,.int .i8 Z,x8,.slice WA nW cW,.slice BA nB cB,x11,x12,x13,x14,x15,x16,x17,x18]) rfl (yieldsIf_load_mid Zbu _ _ rfl (w.heap.size+1) 0 rfl [x0,x1,x2,Jj Jq (kk:Int),Jj Jq S,Jj Jq P,Jj Jq O,.int .i8 Z,x8,.slice WA nW cW,.slice BA nB cB,x11,x12,x13,x14,x15,x16,x17,x18] _ (fun w' h=>h.2.1) Tryz.underlying28 rfl Zb5) Zbd ?_
   refine Z5y ?_
   refine Z8w ?_
   refine Z5y ?_
   refine Z94 ?_
   refine Z5y ?_
   refine Tk.y 4 (v:=?_) rfl ?_ ?_
   rotate_left
   ·exact Z3l
   refine Z5y ?_
   refine Za1 ?_
   refine Z5y ?_
   refine Z9e ?_
   refine Z5y ?_
   refine Tk.y 7 (v:=?_) rfl ?_ ?_
   rotate_left
   ·exact Z3l
   refine Z5y ?_
   refine Z9f ?_
   refine Z5y ?_
   refine Zan ?_
   refine Z5y ?_
   refine Z9o ?_
   refine Z5y ?_
   refine Tk.y 11 (v:=?_) rfl ?_ ?_
   rotate_left
   ·exact Z3l
   refine Z5y ?_
   refine Zag ?_
   refine Z5y ?_
   refine Za6 ?_
   refine Z5y ?_
   refine Tk.y 14 (v:=?_) rfl ?_ ?_
   rotate_left
   ·exact Z3l
   refine Z5y ?_
   refine Tk.x 15 rfl ?_
   refine Z5y ?_
   refine Zak ?_
   refine Z5y ?_
   refine Tk.x 17 rfl ?_
   refine Z5y ?_
   refine Tk.y 18 (v:=?_) rfl ?_ ?_
   rotate_left
   ·exact Z3l
   refine Z5y ?_
   refine Tk.x 19 rfl ?_
   refine Z5y ?_
   refine Tk.s 20 rfl (fun Kq hK=>?_)
   go_simp
   go_at_call 67
   refine (refWindow_to H W C A zs n c HN.out HT.out x0 x1 x2 x8 x11 x12 x13 x14 x15 x16 x17 x18 (kk:Int) S P O Z WA BA nW cW nB cB kk o d HD.out rfl hkk7 hod h v hh16 hv16 st1 st2 pd1 pd2 _ ((HR.out.below HBW.out).more HBW.out.size) L HLL.out).mono ?_
   rintro e Wc ⟨lv,rfl,hown,hb1⟩
   refine Z8b ?_;try clear HBW hA2 hT2 hW2 hz2;intro hS1 HBW hA2 hT2 hW2 hz2
   obtain⟨Al,cl,rfl, -, -,hrd⟩:=Kit.zaj hown
   have HRL:=hid hrd
   clear hown hrd hb1 hHeld
   dsimp only
   refine hK.out _ _ ?_ (fun hHeld=>?_)
   ·exact hS1
   clear hK Kq
   refine Z5y ?_
   refine Tk.x 21 rfl ?_
   refine Z5y ?_
   refine Z6y ?_
   clear hHeld d1 d2 d3 d4 w1 w2 w3 w4 c0 b0 b0n hha hvb hod
   obtain⟨Av,cv,rfl, -, -, -⟩:=Kit.zaj hW2.out
   go_wp2_with fail
   refine wp_region_held_drew (S:=fun _=>True) Zb5 trivial (fun hHeld=>?_)
   have hA3:Hid (OfAt w H W C A n c x0 x1 x2 x8 x11 x12 x13 x14 x15 x16 x17 x18 (kk:Int) S P O Z WA BA nW cW nB cB (a:Int) (b:Int) C g6 Wc.drew):=hid (hA2.out.below h63 (lt_succ_self _) (Below.refl _ _).drew)
   have hT3:Hid (PutAt (g6+1) (a:Int) (b:Int) C (.slice Av k cv) Wc.drew):=hT2
   have hW3:Hid (Wc.drew.ownsRow (g6+2) 22 1 (.slice Av k cv) k (I8s (rowL F k))):=hid (Kit.own_below hW2.out (Below.refl _ _).drew)
   have hsz:g6+2≤Wc.drew.heap.size:=hz2
   replace HRL:=hid (HRL.out.below (Below.refl _ _).drew)
   clear hA2 hW2 hT2 hz2 HBW
   obtain⟨-, -, -,ov3,ovf⟩:=hT3.out
   generalize Wc.heap.size=gL at HRL
   generalize Wc.drew=Wd at hA3 hT3 hW3 hsz HRL ov3 ovf ⊢
   refine Z8l ?_
   refine Z5y ?_
   refine Z8w ?_
   refine Z5y ?_
   refine wpAnyH_ready (rs:=[1,3]) Zb5 Zb7 ?_
   refine Tk.c rfl (fun Kq hK=>?_) ?_
   ·go_simp
    refine hK.out _ _ ?_ (fun hHeld=>?_)
    ·exact trivial
    clear hK Kq
    refine Z5y ?_
    refine Tk.s 3 rfl (fun Kq hK=>?_)
    go_simp
    go_at_call 69
    refine (refMean_x Al L L.length cl rfl Zb3 HL8.out x HXX.out _ HRL.out).mono ?_
    rintro e Wp1 ⟨rfl,q,hq⟩
    have hb1:Below Wd.heap.size Wd Wp1:=by rw [hq];exact Kit.below_drewN (Below.refl _ _) q
    clear hq HRL
    replace hA3:=hid (hA3.out.below h63 Zb3 hb1)
    replace hT3:=hid (hT3.out.below Zb3 hb1)
    replace hW3:=hid (Kit.own_below hW3.out hb1)
    replace hsz:=Nat.le_trans hsz hb1.size
    clear hHeld ov3 ovf
    obtain⟨-, -, -,ov3,ovf⟩:=hT3.out
    clear hb1
    dsimp only
    refine hK.out _ _ ?_ (fun hHeld=>?_)
    ·exact trivial
    clear hK Kq
    refine Z5y ?_
    refine Tk.s 4 rfl (fun Kq hK=>?_)
    go_simp
    refine hK.out _ _ ?_ (fun hHeld=>?_)
    ·exact trivial
    clear hK Kq
    refine Z5y ?_
    replace hA3:=hid (hA3.out.below h63 (B':=Wp1.heap.size) Zb3 ((Below.refl _ _).alloc (le_refl _) (.cells #[.int .i8 x] 22)))
    replace hT3:=hid (hT3.out.below (B':=Wp1.heap.size) Zb3 ((Below.refl _ _).alloc (le_refl _) (.cells #[.int .i8 x] 22)))
    replace hW3:=hid (hW3.out.alloc (.cells #[.int .i8 x] 22))
    have HXR:=hid (Kit.Rd.new Wp1 [.int .i8 x] 22 (lt_succ_self _))
    replace hsz:g6+2≤(Wp1.alloc (.cells #[.int .i8 x] 22)).heap.size:=by simp;omega
    clear ov3 ovf
    obtain⟨-, -, -,ov3,ovf⟩:=hT3.out
    generalize Wp1.alloc (.cells #[.int .i8 x] 22)=Wq2 at hA3 hT3 hW3 HXR hsz ov3 ovf hHeld ⊢
    exact Z3u
   refine Tk.c rfl (fun Kq hK=>?_) ?_
   ·go_simp
    go_at_call 69
    refine (refMean_x Al L L.length cl rfl Zb3 HL8.out x HXX.out _ HRL.out).mono ?_
    rintro e Wp0 ⟨rfl,q,hq⟩
    have hb1:Below Wd.heap.size Wd Wp0:=by rw [hq];exact Kit.below_drewN (Below.refl _ _) q
    clear hq HRL
    replace hA3:=hid (hA3.out.below h63 Zb3 hb1)
    replace hT3:=hid (hT3.out.below Zb3 hb1)
    replace hW3:=hid (Kit.own_below hW3.out hb1)
    replace hsz:=Nat.le_trans hsz hb1.size
    clear hHeld ov3 ovf
    obtain⟨-, -, -,ov3,ovf⟩:=hT3.out
    clear hb1
    dsimp only
    refine hK.out _ _ ?_ (fun hHeld=>?_)
    ·exact trivial
    clear hK Kq
    refine Z5y ?_
    refine wpAnyH_ready (rs:=[1,4]) Zb5 Zb7 ?_
    refine Tk.c rfl (fun Kq hK=>?_) ?_
    ·go_simp
     refine hK.out _ _ ?_ (fun hHeld=>?_)
     ·exact trivial
     clear hK Kq
     refine Z5y ?_
     refine Tk.s 4 rfl (fun Kq hK=>?_)
     go_simp
     refine hK.out _ _ ?_ (fun hHeld=>?_)
     ·exact trivial
     clear hK Kq
     refine Z5y ?_
     refine Z8x ?_;try clear hA3 hT3 hW3 hsz;intro hA3 hT3 hW3 HXR hsz
     clear ov3 ovf
     obtain⟨-, -, -,ov3,ovf⟩:=hT3.out
     generalize Wp0.alloc (.cells #[.int .i8 x] 22)=Wq2 at hA3 hT3 hW3 HXR hsz ov3 ovf hHeld ⊢
     exact Z3u
    refine Tk.c rfl (fun Kq hK=>?_) ?_
    ·go_simp
     refine hK.out _ _ ?_ (fun hHeld=>?_)
     ·exact trivial
     clear hK Kq
     refine Z5y ?_
     refine Z8x ?_;try clear hA3 hT3 hW3 hsz;intro hA3 hT3 hW3 HXR hsz
     clear ov3 ovf
     obtain⟨-, -, -,ov3,ovf⟩:=hT3.out
     generalize Wp0.alloc (.cells #[.int .i8 x] 22)=Wq1 at hA3 hT3 hW3 HXR hsz ov3 ovf hHeld ⊢
     refine Tk.s 1 rfl (fun Kq hK=>?_)
     go_simp
     refine hK.out _ _ ?_ (fun hHeld=>?_)
     ·exact trivial
     clear hK Kq
     refine Z5y ?_
     refine Tk.s 5 rfl (fun Kq hK=>?_)
     refine Kit.zar _ rfl (.tmp 80) (.tmp 83) _ rfl (g6+2) 22 i0 (.int .i8 0) 1 1 Tryz.underlying23 hi0 hi1 hi2 hi3 rfl Zbc _ k (I8s (rowL F k)) rfl hW3.out _ _ 1 1 [.int .i8 x] rfl rfl HXR.out (Kit.za5 .i8 [x]) (by unfold maxLen;omega) Zb3 Zb3 ?_
     intro v5 w5 hown5 hg5 _
     obtain⟨A5,c5,rfl, -, -, -⟩:=Kit.zaj hown5
     have hb5:Below (g6+2) Wq1 w5:=(Below.refl _ _).grown hg5 hsz (Kit.zaq hW3.out)
     exact Zl
    exact AllReadyH.nil
   exact AllReadyH.nil
  ·obtain rfl:k=N:=by omega
   exact Z10
end CPool
end
end Go.Proofs.YtchpdhhpkljdhaaGreatDoor
