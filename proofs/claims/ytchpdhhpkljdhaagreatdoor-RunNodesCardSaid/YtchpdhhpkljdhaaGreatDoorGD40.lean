/- -/
import Derived.Test.YtchpdhhpkljdhaaGreatDoorGD31
open Go.Value renaming int→Jj
open Go.IntKind renaming i64→Jq
open Go.Lib (hid)
open Nat (le_refl lt_of_succ_lt lt_succ_self)
set_option linter.unusedVariables false
set_option linter.unusedSimpArgs false
set_option maxRecDepth 100000
set_option maxHeartbeats 16000000
namespace Go.Proofs.YtchpdhhpkljdhaaGreatDoor
namespace CConv
end CConv
namespace CSat
end CSat
open Go Go.ChangeShapes Go.WideShapes Go.ChangeAt Go.RowKit Go.Deep
section
namespace CJoin
open Go Go.ChangeShapes Go.WideShapes Go.ChangeAt Go.RowKit Go.Deep Go.Shelf Round
open Plain CSat CFix CShape CTensor CConv
def PutJ (B:Nat) (X Y U:Int) (v:Value) (wd:World):Prop :=
 wd.cell? ⟨B,0,none⟩=some (Jj Jq X)∧wd.cell? ⟨B,1,none⟩=some (Jj Jq Y)∧wd.cell? ⟨B,2,none⟩=some (Jj Jq U)∧wd.cell? ⟨B,3,none⟩=some v∧wd.frozen? ⟨B,3,none⟩=false
theorem PutJ.below {B B':Nat} {X Y U:Int} {v:Value} {w w':World} (h:PutJ B X Y U v w) (hB:B < B') (hb:Below B' w w'):PutJ B X Y U v w' :=
 ⟨(hb.cell (p:=⟨B,0,none⟩) hB).trans h.1,(hb.cell (p:=⟨B,1,none⟩) hB).trans h.2.1,(hb.cell (p:=⟨B,2,none⟩) hB).trans h.2.2.1,(hb.cell (p:=⟨B,3,none⟩) hB).trans h.2.2.2.1,(hb.frozen (p:=⟨B,3,none⟩) hB).trans h.2.2.2.2⟩
theorem PutJ.new (X Y U:Int) (v:Value) (T:TypeId) (w:World):PutJ w.heap.size X Y U v (w.alloc (.cells #[Jj Jq X,Jj Jq Y,Jj Jq U,v] T)) :=
 ⟨Kit.zan _ _ _ _,Kit.zan _ _ _ _,Kit.zan _ _ _ _,Kit.zan _ _ _ _,World.frozen?_alloc_at _ _ _ _ rfl⟩
theorem PutJ.store {B:Nat} {X Y U:Int} {v:Value} {w:World} (h:PutJ B X Y U v w) (u:Value):PutJ B X Y U u (w.setCell ⟨B,3,none⟩ u):=by
 exact Z14
theorem rowL_succ8j (F:Nat→Int) (k:Nat) (x:Int) (h:F k=x):I8s (rowL F k) ++ [.int .i8 x]=I8s (rowL F (k+1)):=by
 simp [I8s,rowL,List.range_succ,h]
theorem info_i8k:(Tryz.prog.info? 22).map (fun i=>(i.zero,i.size,i.bytes))=some (some (.int .i8 0),1,1):=by kernel_rfl
theorem rjof_yes (H W C:Int) (A B:Option Addr) (N c d:Nat) (zs ys:List Int) (hz:zs.length=N) (hy:ys.length=N) (bz:I8b zs) (by_:I8b ys) (x0 x1 x2:Value) (K S P O Z Y:Int) (WA BA:Option Addr) (nW cW nB cB:Nat) (m1 s1 z1 m2 s2 z2 lo hi:Int) (hnb:NBd Z Y m1 z1 m2 z2 lo hi) (h1:tensB H W C N=true) (hh:(zau m1 s1 && zau m2 s2)=true) (hN1:1≤N) (hN2:N≤1000000)
  (F:Nat→Int) (hF:∀ k,F k=oneZ (zs.getD k 0) (ys.getD k 0) Z Y m1 s1 z1 m2 s2 lo hi) (w:World) (hra:Kit.Rd w w.heap.size A (I8s zs)) (hrb:Kit.Rd w w.heap.size B (I8s ys)) :
  Calls Tryz.prog 24 #[.agg #[Jj Jq H,Jj Jq W,Jj Jq C,.slice A N c],.agg #[Jj Jq H,Jj Jq W,Jj Jq C,.slice B N d],.agg #[x0,x1,x2,Jj Jq K,Jj Jq S,Jj Jq P,Jj Jq O,.int .i8 Z,.int .i8 Y,.slice WA nW cW,.slice BA nB cB,.int .i32 m1,Jj Jq s1,.int .i8 z1,.int .i32 m2,Jj Jq s2,.int .i8 z2,.int .i8 lo,.int .i8 hi]] w (MadeJ w H W C N (rowL F N) (Jj Jq 0)):=by
 obtain⟨hr1,hr2⟩:zau m1 s1=true∧zau m2 s2=true:=by simpa using hh
 obtain⟨i0,hi0,hi1,hi2,hi3⟩:=zbf info_i8k
 obtain⟨ba,oa,rfl,hba,hca⟩:=zax hra (j:=0) Zb3
 obtain⟨bb,ob,rfl,hbb,hcb⟩:=zax hrb (j:=0) Zb3
 rw [hz] at hca
 rw [hy] at hcb
 have HCA:=hid hca
 have HCB:=hid hcb
 have HFF:=hid hF
 have HT1:=hid h1
 have HT2:=hid h1
 have HR1:=hid hr1
 have HR2:=hid hr2
 have HNB:=hid hnb
 have HBZ:=hid bz
 have HBY:=hid by_
 clear h1 hh hF hnb hra hrb hz hy bz by_ hr1 hr2 hca hcb
 have HE:=zb9 H W C H W C
 have hg:=Tryz.eqGuardType30
 go_enter Tryz.func24,Tryz.ntmps24
 go_wp2_with (first
 | (go_at_call 22
    have hchk:=HBW
    clear hchk
    refine Z72 ?_;intro hal
    refine (zal H W C (some ⟨bb,ob,none⟩) N d true HT2.out _).mono ?_
    rintro e w2 ⟨rfl,hb⟩
    refine Z6r ?_;intro hh
    refine Z78 ?_;try clear TA yTA;intro TA yTA
    refine Z60 ?_;try clear TB yTB TN yTN FR yFR;intro TB yTB TN yTN FR yFR
    refine Z74 ?_;try clear HBW;intro HBW
    clear tap0 tap1 tap2 tap3 tbp0 tbp1 tbp2 tbp3 n11 n12 n13 n14 n15 n16
    refine Z7q ?_;intro tap0 tap1 tap2 tap3 tbp0 tbp1 tbp2 tbp3
    refine Z6e ?_;intro n11 n12 n13 n14 n15 n16
    clear hb hh hal)
 | (go_at_call 22
    have hal:Below w.heap.size w ((((w.alloc (.cells #[Jj Jq H,Jj Jq W,Jj Jq C,.slice (some ⟨ba,oa,none⟩) N c] 32)).alloc (.cells #[Jj Jq H,Jj Jq W,Jj Jq C,.slice (some ⟨bb,ob,none⟩) N d] 32)).alloc (.cells #[x0,x1,x2,Jj Jq K,Jj Jq S,Jj Jq P,Jj Jq O,.int .i8 Z,.int .i8 Y,.slice WA nW cW,.slice BA nB cB,.int .i32 m1,Jj Jq s1,.int .i8 z1,.int .i32 m2,Jj Jq s2,.int .i8 z2,.int .i8 lo,.int .i8 hi] 28)).alloc (.cells #[Jj Jq 0,Jj Jq 0,Jj Jq 0,.slice none 0 0] 32)):=((((Below.refl _ _).alloc Zb4 _).alloc Zb4 _).alloc Zb4 _).alloc Zb4 _
    refine (zal H W C (some ⟨ba,oa,none⟩) N c true HT1.out _).mono ?_
    rintro e w1 ⟨rfl,hb⟩
    refine Z6m ?_;intro hh
    have qTA:=(zav H W C (some ⟨ba,oa,none⟩) N c 32) w
    try simp only [World.size_alloc] at qTA
    refine Z69 ?_;intro TA yTA
    clear qTA
    have qTB:=(zav H W C (some ⟨bb,ob,none⟩) N d 32) (w.alloc (.cells #[Jj Jq H,Jj Jq W,Jj Jq C,.slice (some ⟨ba,oa,none⟩) N c] 32))
    try simp only [World.size_alloc] at qTB
    refine Z6b ?_;intro TB yTB
    clear qTB
    have qTN:=(zae.new x0 x1 x2 (.int .i8 Y) (.int .i32 m1) (Jj Jq s1) (.int .i8 z1) (.int .i32 m2) (Jj Jq s2) (.int .i8 z2) (.int .i8 lo) (.int .i8 hi) K S P O Z WA BA nW cW nB cB 28) ((w.alloc (.cells #[Jj Jq H,Jj Jq W,Jj Jq C,.slice (some ⟨ba,oa,none⟩) N c] 32)).alloc (.cells #[Jj Jq H,Jj Jq W,Jj Jq C,.slice (some ⟨bb,ob,none⟩) N d] 32))
    try simp only [World.size_alloc] at qTN
    refine Z6k ?_;intro TN yTN
    clear qTN
    have qFR:=(zaw 32) (((w.alloc (.cells #[Jj Jq H,Jj Jq W,Jj Jq C,.slice (some ⟨ba,oa,none⟩) N c] 32)).alloc (.cells #[Jj Jq H,Jj Jq W,Jj Jq C,.slice (some ⟨bb,ob,none⟩) N d] 32)).alloc (.cells #[x0,x1,x2,Jj Jq K,Jj Jq S,Jj Jq P,Jj Jq O,.int .i8 Z,.int .i8 Y,.slice WA nW cW,.slice BA nB cB,.int .i32 m1,Jj Jq s1,.int .i8 z1,.int .i32 m2,Jj Jq s2,.int .i8 z2,.int .i8 lo,.int .i8 hi] 28))
    try simp only [World.size_alloc] at qFR
    refine Zau ?_;intro FR yFR
    clear qFR
    refine Z71 ?_;intro HBW
    refine Z7q ?_;intro tap0 tap1 tap2 tap3 tbp0 tbp1 tbp2 tbp3
    refine Z6e ?_;intro n11 n12 n13 n14 n15 n16
    clear hb hh hal)
 | (go_at_call 64
    have hchk:=hchk3
    clear hchk
    have hal:Below w3.heap.size w3 w3:=Below.refl _ _
    refine (za8 _ _ _ _).mono ?_
    rintro e w4 ⟨rfl,hb⟩
    have hh:Below w3.heap.size w3 w4:=hal.trans (hb.mono hal.size)
    refine Z78 ?_;try clear TA yTA;intro TA yTA
    refine Z60 ?_;try clear TB yTB TN yTN FR yFR;intro TB yTB TN yTN FR yFR
    refine Z74 ?_;try clear HBW;intro HBW
    clear tap0 tap1 tap2 tap3 tbp0 tbp1 tbp2 tbp3 n11 n12 n13 n14 n15 n16
    rw [HR2.out]
    have hg4:w.heap.size+4≤w4.heap.size:=yFR
    clear hchk3
    refine Z7q ?_;intro tap0 tap1 tap2 tap3 tbp0 tbp1 tbp2 tbp3
    refine Z6e ?_;intro n11 n12 n13 n14 n15 n16
    clear hb hh hal)
 | (go_at_call 64
    have hal:Below w2.heap.size w2 w2:=Below.refl _ _
    refine (za8 _ _ _ _).mono ?_
    rintro e w3 ⟨rfl,hb⟩
    refine Z8c ?_;intro hh
    refine Z78 ?_;try clear TA yTA;intro TA yTA
    refine Z60 ?_;try clear TB yTB TN yTN FR yFR;intro TB yTB TN yTN FR yFR
    refine Z74 ?_;try clear HBW;intro HBW
    clear tap0 tap1 tap2 tap3 tbp0 tbp1 tbp2 tbp3 n11 n12 n13 n14 n15 n16
    rw [HR1.out]
    have hchk3:=True.intro
    refine Z7q ?_;intro tap0 tap1 tap2 tap3 tbp0 tbp1 tbp2 tbp3
    refine Z6e ?_;intro n11 n12 n13 n14 n15 n16
    clear hb hh hal))
 have hal:Below w4.heap.size w4 (w4.alloc (.cells #[Jj Jq H,Jj Jq W,Jj Jq C,.slice none 0 0] 32)):=(Below.refl _ _).alloc (le_refl _) _
 replace TA:=hid (TA.out.below yTA hal)
 replace TB:=hid (TB.out.below yTB hal)
 replace TN:=hid (TN.out.below yTN hal)
 replace FR:=hid (FR.out.below yFR hal)
 have hT:Hid (PutJ w4.heap.size H W C (.slice none 0 0) (w4.alloc (.cells #[Jj Jq H,Jj Jq W,Jj Jq C,.slice none 0 0] 32))):=hid (PutJ.new H W C (.slice none 0 0) 32 w4)
 have hW:Hid ((w4.alloc (.cells #[Jj Jq H,Jj Jq W,Jj Jq C,.slice none 0 0] 32)).ownsRow (w4.heap.size+1) 22 1 (.slice none 0 0) 0 (I8s (rowL F 0))):=hid ⟨by simp [I8s,rowL],.inl ⟨rfl,rfl⟩⟩
 have hzz:w4.heap.size+1≤(w4.alloc (.cells #[Jj Jq H,Jj Jq W,Jj Jq C,.slice none 0 0] 32)).heap.size:=by simp
 replace HBW:=hid (HBW.out.trans (hal.mono HBW.out.size))
 have hbaw:ba < w.heap.size:=hba
 have hbbw:bb < w.heap.size:=hbb
 clear hal tap0 tap1 tap2 tap3 tbp0 tbp1 tbp2 tbp3 n11 n12 n13 n14 n15 n16 HE hg
 generalize (w4.alloc (.cells #[Jj Jq H,Jj Jq W,Jj Jq C,.slice none 0 0] 32))=W5 at TA TB TN FR HBW hT hW hzz ⊢
 generalize hgw:w4.heap.size=g at *
 clear hgw
 go_loopw [9] (fun u wr=>∃ (k:Nat) (v:Value),k≤N∧u=Jj Jq k∧Hid (PutJ g H W C v wr)∧Hid (wr.ownsRow (g+1) 22 1 v k (I8s (rowL F k)))∧Hid (Below g W5 wr)∧g+1≤wr.heap.size) (fun u _=>N - (intOf u).toNat)
 case atStart=>exact⟨0,_,Nat.zero_le _,rfl,hT,hW,hid (Below.refl _ _),hzz⟩
 case round =>
  obtain⟨k,v,hk,rfl,hT0,hW0,hB0,hz0⟩:=hrel
  clear hT hW hzz
  obtain⟨ta0,ta1,ta2,ta3⟩:=TA.out.below (show w.heap.size < g by omega) hB0.out
  by_cases hlt:k < N
  ·have hkI:(k:Int) < (N:Int):=by omega
   refine Z93 ?_;intro hk0
   have hcx:=HCA.out k hlt
   have hcy:=HCB.out k hlt
   obtain⟨hx1,hx2⟩:=HBZ.out k
   obtain⟨hy1,hy2⟩:=HBY.out k
   have hf:=HFF.out k
   generalize zs.getD k 0=x at hcx hx1 hx2 hf
   generalize ys.getD k 0=y at hcy hy1 hy2 hf
   obtain⟨Rk,hRk⟩:∃ R,F k=R:=⟨_,rfl⟩
   rw [hRk] at hf
   have HFX:=hid hRk
   have HRR:=hid hf.symm
   have hS:∀ wv,Below g W5 wv→BoxAt w.heap.size H W C (some ⟨ba,oa,none⟩) N c wv∧BoxAt (w.heap.size+1) H W C (some ⟨bb,ob,none⟩) N d wv∧zae (w.heap.size+2) x0 x1 x2 (.int .i8 Y) (.int .i32 m1) (Jj Jq s1) (.int .i8 z1) (.int .i32 m2) (Jj Jq s2) (.int .i8 z2) (.int .i8 lo) (.int .i8 hi) K S P O Z WA BA nW cW nB cB wv∧wv.cell? ⟨ba,oa+k,none⟩=some (.int .i8 x)∧wv.cell? ⟨bb,ob+k,none⟩=some (.int .i8 y):=fun wv h =>
    ⟨TA.out.below Zb3 h,TB.out.below Zb3 h,TN.out.below Zb3 h,(h.cell (p:=⟨ba,oa+k,none⟩) (by show ba < g;omega)).trans ((HBW.out.cell (p:=⟨ba,oa+k,none⟩) hbaw).trans hcx),(h.cell (p:=⟨bb,ob+k,none⟩) (by show bb < g;omega)).trans ((HBW.out.cell (p:=⟨bb,ob+k,none⟩) hbbw).trans hcy)⟩
   clear hRk hf hcx hcy
   go_wp2_with fail
   refine wp_region_held_drew (S:=fun w'=>BoxAt w.heap.size H W C (some ⟨ba,oa,none⟩) N c w'∧BoxAt (w.heap.size+1) H W C (some ⟨bb,ob,none⟩) N d w'∧zae (w.heap.size+2) x0 x1 x2 (.int .i8 Y) (.int .i32 m1) (Jj Jq s1) (.int .i8 z1) (.int .i32 m2) (Jj Jq s2) (.int .i8 z2) (.int .i8 lo) (.int .i8 hi) K S P O Z WA BA nW cW nB cB w'∧w'.cell? ⟨ba,oa+k,none⟩=some (.int .i8 x)∧w'.cell? ⟨bb,ob+k,none⟩=some (.int .i8 y)) Zb5 (hS _ hB0.out.drew) (fun hHeld=>?_)
   refine Zai ?_;intro HT0 HW0 HB0 hz HS
   clear hT0 hW0 hB0 hz0 ta0 ta1 ta2 ta3 hS
   obtain⟨-, -, -,ov3,ovf⟩:=HT0.out
   generalize wr.drew=Wd at HT0 HW0 HB0 hz hHeld ov3 ovf ⊢
   refine Z8l ?_
   refine Z5y ?_
   refine Z8w ?_
   refine Z5y ?_
   refine Tk.y 3 (v:=?_) rfl ?_ ?_
   rotate_left
   ·intro wS hSw
    obtain⟨hq1,hq2,hq3,hq4,hq5⟩:=hSw
    obtain⟨s1,s2,s3,s4⟩:=hq1;clear hq2 hq3 hq4 hq5
    exact Z0
   refine Z5y ?_
   refine Z9b ?_
   refine Z5y ?_
   refine Za1 ?_
   refine Z5y ?_
   refine Tk.y 6 (v:=?_) rfl ?_ ?_
   rotate_left
   ·intro wS hSw
    obtain⟨hq1,hq2,hq3,hq4,hq5⟩:=hSw
    clear hq1 hq2 hq3 hq5
    exact Z0
   refine Z5y ?_
   refine Z9w ?_
   refine Z5y ?_
   refine Tk.y 8 (v:=?_) rfl ?_ ?_
   rotate_left
   ·intro wS hSw
    obtain⟨hq1,hq2,hq3,hq4,hq5⟩:=hSw
    obtain⟨s1,s2,s3,s4⟩:=hq2;clear hq1 hq3 hq4 hq5
    exact Z0
   refine Z5y ?_
   refine Zan ?_
   refine Z5y ?_
   refine Z9o ?_
   refine Z5y ?_
   refine Tk.y 11 (v:=?_) rfl ?_ ?_
   rotate_left
   ·intro wS hSw
    obtain⟨hq1,hq2,hq3,hq4,hq5⟩:=hSw
    clear hq1 hq2 hq3 hq4
    exact Z0
   refine Z5y ?_
   refine Tk.t 12 (v:=.agg #[x0,x1,x2,Jj Jq K,Jj Jq S,Jj Jq P,Jj Jq O,.int .i8 Z,.int .i8 Y,.slice WA nW cW,.slice BA nB cB,.int .i32 m1,Jj Jq s1,.int .i8 z1,.int .i32 m2,Jj Jq s2,.int .i8 z2,.int .i8 lo,.int .i8 hi]) rfl (yieldsIf_load_mid Zbu _ _ rfl (w.heap.size+2) 0 rfl [x0,x1,x2,Jj Jq K,Jj Jq S,Jj Jq P,Jj Jq O,.int .i8 Z,.int .i8 Y,.slice WA nW cW,.slice BA nB cB,.int .i32 m1,Jj Jq s1,.int .i8 z1,.int .i32 m2,Jj Jq s2,.int .i8 z2,.int .i8 lo,.int .i8 hi] _ (fun w' h=>h.2.2.1) Tryz.underlying28 rfl Zb5) Zbd ?_
   refine Z5y ?_
   refine wpAnyH_ready (rs:=[1,13]) Zb5 Zb7 ?_
   refine Tk.c rfl (fun Kq hK=>?_) ?_
   ·go_simp
    refine hK.out _ _ ?_ (fun hHeld=>?_)
    ·exact hHeld
    clear hK Kq
    refine Z5y ?_
    refine Tk.s 13 rfl (fun Kq hK=>?_)
    go_simp
    go_at_call 70
    refine (refOne_to x y hx1 hx2 hy1 hy2 x0 x1 x2 K S P O Z Y WA BA nW cW nB cB m1 s1 z1 m2 s2 z2 lo hi HNB.out Rk HRR.out _).mono ?_
    rintro e Wp1 ⟨rfl,hb1⟩
    refine Z8u ?_;try clear HT0 HW0 HB0 hz;intro HT0 HW0 HB0 hz
    clear hHeld ov3 ovf
    obtain⟨-, -, -,ov3,ovf⟩:=HT0.out
    clear hb1
    dsimp only
    refine hK.out _ _ ?_ (fun hHeld=>?_)
    ·exact HS.out _ HB0.out
    clear hK Kq
    refine Z5y ?_
    refine Tk.s 14 rfl (fun Kq hK=>?_)
    go_simp
    refine hK.out _ _ ?_ (fun hHeld=>?_)
    ·exact Z1v
    clear hK Kq
    refine Z5y ?_
    refine Z9k ?_;try clear HT0 HW0 HB0 hz;clear ov3 ovf;intro HT0 HW0 HB0 HXR hz
    obtain⟨-, -, -,ov3,ovf⟩:=HT0.out
    generalize Wp1.alloc (.cells #[.int .i8 Rk] 22)=Wq2 at HT0 HW0 HB0 HXR hz ov3 ovf hHeld ⊢
    exact Z3w
   refine Tk.c rfl (fun Kq hK=>?_) ?_
   ·go_simp
    go_at_call 70
    refine (refOne_to x y hx1 hx2 hy1 hy2 x0 x1 x2 K S P O Z Y WA BA nW cW nB cB m1 s1 z1 m2 s2 z2 lo hi HNB.out Rk HRR.out _).mono ?_
    rintro e Wp0 ⟨rfl,hb1⟩
    refine Z8u ?_;try clear HT0 HW0 HB0 hz;intro HT0 HW0 HB0 hz
    clear hHeld ov3 ovf
    obtain⟨-, -, -,ov3,ovf⟩:=HT0.out
    clear hb1
    dsimp only
    refine hK.out _ _ ?_ (fun hHeld=>?_)
    ·exact HS.out _ HB0.out
    clear hK Kq
    refine Z5y ?_
    refine wpAnyH_ready (rs:=[1,14]) Zb5 Zb7 ?_
    refine Tk.c rfl (fun Kq hK=>?_) ?_
    ·go_simp
     refine hK.out _ _ ?_ (fun hHeld=>?_)
     ·exact hHeld
     clear hK Kq
     refine Z5y ?_
     refine Tk.s 14 rfl (fun Kq hK=>?_)
     go_simp
     refine hK.out _ _ ?_ (fun hHeld=>?_)
     ·exact Z1v
     clear hK Kq
     refine Z5y ?_
     refine Z7c ?_;try clear HT0 HW0 HB0 hz;clear ov3 ovf;intro HT0 HW0 HB0 HXR hz
     obtain⟨-, -, -,ov3,ovf⟩:=HT0.out
     generalize Wp0.alloc (.cells #[.int .i8 Rk] 22)=Wq2 at HT0 HW0 HB0 HXR hz ov3 ovf hHeld ⊢
     exact Z3w
    refine Tk.c rfl (fun Kq hK=>?_) ?_
    ·go_simp
     refine hK.out _ _ ?_ (fun hHeld=>?_)
     ·exact Z1v
     clear hK Kq
     refine Z5y ?_
     refine Z7c ?_;try clear HT0 HW0 HB0 hz;clear ov3 ovf;intro HT0 HW0 HB0 HXR hz
     obtain⟨-, -, -,ov3,ovf⟩:=HT0.out
     generalize Wp0.alloc (.cells #[.int .i8 Rk] 22)=Wq1 at HT0 HW0 HB0 HXR hz ov3 ovf hHeld ⊢
     refine Tk.s 1 rfl (fun Kq hK=>?_)
     go_simp
     refine hK.out _ _ ?_ (fun hHeld=>?_)
     ·exact hHeld
     clear hK Kq
     refine Z5y ?_
     refine Tk.s 15 rfl (fun Kq hK=>?_)
     refine Kit.zar _ rfl (.tmp 48) (.tmp 61) _ rfl (g+1) 22 i0 (.int .i8 0) 1 1 Tryz.underlying23 hi0 hi1 hi2 hi3 rfl Zbc _ k (I8s (rowL F k)) rfl HW0.out _ _ 1 1 [.int .i8 Rk] rfl rfl HXR.out (Kit.za5 .i8 [Rk]) (by unfold maxLen;omega) Zb3 hz ?_
     intro v5 w5 hown5 hg5 _
     obtain⟨A5,c5,rfl, -, -, -⟩:=Kit.zaj hown5
     have hb5:Below (g+1) Wq1 w5:=(Below.refl _ _).grown hg5 hz (Kit.zaq HW0.out)
     exact Zm
    exact AllReadyH.nil
   exact AllReadyH.nil
  ·obtain rfl:k=N:=by omega
   obtain⟨Av,cv,rfl, -, -, -⟩:=Kit.zaj hW0.out
   obtain⟨o0,o1,o2,o3, -⟩:=hT0.out
   obtain⟨⟨z0,z1',z2',z3⟩,z4,z5,z6,z7⟩:=FR.out.below (show w.heap.size+3 < g by omega) hB0.out
   have HBW9:=hid (HBW.out.trans (hB0.out.mono Zb3))
   clear hT0
   go_wp2_with fail
   refine bodyPost_ret (Kit.zaa rfl _ _ (w.heap.size+3) 0 [Jj Jq H,Jj Jq W,Jj Jq C,.slice Av k cv] _ rfl (zao Zb6 Zb6 Zb6 Zb6) Tryz.underlying32 rfl Zb5) rfl ?_
   refine⟨_,rfl,Kit.zah (za0 hW0.out ?_) ?_,?_⟩
   any_goals (first | omega | (simp;done) | (simp;omega))
   exact (((HBW9.out.setCell (p:=⟨w.heap.size+3,0,none⟩) Zb7 _).setCell (p:=⟨w.heap.size+3,1,none⟩) Zb7 _).setCell (p:=⟨w.heap.size+3,2,none⟩) Zb7 _).setCell (p:=⟨w.heap.size+3,3,none⟩) Zb7 _
end CJoin
end
section
namespace CAct
open Plain CSat CFix CShape CTensor CConv
theorem arof_bad (H W C:Int) (A:Option Addr) (n c:Nat) (x0 x1 x2:Value) (K S P O Z Y:Int) (WA BA:Option Addr) (nW cW nB cB:Nat) (m1 s1 z1 m2 s2 z2 lo hi:Int) (h1:tensB H W C n=false) (w:World) :
  Calls Tryz.prog 25 #[.agg #[Jj Jq H,Jj Jq W,Jj Jq C,.slice A n c],.agg #[x0,x1,x2,Jj Jq K,Jj Jq S,Jj Jq P,Jj Jq O,.int .i8 Z,.int .i8 Y,.slice WA nW cW,.slice BA nB cB,.int .i32 m1,Jj Jq s1,.int .i8 z1,.int .i32 m2,Jj Jq s2,.int .i8 z2,.int .i8 lo,.int .i8 hi]] w (MadeT w 0 0 0 0 [] (Jj Jq 5)):=by
 have HT1:=hid h1
 clear h1
 go_enter Tryz.func25,Tryz.ntmps25
 go_wp2_with (first
 | (go_at_call 22
    refine Z6n ?_;intro hal
    refine (zal H W C A n c false HT1.out _).mono ?_
    rintro e w1 ⟨rfl,hb⟩
    refine Z6d ?_;intro hh TA yTA qTN
    refine Z61 ?_;intro TN yTN
    clear qTN
    refine Z75 ?_;intro qFR
    refine Z6c ?_;intro FR yFR
    clear qFR
    refine Z71 ?_;intro HBW
    obtain⟨⟨z0,z1,z2,z3⟩,z4,z5,z6,z7⟩:=FR.out
    obtain⟨tap0,tap1,tap2,tap3⟩:=TA.out
    clear hb hh hal))
 refine bodyPost_ret (Kit.zaa rfl _ _ (w.heap.size+2) 0 [Jj Jq 0,Jj Jq 0,Jj Jq 0,.slice none 0 0] _ rfl (zao Zb6 Zb6 Zb6 Zb6) Tryz.underlying32 rfl Zb5) rfl ?_
 exact Z17
theorem arof_quant (H W C:Int) (A:Option Addr) (n c:Nat) (x0 x1 x2:Value) (K S P O Z Y:Int) (WA BA:Option Addr) (nW cW nB cB:Nat) (m1 s1 z1 m2 s2 z2 lo hi:Int) (h1:tensB H W C n=true) (hq:zau m1 s1=false) (w:World) :
  Calls Tryz.prog 25 #[.agg #[Jj Jq H,Jj Jq W,Jj Jq C,.slice A n c],.agg #[x0,x1,x2,Jj Jq K,Jj Jq S,Jj Jq P,Jj Jq O,.int .i8 Z,.int .i8 Y,.slice WA nW cW,.slice BA nB cB,.int .i32 m1,Jj Jq s1,.int .i8 z1,.int .i32 m2,Jj Jq s2,.int .i8 z2,.int .i8 lo,.int .i8 hi]] w (MadeT w 0 0 0 0 [] (Jj Jq 7)):=by
 have HT1:=hid h1
 have HQ:=hid hq
 clear h1 hq
 go_enter Tryz.func25,Tryz.ntmps25
 go_wp2_with (first
 | (go_at_call 22
    refine Z6n ?_;intro hal
    refine (zal H W C A n c true HT1.out _).mono ?_
    rintro e w1 ⟨rfl,hb⟩
    refine Z6d ?_;intro hh TA yTA qTN
    refine Z61 ?_;intro TN yTN
    clear qTN
    refine Z75 ?_;intro qFR
    refine Z6c ?_;intro FR yFR
    clear qFR
    refine Z71 ?_;intro HBW
    obtain⟨tap0,tap1,tap2,tap3⟩:=TA.out
    refine Z6q ?_;intro n11 n12 n13
    clear hb hh hal)
 | (go_at_call 64
    refine Z72 ?_;intro hal
    refine (za8 _ _ _ _).mono ?_
    rintro e w2 ⟨rfl,hb⟩
    refine Z6r ?_;intro hh
    refine Z78 ?_;try clear TA yTA;intro TA yTA
    refine Z64 ?_;try clear TN yTN FR yFR;intro TN yTN FR yFR
    refine Z74 ?_;try clear HBW;intro HBW
    clear tap0 tap1 tap2 tap3 n11 n12 n13
    rw [HQ.out]
    obtain⟨⟨z0,z1,z2,z3⟩,z4,z5,z6,z7⟩:=FR.out
    obtain⟨tap0,tap1,tap2,tap3⟩:=TA.out
    refine Z6q ?_;intro n11 n12 n13
    clear hb hh hal))
 refine bodyPost_ret (Kit.zaa rfl _ _ (w.heap.size+2) 0 [Jj Jq 0,Jj Jq 0,Jj Jq 0,.slice none 0 0] _ rfl (zao Zb6 Zb6 Zb6 Zb6) Tryz.underlying32 rfl Zb5) rfl ?_
 exact Z17
def PutJ (B:Nat) (X Y U:Int) (v:Value) (wd:World):Prop :=
 wd.cell? ⟨B,0,none⟩=some (Jj Jq X)∧wd.cell? ⟨B,1,none⟩=some (Jj Jq Y)∧wd.cell? ⟨B,2,none⟩=some (Jj Jq U)∧wd.cell? ⟨B,3,none⟩=some v∧wd.frozen? ⟨B,3,none⟩=false
theorem PutJ.below {B B':Nat} {X Y U:Int} {v:Value} {w w':World} (h:PutJ B X Y U v w) (hB:B < B') (hb:Below B' w w'):PutJ B X Y U v w' :=
 ⟨(hb.cell (p:=⟨B,0,none⟩) hB).trans h.1,(hb.cell (p:=⟨B,1,none⟩) hB).trans h.2.1,(hb.cell (p:=⟨B,2,none⟩) hB).trans h.2.2.1,(hb.cell (p:=⟨B,3,none⟩) hB).trans h.2.2.2.1,(hb.frozen (p:=⟨B,3,none⟩) hB).trans h.2.2.2.2⟩
theorem PutJ.new (X Y U:Int) (v:Value) (T:TypeId) (w:World):PutJ w.heap.size X Y U v (w.alloc (.cells #[Jj Jq X,Jj Jq Y,Jj Jq U,v] T)) :=
 ⟨Kit.zan _ _ _ _,Kit.zan _ _ _ _,Kit.zan _ _ _ _,Kit.zan _ _ _ _,World.frozen?_alloc_at _ _ _ _ rfl⟩
theorem PutJ.store {B:Nat} {X Y U:Int} {v:Value} {w:World} (h:PutJ B X Y U v w) (u:Value):PutJ B X Y U u (w.setCell ⟨B,3,none⟩ u):=by
 exact Z14
theorem rowL_succ8a (F:Nat→Int) (k:Nat) (x:Int) (h:F k=x):I8s (rowL F k) ++ [.int .i8 x]=I8s (rowL F (k+1)):=by
 simp [I8s,rowL,List.range_succ,h]
theorem arof_yes (H W C:Int) (A:Option Addr) (N c:Nat) (zs:List Int) (hz:zs.length=N) (bz:I8b zs) (x0 x1 x2:Value) (K S P O Z Y:Int) (WA BA:Option Addr) (nW cW nB cB:Nat) (m1 s1 z1 m2 s2 z2 lo hi:Int) (hnb:NBd Z Y m1 z1 m2 z2 lo hi) (h1:tensB H W C N=true) (hq:zau m1 s1=true) (hN1:1≤N) (hN2:N≤1000000)
  (F:Nat→Int) (hF:∀ k,F k=heldZ (zs.getD k 0 - Z) m1 s1 z1 lo hi) (w:World) (hra:Kit.Rd w w.heap.size A (I8s zs)) :
  Calls Tryz.prog 25 #[.agg #[Jj Jq H,Jj Jq W,Jj Jq C,.slice A N c],.agg #[x0,x1,x2,Jj Jq K,Jj Jq S,Jj Jq P,Jj Jq O,.int .i8 Z,.int .i8 Y,.slice WA nW cW,.slice BA nB cB,.int .i32 m1,Jj Jq s1,.int .i8 z1,.int .i32 m2,Jj Jq s2,.int .i8 z2,.int .i8 lo,.int .i8 hi]] w (MadeT w H W C N (rowL F N) (Jj Jq 0)):=by
 obtain⟨i0,hi0,hi1,hi2,hi3⟩:=zbf info_i8a
 obtain⟨ba,oa,rfl,hba,hca⟩:=zax hra (j:=0) Zb3
 rw [hz] at hca
 have HCA:=hid hca
 have HFF:=hid hF
 have HT1:=hid h1
 have HQ:=hid hq
 have HNB:=hid hnb
 have HBZ:=hid bz
 clear h1 hF hnb hra hz bz hq hca
 go_enter Tryz.func25,Tryz.ntmps25
 go_wp2_with (first
 | (go_at_call 22
    have hal:Below w.heap.size w (((w.alloc (.cells #[Jj Jq H,Jj Jq W,Jj Jq C,.slice (some ⟨ba,oa,none⟩) N c] 32)).alloc (.cells #[x0,x1,x2,Jj Jq K,Jj Jq S,Jj Jq P,Jj Jq O,.int .i8 Z,.int .i8 Y,.slice WA nW cW,.slice BA nB cB,.int .i32 m1,Jj Jq s1,.int .i8 z1,.int .i32 m2,Jj Jq s2,.int .i8 z2,.int .i8 lo,.int .i8 hi] 28)).alloc (.cells #[Jj Jq 0,Jj Jq 0,Jj Jq 0,.slice none 0 0] 32)):=(((Below.refl _ _).alloc Zb4 _).alloc Zb4 _).alloc Zb4 _
    refine (zal H W C (some ⟨ba,oa,none⟩) N c true HT1.out _).mono ?_
    rintro e w1 ⟨rfl,hb⟩
    refine Z6m ?_;intro hh
    have qTA:=(zav H W C (some ⟨ba,oa,none⟩) N c 32) w
    try simp only [World.size_alloc] at qTA
    refine Z6p ?_;intro TA yTA
    clear qTA
    have qTN:=(zae.new x0 x1 x2 (.int .i8 Y) (.int .i32 m1) (Jj Jq s1) (.int .i8 z1) (.int .i32 m2) (Jj Jq s2) (.int .i8 z2) (.int .i8 lo) (.int .i8 hi) K S P O Z WA BA nW cW nB cB 28) (w.alloc (.cells #[Jj Jq H,Jj Jq W,Jj Jq C,.slice (some ⟨ba,oa,none⟩) N c] 32))
    try simp only [World.size_alloc] at qTN
    refine Z61 ?_;intro TN yTN
    clear qTN
    have qFR:=(zaw 32) ((w.alloc (.cells #[Jj Jq H,Jj Jq W,Jj Jq C,.slice (some ⟨ba,oa,none⟩) N c] 32)).alloc (.cells #[x0,x1,x2,Jj Jq K,Jj Jq S,Jj Jq P,Jj Jq O,.int .i8 Z,.int .i8 Y,.slice WA nW cW,.slice BA nB cB,.int .i32 m1,Jj Jq s1,.int .i8 z1,.int .i32 m2,Jj Jq s2,.int .i8 z2,.int .i8 lo,.int .i8 hi] 28))
    try simp only [World.size_alloc] at qFR
    refine Z6c ?_;intro FR yFR
    clear qFR
    refine Z71 ?_;intro HBW
    obtain⟨tap0,tap1,tap2,tap3⟩:=TA.out
    refine Z6q ?_;intro n11 n12 n13
    clear hb hh hal)
 | (go_at_call 64
    refine Z72 ?_;intro hal
    refine (za8 _ _ _ _).mono ?_
    rintro e w2 ⟨rfl,hb⟩
    refine Z6r ?_;intro hh
    refine Z78 ?_;try clear TA yTA;intro TA yTA
    refine Z64 ?_;try clear TN yTN FR yFR;intro TN yTN FR yFR
    refine Z74 ?_;try clear HBW;intro HBW
    clear tap0 tap1 tap2 tap3 n11 n12 n13
    rw [HQ.out]
    have hg2:w.heap.size+2 < w2.heap.size:=yFR
    obtain⟨tap0,tap1,tap2,tap3⟩:=TA.out
    refine Z6q ?_;intro n11 n12 n13
    clear hb hh hal))
 have hal:Below w2.heap.size w2 (w2.alloc (.cells #[Jj Jq H,Jj Jq W,Jj Jq C,.slice none 0 0] 32)):=(Below.refl _ _).alloc (le_refl _) _
 replace TA:=hid (TA.out.below yTA hal)
 replace TN:=hid (TN.out.below yTN hal)
 replace FR:=hid (FR.out.below yFR hal)
 have hT:Hid (PutJ w2.heap.size H W C (.slice none 0 0) (w2.alloc (.cells #[Jj Jq H,Jj Jq W,Jj Jq C,.slice none 0 0] 32))):=hid (PutJ.new H W C (.slice none 0 0) 32 w2)
 have hW:Hid ((w2.alloc (.cells #[Jj Jq H,Jj Jq W,Jj Jq C,.slice none 0 0] 32)).ownsRow (w2.heap.size+1) 22 1 (.slice none 0 0) 0 (I8s (rowL F 0))):=hid ⟨by simp [I8s,rowL],.inl ⟨rfl,rfl⟩⟩
 have hzz:w2.heap.size+1≤(w2.alloc (.cells #[Jj Jq H,Jj Jq W,Jj Jq C,.slice none 0 0] 32)).heap.size:=by simp
 replace HBW:=hid (HBW.out.trans (hal.mono HBW.out.size))
 have hbaw:ba < w.heap.size:=hba
 clear hal tap0 tap1 tap2 tap3 n11 n12 n13
 generalize (w2.alloc (.cells #[Jj Jq H,Jj Jq W,Jj Jq C,.slice none 0 0] 32))=W5 at TA TN FR HBW hT hW hzz ⊢
 generalize hgw:w2.heap.size=g at *
 clear hgw
 go_loopw [7] (fun u wr=>∃ (k:Nat) (v:Value),k≤N∧u=Jj Jq k∧Hid (PutJ g H W C v wr)∧Hid (wr.ownsRow (g+1) 22 1 v k (I8s (rowL F k)))∧Hid (Below g W5 wr)∧g+1≤wr.heap.size) (fun u _=>N - (intOf u).toNat)
 case atStart=>exact⟨0,_,Nat.zero_le _,rfl,hT,hW,hid (Below.refl _ _),hzz⟩
 case round =>
  obtain⟨k,v,hk,rfl,hT0,hW0,hB0,hz0⟩:=hrel
  clear hT hW hzz
  obtain⟨ta0,ta1,ta2,ta3⟩:=TA.out.below (show w.heap.size < g by omega) hB0.out
  by_cases hlt:k < N
  ·have hkI:(k:Int) < (N:Int):=by omega
   refine Z93 ?_;intro hk0
   have hcx:=HCA.out k hlt
   obtain⟨hx1,hx2⟩:=HBZ.out k
   have hf:=HFF.out k
   generalize zs.getD k 0=x at hcx hx1 hx2 hf
   obtain⟨Rk,hRk⟩:∃ R,F k=R:=⟨_,rfl⟩
   rw [hRk] at hf
   have HFX:=hid hRk
   have HRR:=hid hf.symm
   have hS:∀ wv,Below g W5 wv→BoxAt w.heap.size H W C (some ⟨ba,oa,none⟩) N c wv∧zae (w.heap.size+1) x0 x1 x2 (.int .i8 Y) (.int .i32 m1) (Jj Jq s1) (.int .i8 z1) (.int .i32 m2) (Jj Jq s2) (.int .i8 z2) (.int .i8 lo) (.int .i8 hi) K S P O Z WA BA nW cW nB cB wv∧wv.cell? ⟨ba,oa+k,none⟩=some (.int .i8 x):=fun wv h =>
    ⟨TA.out.below Zb3 h,TN.out.below Zb3 h,(h.cell (p:=⟨ba,oa+k,none⟩) (by show ba < g;omega)).trans ((HBW.out.cell (p:=⟨ba,oa+k,none⟩) hbaw).trans hcx)⟩
   clear hRk hf hcx
   go_wp2_with fail
   refine wp_region_held_drew (S:=fun w'=>BoxAt w.heap.size H W C (some ⟨ba,oa,none⟩) N c w'∧zae (w.heap.size+1) x0 x1 x2 (.int .i8 Y) (.int .i32 m1) (Jj Jq s1) (.int .i8 z1) (.int .i32 m2) (Jj Jq s2) (.int .i8 z2) (.int .i8 lo) (.int .i8 hi) K S P O Z WA BA nW cW nB cB w'∧w'.cell? ⟨ba,oa+k,none⟩=some (.int .i8 x)) Zb5 (hS _ hB0.out.drew) (fun hHeld=>?_)
   refine Zai ?_;intro HT0 HW0 HB0 hz HS
   clear hT0 hW0 hB0 hz0 ta0 ta1 ta2 ta3 hS
   obtain⟨-, -, -,ov3,ovf⟩:=HT0.out
   generalize wr.drew=Wd at HT0 HW0 HB0 hz hHeld ov3 ovf ⊢
   refine Z8l ?_
   refine Z5y ?_
   refine Z8w ?_
   refine Z5y ?_
   refine Tk.y 3 (v:=?_) rfl ?_ ?_
   rotate_left
   ·exact Z4x
   refine Z5y ?_
   refine Z9b ?_
   refine Z5y ?_
   refine Za1 ?_
   refine Z5y ?_
   refine Tk.y 6 (v:=?_) rfl ?_ ?_
   rotate_left
   ·exact Z4y
   refine Z5y ?_
   refine Tk.t 7 (v:=.agg #[x0,x1,x2,Jj Jq K,Jj Jq S,Jj Jq P,Jj Jq O,.int .i8 Z,.int .i8 Y,.slice WA nW cW,.slice BA nB cB,.int .i32 m1,Jj Jq s1,.int .i8 z1,.int .i32 m2,Jj Jq s2,.int .i8 z2,.int .i8 lo,.int .i8 hi]) rfl (yieldsIf_load_mid Zbu _ _ rfl (w.heap.size+1) 0 rfl [x0,x1,x2,Jj Jq K,Jj Jq S,Jj Jq P,Jj Jq O,.int .i8 Z,.int .i8 Y,.slice WA nW cW,.slice BA nB cB,.int .i32 m1,Jj Jq s1,.int .i8 z1,.int .i32 m2,Jj Jq s2,.int .i8 z2,.int .i8 lo,.int .i8 hi] _ (fun w' h=>h.2.1) Tryz.underlying28 rfl Zb5) Zbd ?_
   refine Z5y ?_
   refine wpAnyH_ready (rs:=[1,8]) Zb5 Zb7 ?_
   refine Tk.c rfl (fun Kq hK=>?_) ?_
   ·go_simp
    refine hK.out _ _ ?_ (fun hHeld=>?_)
    ·exact hHeld
    clear hK Kq
    refine Z5y ?_
    refine Tk.s 8 rfl (fun Kq hK=>?_)
    go_simp
    go_at_call 71
    refine (aref_to x hx1 hx2 x0 x1 x2 K S P O Z Y WA BA nW cW nB cB m1 s1 z1 m2 s2 z2 lo hi HNB.out Rk HRR.out _).mono ?_
    rintro e Wp1 ⟨rfl,hb1⟩
    refine Z8u ?_;try clear HT0 HW0 HB0 hz;intro HT0 HW0 HB0 hz
    clear hHeld ov3 ovf
    obtain⟨-, -, -,ov3,ovf⟩:=HT0.out
    clear hb1
    dsimp only
    refine hK.out _ _ ?_ (fun hHeld=>?_)
    ·exact HS.out _ HB0.out
    clear hK Kq
    refine Z5y ?_
    refine Tk.s 9 rfl (fun Kq hK=>?_)
    go_simp
    refine hK.out _ _ ?_ (fun hHeld=>?_)
    ·exact Z1v
    clear hK Kq
    refine Z5y ?_
    refine Z9k ?_;try clear HT0 HW0 HB0 hz;clear ov3 ovf;intro HT0 HW0 HB0 HXR hz
    obtain⟨-, -, -,ov3,ovf⟩:=HT0.out
    generalize Wp1.alloc (.cells #[.int .i8 Rk] 22)=Wq2 at HT0 HW0 HB0 HXR hz ov3 ovf hHeld ⊢
    exact Z3x
   refine Tk.c rfl (fun Kq hK=>?_) ?_
   ·go_simp
    go_at_call 71
    refine (aref_to x hx1 hx2 x0 x1 x2 K S P O Z Y WA BA nW cW nB cB m1 s1 z1 m2 s2 z2 lo hi HNB.out Rk HRR.out _).mono ?_
    rintro e Wp0 ⟨rfl,hb1⟩
    refine Z8u ?_;try clear HT0 HW0 HB0 hz;intro HT0 HW0 HB0 hz
    clear hHeld ov3 ovf
    obtain⟨-, -, -,ov3,ovf⟩:=HT0.out
    clear hb1
    dsimp only
    refine hK.out _ _ ?_ (fun hHeld=>?_)
    ·exact HS.out _ HB0.out
    clear hK Kq
    refine Z5y ?_
    refine wpAnyH_ready (rs:=[1,9]) Zb5 Zb7 ?_
    refine Tk.c rfl (fun Kq hK=>?_) ?_
    ·go_simp
     refine hK.out _ _ ?_ (fun hHeld=>?_)
     ·exact hHeld
     clear hK Kq
     refine Z5y ?_
     refine Tk.s 9 rfl (fun Kq hK=>?_)
     go_simp
     refine hK.out _ _ ?_ (fun hHeld=>?_)
     ·exact Z1v
     clear hK Kq
     refine Z5y ?_
     refine Z7c ?_;try clear HT0 HW0 HB0 hz;clear ov3 ovf;intro HT0 HW0 HB0 HXR hz
     obtain⟨-, -, -,ov3,ovf⟩:=HT0.out
     generalize Wp0.alloc (.cells #[.int .i8 Rk] 22)=Wq2 at HT0 HW0 HB0 HXR hz ov3 ovf hHeld ⊢
     exact Z3x
    refine Tk.c rfl (fun Kq hK=>?_) ?_
    ·go_simp
     refine hK.out _ _ ?_ (fun hHeld=>?_)
     ·exact Z1v
     clear hK Kq
     refine Z5y ?_
     refine Z7c ?_;try clear HT0 HW0 HB0 hz;clear ov3 ovf;intro HT0 HW0 HB0 HXR hz
     obtain⟨-, -, -,ov3,ovf⟩:=HT0.out
     generalize Wp0.alloc (.cells #[.int .i8 Rk] 22)=Wq1 at HT0 HW0 HB0 HXR hz ov3 ovf hHeld ⊢
     refine Tk.s 1 rfl (fun Kq hK=>?_)
     go_simp
     refine hK.out _ _ ?_ (fun hHeld=>?_)
     ·exact hHeld
     clear hK Kq
     refine Z5y ?_
     refine Tk.s 10 rfl (fun Kq hK=>?_)
     refine Kit.zar _ rfl (.tmp 28) (.tmp 36) _ rfl (g+1) 22 i0 (.int .i8 0) 1 1 Tryz.underlying23 hi0 hi1 hi2 hi3 rfl Zbc _ k (I8s (rowL F k)) rfl HW0.out _ _ 1 1 [.int .i8 Rk] rfl rfl HXR.out (Kit.za5 .i8 [Rk]) (by unfold maxLen;omega) Zb3 hz ?_
     intro v5 w5 hown5 hg5 _
     obtain⟨A5,c5,rfl, -, -, -⟩:=Kit.zaj hown5
     have hb5:Below (g+1) Wq1 w5:=(Below.refl _ _).grown hg5 hz (Kit.zaq HW0.out)
     exact Zn
    exact AllReadyH.nil
   exact AllReadyH.nil
  ·obtain rfl:k=N:=by omega
   obtain⟨Av,cv,rfl, -, -, -⟩:=Kit.zaj hW0.out
   obtain⟨o0,o1,o2,o3, -⟩:=hT0.out
   obtain⟨⟨z0,z1',z2',z3⟩,z4,z5,z6,z7⟩:=FR.out.below (show w.heap.size+2 < g by omega) hB0.out
   have HBW9:=hid (HBW.out.trans (hB0.out.mono Zb3))
   clear hT0
   go_wp2_with fail
   refine bodyPost_ret (Kit.zaa rfl _ _ (w.heap.size+2) 0 [Jj Jq H,Jj Jq W,Jj Jq C,.slice Av k cv] _ rfl (zao Zb6 Zb6 Zb6 Zb6) Tryz.underlying32 rfl Zb5) rfl ?_
   refine⟨_,rfl,Kit.zah (za0 hW0.out ?_) ?_,?_⟩
   any_goals (first | omega | (simp;done) | (simp;omega))
   exact (((HBW9.out.setCell (p:=⟨w.heap.size+2,0,none⟩) Zb7 _).setCell (p:=⟨w.heap.size+2,1,none⟩) Zb7 _).setCell (p:=⟨w.heap.size+2,2,none⟩) Zb7 _).setCell (p:=⟨w.heap.size+2,3,none⟩) Zb7 _
end CAct
end
end Go.Proofs.YtchpdhhpkljdhaaGreatDoor
