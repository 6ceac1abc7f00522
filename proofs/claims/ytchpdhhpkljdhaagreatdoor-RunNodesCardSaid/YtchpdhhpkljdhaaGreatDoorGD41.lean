/- -/
import Derived.Test.YtchpdhhpkljdhaaGreatDoorGD39
import Derived.Test.YtchpdhhpkljdhaaGreatDoorGD40
open Go.Value renaming int→Jj
open Go.IntKind renaming i64→Jq
open Go.Lib (hid)
open Nat (le_refl lt_of_succ_lt lt_succ_self)
set_option linter.unusedVariables false
set_option linter.unusedSimpArgs false
set_option maxRecDepth 100000
set_option maxHeartbeats 16000000
namespace Go.Proofs.YtchpdhhpkljdhaaGreatDoor
namespace CConv
end CConv
namespace CSat
end CSat
open Go Go.ChangeShapes Go.WideShapes Go.ChangeAt Go.RowKit Go.Deep
section
namespace CPool
open Go Go.ChangeShapes Go.WideShapes Go.ChangeAt Go.RowKit
open Plain CSat CShape CTensor CConv
theorem each_bad (H W C:Int) (A:Option Addr) (n c:Nat) (x0 x1 x2 x8 x11 x12 x13 x14 x15 x16 x17 x18:Value) (K S P O Z:Int) (WA BA:Option Addr) (nW cW nB cB:Nat) (fv:Value) (ht:tensB H W C n=false) (w:World) :
  Calls Tryz.prog 45 #[.agg #[Jj Jq H,Jj Jq W,Jj Jq C,.slice A n c],.agg #[x0,x1,x2,Jj Jq K,Jj Jq S,Jj Jq P,Jj Jq O,.int .i8 Z,x8,.slice WA nW cW,.slice BA nB cB,x11,x12,x13,x14,x15,x16,x17,x18],fv] w (MadeP w 0 0 0 0 [] (Jj Jq 5)):=by
 have HT:=hid ht
 clear ht
 go_enter Tryz.func45,Tryz.ntmps45
 go_wp2_with (go_at_call 13;(refine (zak H W C A n c false HT.out _).mono ?_);(rintro e w1 ⟨rfl,hb⟩;obtain⟨hcc,hff⟩:=Kit.bcell hb;have hz:w.heap.size+3≤w1.heap.size:=Zbb;have hz2:w.heap.size+2 < w1.heap.size:=Zb3;have HB:=hid hb;clear hb))
 exact Z4p
theorem each_err (H W C:Int) (A:Option Addr) (n c:Nat) (x0 x1 x2 x8 x11 x12 x13 x14 x15 x16 x17 x18:Value) (K S P O Z:Int) (WA BA:Option Addr) (nW cW nB cB:Nat) (fv:Value) (ht:tensB H W C n=true) (er:Int) (he:za7 H W C K S P C=er) (h0:er≠0) (w:World) :
  Calls Tryz.prog 45 #[.agg #[Jj Jq H,Jj Jq W,Jj Jq C,.slice A n c],.agg #[x0,x1,x2,Jj Jq K,Jj Jq S,Jj Jq P,Jj Jq O,.int .i8 Z,x8,.slice WA nW cW,.slice BA nB cB,x11,x12,x13,x14,x15,x16,x17,x18],fv] w (MadeP w 0 0 0 0 [] (Jj Jq er)):=by
 have hS:za6 H W C K S P C=#[Jj Jq 0,Jj Jq 0,Jj Jq 0]:=by unfold za6;rw [he,if_neg h0]
 refine Z7j ?_;intro HT HE HS h0b h0c
 clear ht he hS
 go_enter Tryz.func45,Tryz.ntmps45
 go_wp2_with (first
  | (go_at_call 13
     refine Z7a ?_;intro hal
     refine (zak H W C A n c true HT.out _).mono ?_
     rintro e w1 ⟨rfl,hb⟩
     refine Z5x ?_;intro hh TB yTB TN yTN
     refine Z84 ?_;intro qFR
     refine Z6c ?_;intro FR yFR
     clear qFR
     refine Z71 ?_;intro HBW
     obtain⟨tbp0,tbp1,tbp2,tbp3⟩:=TB.out
     refine Z7p ?_;intro n3 n4 n5
     clear hb hh hal)
  | (go_at_call 98
     refine Z72 ?_;intro hal
     refine (zb1 H W C K S P C er _ HE.out HS.out _).mono ?_
     rintro e w2 ⟨rfl,hb⟩
     refine Z6r ?_;intro hh
     refine Z60 ?_;try clear TB yTB TN yTN FR yFR;intro TB yTB TN yTN FR yFR
     refine Z74 ?_;try clear HBW;intro HBW
     clear tbp0 tbp1 tbp2 tbp3 n3 n4 n5
     obtain⟨⟨z0,z1,z2,z3⟩,z4,z5,z6,z7⟩:=FR.out
     obtain⟨tbp0,tbp1,tbp2,tbp3⟩:=TB.out
     refine Z7p ?_;intro n3 n4 n5
     clear hb hh hal))
 exact Z4j
end CPool
end
section
namespace CJoin
open Go Go.ChangeShapes Go.WideShapes Go.ChangeAt Go.RowKit Go.Deep Go.Shelf Round
open Plain CSat CFix CShape CTensor CConv
attribute [local go_sem] Oper.semAt_some
theorem info_i8j:(Tryz.prog.info? 22).map (fun i=>(i.zero,i.size,i.bytes))=some (some (.int .i8 0),1,1):=by kernel_rfl
theorem boxed_own {β:Type} (B:Nat) (t:TypeId) (v:Value):Own (fun (_:β) W=>Boxed W B t v):=by
 rintro s X Y row hv hg hrow
 refine hv.kept hg (fun e'=>?_)
 obtain⟨o,ho,hc⟩:=hrow B e'.symm
 rw [show X.heap[B]?=_ from hv] at ho;cases ho;cases hc
theorem boxed_below {W W':World} {B:Nat} {t:TypeId} {v:Value} (h:Boxed W B t v) (hb:Below W.heap.size W W'):Boxed W' B t v:=(hb.block B h.lt).trans h
theorem keeps_below {W W':World} (hb:Below W.heap.size W W'):KeepsOthers W W':=KeepsOthers.of_grownBy (Kit.zbh hb none) (fun j o e=>by cases e)
theorem keeps_append {W w1:World} {base:Nat} {e:TypeId} {size:Nat} {v:Value} {k:Nat} {xs:List Value} (hrow:W.ownsRow base e size v k xs) (hg:W.grownBy w1 v.ownBlock):KeepsOthers W w1 :=
 KeepsOthers.of_grownBy hg fun j o ej hj=>by
  rcases hrow.2 with ⟨rfl,_⟩ | ⟨g,cap,cur,rfl,_,hgb,_⟩
  ·simp [Value.ownBlock] at ej
  ·obtain rfl:g=j:=by simpa [Value.ownBlock] using ej
   rw [hgb] at hj;cases hj;rfl
theorem below_both {g:Nat} {a b c:World} (h:Below g a b) (k:Below g a c) (hs:b.heap.size≤c.heap.size):Below g b c :=
 ⟨k.os.trans h.os.symm,k.tape.trans h.tape.symm,k.output.trans h.output.symm,hs,fun i hi=>(k.block i hi).trans (h.block i hi).symm⟩
def RoundJ (g:Nat) (W5 W wv:World) (v vb:Value) (k:Nat) (xs:List Value):Prop :=
 Boxed wv (g+1) 23 v∧wv.ownsRow g 22 1 v k xs∧Below g W5 wv∧Boxed wv (g+3) 23 vb∧KeepsOthers W wv∧g≤wv.heap.size
theorem RoundJ.below {g:Nat} {W5 W wv wn:World} {v vb:Value} {k:Nat} {xs:List Value} (h:RoundJ g W5 W wv v vb k xs) (hb:Below wv.heap.size wv wn):RoundJ g W5 W wn v vb k xs :=
 ⟨boxed_below h.1 hb,Kit.own_below h.2.1 hb,h.2.2.1.trans (hb.mono h.2.2.2.2.2),boxed_below h.2.2.2.1 hb,h.2.2.2.2.1.trans (keeps_below hb),Nat.le_trans h.2.2.2.2.2 hb.size⟩
theorem ne_types:(23:TypeId)≠22:=by decide
theorem RoundJ.grown {g:Nat} {W5 W wv wn:World} {v v' vb:Value} {k m:Nat} {xs ys:List Value} (h:RoundJ g W5 W wv v vb k xs) (hg:wv.grownBy wn v.ownBlock) (ho:wn.ownsRow g 22 1 v' m ys) :
  Boxed wn (g+1) 23 v∧RoundJ g W5 W (wn.setCell ⟨g+1,0,none⟩ v') v' vb m ys:=by
 obtain⟨h1,h2,h3,h4,h5,h6⟩:=h
 have k1:Boxed wn (g+1) 23 v:=h1.kept hg (h1.not_row ne_types h2)
 have k4:Boxed wn (g+3) 23 vb:=h4.kept hg (h4.not_row ne_types h2)
 have k3:Below g W5 wn:=h3.grown hg h6 (Kit.zaq h2)
 refine⟨k1,k1.set v',ho.kept (grownBy_setCell' wn (g+1) v') (.inr (k1.not_row ne_types ho).symm),k3.setCell (p:=⟨g+1,0,none⟩) (by show g≤g+1;omega) v',k4.other Zb3 v',(h5.trans (keeps_append h2 hg)).trans (KeepsOthers.setCell _ _ _),?_⟩
 have:=hg.size
 simp;omega
theorem range_put {W:World} {b o:Nat} {cs:List Value} (h:W.rangeAt b o cs) {D:Nat} (o':Obj) (hD:W.heap[D]?=some (.deferred (some []))):(W.putObj D o').rangeAt b o cs:=fun j v hj =>
 cell_kept (W:=W) (h j v hj) (grownBy_putObj' _ D o') (fun r e=>by cases e;exact⟨_,hD,rfl⟩)
def joinF (zs ys:List Int) (Z Y m1 s1 z1 m2 s2 lo hi:Int) (k:Nat):Int:=oneZ (zs.getD k 0) (ys.getD k 0) Z Y m1 s1 z1 m2 s2 lo hi
theorem jof_yes (H W0 C:Int) (A B:Option Addr) (N c d:Nat) (zs ys:List Int) (hz:zs.length=N) (hy:ys.length=N) (bz:I8b zs) (by_:I8b ys) (x0 x1 x2:Value) (K S P O Z Y:Int) (WA BA:Option Addr) (nW cW nB cB:Nat) (m1 s1 z1 m2 s2 z2 lo hi:Int) (hnb:NBd Z Y m1 z1 m2 z2 lo hi) (h1:tensB H W0 C N=true) (hh:(zau m1 s1 && zau m2 s2)=true) (hN1:1≤N) (hN2:N≤1000000)
  (w:World) (hra:Kit.Rd w w.heap.size A (I8s zs)) (hrb:Kit.Rd w w.heap.size B (I8s ys)) :
  Calls Tryz.prog 16 #[.agg #[Jj Jq H,Jj Jq W0,Jj Jq C,.slice A N c],.agg #[Jj Jq H,Jj Jq W0,Jj Jq C,.slice B N d],.agg #[x0,x1,x2,Jj Jq K,Jj Jq S,Jj Jq P,Jj Jq O,.int .i8 Z,.int .i8 Y,.slice WA nW cW,.slice BA nB cB,.int .i32 m1,Jj Jq s1,.int .i8 z1,.int .i32 m2,Jj Jq s2,.int .i8 z2,.int .i8 lo,.int .i8 hi]] w (MadeJ w H W0 C N (rowL (joinF zs ys Z Y m1 s1 z1 m2 s2 lo hi) N) (Jj Jq 0)):=by
 obtain⟨F,hF⟩:∃ F,F=joinF zs ys Z Y m1 s1 z1 m2 s2 lo hi:=⟨_,rfl⟩
 rw [← hF]
 obtain⟨i0,hi0,hi1,hi2,hi3⟩:=zbf info_i8j
 refine Z8q ?_;intro hmk
 have HF:=hid hF
 have HT1:=hid h1
 have HT2:=hid h1
 have HH:=hid hh
 have HNB:=hid hnb
 have HRA:=hid hra
 have HRB:=hid hrb
 have HZ:=hid hz
 have HY:=hid hy
 have HBZ:=hid bz
 have HBY:=hid by_
 clear h1 hh hF hnb hra hrb hz hy bz by_
 have HE:=zb9 H W0 C H W0 C
 have hg:=Tryz.eqGuardType30
 refine (callsIn_wide (n:=5)).1 ?_
 refine callsIn_of_wp_marks Tryz.func16 rfl trivial ?_ rfl
 simp only [Tryz.ntmps16,List.size_toArray,List.length_cons,List.length_nil,Nat.reduceAdd,Nat.reduceSub,Array.replicate_succ,Array.replicate_zero,List.push_toArray,List.append_toArray,List.nil_append,List.cons_append]
 refine wpIn_wide.2 ?_
 go_upto_region 6 with (first
 | (go_at_call 13
    have hchk:=HBW
    clear hchk
    refine Z72 ?_;intro hal
    refine (zak H W0 C B N d true HT2.out _).mono ?_
    rintro e w2 ⟨rfl,hb⟩
    refine Z6r ?_;intro hh
    refine Z78 ?_;try clear TA yTA;intro TA yTA
    refine Z60 ?_;try clear TB yTB TN yTN FR yFR;intro TB yTB TN yTN FR yFR
    replace HRA:=hid ((HRA.out.below hh).more hh.size)
    replace HRB:=hid ((HRB.out.below hh).more hh.size)
    refine Z74 ?_;try clear HBW;intro HBW
    clear tap0 tap1 tap2 tap3 tbp0 tbp1 tbp2 tbp3
    refine Z7q ?_;intro tap0 tap1 tap2 tap3 tbp0 tbp1 tbp2 tbp3
    clear hb hh hal)
 | (go_at_call 13
    have hal:Below w.heap.size w ((((w.alloc (.cells #[Jj Jq H,Jj Jq W0,Jj Jq C,.slice A N c] 32)).alloc (.cells #[Jj Jq H,Jj Jq W0,Jj Jq C,.slice B N d] 32)).alloc (.cells #[x0,x1,x2,Jj Jq K,Jj Jq S,Jj Jq P,Jj Jq O,.int .i8 Z,.int .i8 Y,.slice WA nW cW,.slice BA nB cB,.int .i32 m1,Jj Jq s1,.int .i8 z1,.int .i32 m2,Jj Jq s2,.int .i8 z2,.int .i8 lo,.int .i8 hi] 28)).alloc (.cells #[Jj Jq 0,Jj Jq 0,Jj Jq 0,.slice none 0 0] 32)):=((((Below.refl _ _).alloc Zb4 _).alloc Zb4 _).alloc Zb4 _).alloc Zb4 _
    refine (zak H W0 C A N c true HT1.out _).mono ?_
    rintro e w1 ⟨rfl,hb⟩
    refine Z6m ?_;intro hh
    have qTA:=(zav H W0 C A N c 32) w
    try simp only [World.size_alloc] at qTA
    refine Z69 ?_;intro TA yTA
    clear qTA
    have qTB:=(zav H W0 C B N d 32) (w.alloc (.cells #[Jj Jq H,Jj Jq W0,Jj Jq C,.slice A N c] 32))
    try simp only [World.size_alloc] at qTB
    refine Z6b ?_;intro TB yTB
    clear qTB
    have qTN:=(zae.new x0 x1 x2 (.int .i8 Y) (.int .i32 m1) (Jj Jq s1) (.int .i8 z1) (.int .i32 m2) (Jj Jq s2) (.int .i8 z2) (.int .i8 lo) (.int .i8 hi) K S P O Z WA BA nW cW nB cB 28) ((w.alloc (.cells #[Jj Jq H,Jj Jq W0,Jj Jq C,.slice A N c] 32)).alloc (.cells #[Jj Jq H,Jj Jq W0,Jj Jq C,.slice B N d] 32))
    try simp only [World.size_alloc] at qTN
    refine Z6k ?_;intro TN yTN
    clear qTN
    have qFR:=(zaw 32) (((w.alloc (.cells #[Jj Jq H,Jj Jq W0,Jj Jq C,.slice A N c] 32)).alloc (.cells #[Jj Jq H,Jj Jq W0,Jj Jq C,.slice B N d] 32)).alloc (.cells #[x0,x1,x2,Jj Jq K,Jj Jq S,Jj Jq P,Jj Jq O,.int .i8 Z,.int .i8 Y,.slice WA nW cW,.slice BA nB cB,.int .i32 m1,Jj Jq s1,.int .i8 z1,.int .i32 m2,Jj Jq s2,.int .i8 z2,.int .i8 lo,.int .i8 hi] 28))
    try simp only [World.size_alloc] at qFR
    refine Zau ?_;intro FR yFR
    clear qFR
    replace HRA:=hid ((HRA.out.below hh).more hh.size)
    replace HRB:=hid ((HRB.out.below hh).more hh.size)
    refine Z71 ?_;intro HBW
    refine Z7q ?_;intro tap0 tap1 tap2 tap3 tbp0 tbp1 tbp2 tbp3
    clear hb hh hal)
 | (go_at_call 49
    have hal:Below w2.heap.size w2 w2:=Below.refl _ _
    refine (scales_to x0 x1 x2 K S P O Z Y WA BA nW cW nB cB m1 s1 z1 m2 s2 z2 lo hi _).mono ?_
    rintro e w3 ⟨rfl,hb⟩
    refine Z8c ?_;intro hh
    refine Z78 ?_;try clear TA yTA;intro TA yTA
    refine Z60 ?_;try clear TB yTB TN yTN FR yFR;intro TB yTB TN yTN FR yFR
    replace HRA:=hid ((HRA.out.below hh).more hh.size)
    replace HRB:=hid ((HRB.out.below hh).more hh.size)
    refine Z74 ?_;try clear HBW;intro HBW
    clear tap0 tap1 tap2 tap3 tbp0 tbp1 tbp2 tbp3
    rw [HH.out]
    have hg3:w.heap.size+4≤w3.heap.size:=yFR
    refine Z7q ?_;intro tap0 tap1 tap2 tap3 tbp0 tbp1 tbp2 tbp3
    clear hb hh hal)
 | (refine wpList_load_mid rfl 28 (.tmp 5) rfl (w.heap.size+2) 0 rfl [x0,x1,x2,Jj Jq K,Jj Jq S,Jj Jq P,Jj Jq O,.int .i8 Z,.int .i8 Y,.slice WA nW cW,.slice BA nB cB,.int .i32 m1,Jj Jq s1,.int .i8 z1,.int .i32 m2,Jj Jq s2,.int .i8 z2,.int .i8 lo,.int .i8 hi] _ (TN.out) Tryz.underlying28 rfl Zb5 ?_))
 have bD:Boxed ((w3.alloc (.cells (madeCells #[.int .i8 0] N) 22)).alloc (.cells #[(.slice (some ⟨w3.heap.size,0,none⟩) 0 N)] 23)) (w3.heap.size+1) 23 (.slice (some ⟨w3.heap.size,0,none⟩) 0 N):=by
  have h:=Boxed.new (w3.alloc (.cells (madeCells #[.int .i8 0] N) 22)) 23 (.slice (some ⟨w3.heap.size,0,none⟩) 0 N)
  rw [World.size_alloc] at h
  exact h
 have hrow1:((w3.alloc (.cells (madeCells #[.int .i8 0] N) 22)).alloc (.cells #[(.slice (some ⟨w3.heap.size,0,none⟩) 0 N)] 23)).ownsRow w3.heap.size 22 1 (.slice (some ⟨w3.heap.size,0,none⟩) 0 N) 0 (I8s (([]:List Nat).map F)) :=
  (World.ownsRow_made (e:=22) w3 _ N (le_refl _) (by unfold maxLen;omega) Zbn).alloc _
 have hbw3:Below w3.heap.size w3 ((w3.alloc (.cells (madeCells #[.int .i8 0] N) 22)).alloc (.cells #[(.slice (some ⟨w3.heap.size,0,none⟩) 0 N)] 23)):=((Below.refl _ _).alloc (le_refl _) _).alloc Zb7 _
 have hsz3:((w3.alloc (.cells (madeCells #[.int .i8 0] N) 22)).alloc (.cells #[(.slice (some ⟨w3.heap.size,0,none⟩) 0 N)] 23)).heap.size=w3.heap.size+2:=by simp
 have BD:=hid bD
 have HR0:=hid hrow1
 have HB3:=hid hbw3
 clear bD hrow1 hbw3 hmk HE hg
 generalize ((w3.alloc (.cells (madeCells #[.int .i8 0] N) 22)).alloc (.cells #[(.slice (some ⟨w3.heap.size,0,none⟩) 0 N)] 23))=W4 at BD HR0 HB3 hsz3 ⊢
 replace TA:=hid (TA.out.below yTA HB3.out)
 replace TB:=hid (TB.out.below yTB HB3.out)
 replace TN:=hid (TN.out.below yTN HB3.out)
 replace FR:=hid (FR.out.below yFR HB3.out)
 replace HRA:=hid (HRA.out.below HB3.out)
 replace HRB:=hid (HRB.out.below HB3.out)
 replace HBW:=hid (HBW.out.trans (HB3.out.mono HBW.out.size))
 clear HB3 tap0 tap1 tap2 tap3 tbp0 tbp1 tbp2 tbp3
 refine Z7q ?_;intro tap0 tap1 tap2 tap3 tbp0 tbp1 tbp2 tbp3
 generalize hgw:w3.heap.size=g at *
 clear hgw
 go_wp2_with (go_at_call 50;(refine (pairs_to A B N c N d _).mono ?_);rintro e w6 ⟨rfl,rfl⟩)
 have bP1:=Boxed.new W4 23 (.slice A N c)
 have bP2:=Boxed.new (W4.alloc (.cells #[.slice A N c] 23)) 23 (.slice B N d)
 rw [World.size_alloc] at bP2
 replace bP1:=bP1.alloc (.cells #[.slice B N d] 23)
 have hal:Below W4.heap.size W4 ((W4.alloc (.cells #[.slice A N c] 23)).alloc (.cells #[.slice B N d] 23)):=((Below.refl _ _).alloc (le_refl _) _).alloc Zb7 _
 have hs5:((W4.alloc (.cells #[.slice A N c] 23)).alloc (.cells #[.slice B N d] 23)).heap.size=g+4:=by simp;omega
 rw [hsz3] at bP1 bP2 hal
 have hal2:=hal.mono (show g≤g+2 by omega)
 replace BD:=hid ((BD.out.alloc (.cells #[.slice A N c] 23)).alloc (.cells #[.slice B N d] 23))
 replace HR0:=hid ((HR0.out.alloc (.cells #[.slice A N c] 23)).alloc (.cells #[.slice B N d] 23))
 generalize (W4.alloc (.cells #[.slice A N c] 23)).alloc (.cells #[.slice B N d] 23)=W5 at bP1 bP2 hal hal2 hs5 BD HR0 ⊢
 replace TA:=hid (TA.out.below (show w.heap.size < g by omega) hal2)
 have HN5:=hid (TN.out.below (show w.heap.size+2 < g by omega) hal2)
 replace FR:=hid (FR.out.below (show w.heap.size+3 < g by omega) hal2)
 replace HRA:=hid (HRA.out.below hal2)
 replace HRB:=hid (HRB.out.below hal2)
 replace HBW:=hid (HBW.out.trans (hal2.mono Zb3))
 have hN5:w.heap.size+2 < g:=by omega
 have BP2:=hid bP2
 clear tap0 tap1 tap2 tap3 tbp0 tbp1 tbp2 tbp3 TB TN hal hal2 bP2 yTA yTB yTN yFR
 refine (wpIn_wide (n:=5)).1 ?_
 refine wpIn_rangeFunc_ownG (F:=Fence.wide) (n:=5) rfl Zb3 (gf:=100) (lb:=#[.pointer (some ⟨g+2,0,none⟩),.pointer (some ⟨g+2+1,0,none⟩)]) rfl trivial (enters_of Tryz.func100 Zb5 rfl)
  (seq_pairs Fence.wide (5 - 1) trivial rfl Zb3 (g+2) (g+2+1) g A B c d N zs ys HZ.out HY.out hN1 hN2 W5 Zb3 Zb3 Zb3 bP1.cell BP2.out.cell HRA.out HRB.out) KeepJ.trans
  (fun W l o o' hl ho h1 h2=>⟨belowK_b (w:=W5) (n₀:=g) Zb3 W l o o' hl ho h1 h2,(belowK_b (w:=W5) (le_refl _) W l o o' hl ho h1 h2).cell (p:=⟨g+2+1,0,none⟩) (by show g+2+1 < _;omega)⟩)
  (Below.refl _ _) (fun _=>rfl)
  (fun pre W=>(∃ v,Boxed W (g+1) 23 v∧W.ownsRow g 22 1 v pre.length (I8s (pre.map F))∧True)∧(Below g W5 W∧Boxed W (g+3) 23 (.slice B N d)))
  (fun _ _ _=>False)
  (OwnFrom.and (Own.from (holdsRow_own g (g+1) 23 22 1 (fun pre:List Nat=>pre.length) (fun pre=>I8s (pre.map F)) (fun _ _=>True)) _) (OwnFrom.and (ownFrom_below Zb3 Zb3) (Own.from (boxed_own (g+3) 23 _) _)))
  (fun _ _ _ _ _ hs _ _=>hs)
  ⟨⟨_,BD.out,HR0.out,trivial⟩,Below.refl _ _,BP2.out⟩
  ?a1 ?assign ?body ?done ?stop
 case assign =>
  intro l x W K hK
  gi_wp2
  exact hK
 case body =>
  rintro l pre x W ⟨⟨v,hv,hrow, -⟩,hB,hP⟩ hlt
  obtain⟨R,hR⟩:∃ R,joinF zs ys Z Y m1 s1 z1 m2 s2 lo hi x=R:=⟨_,rfl⟩
  obtain⟨hx1,hx2⟩:=HBZ.out x
  obtain⟨hy1,hy2⟩:=HBY.out x
  have HFX:Hid (F x=R):=hid (by rw [HF.out,hR])
  have HRR:Hid (oneZ (zs.getD x 0) (ys.getD x 0) Z Y m1 s1 z1 m2 s2 lo hi=R):=hid hR
  have hsz:g≤W.heap.size:=by have:=hB.size;omega
  have HR:Hid (RoundJ g W5 W W v (.slice B N d) pre.length (I8s (pre.map F))):=hid ⟨hv,hrow,hB,hP,KeepsOthers.refl _,hsz⟩
  have hPW:=hid hP
  have HBK:=hid hB
  have hwide:∀ f,Fence.wide.fn f:=fun _=>trivial
  have hpl:pre.length≤1000000:=by omega
  clear hv hrow hB hP hR bP1
  gi_wp2
  refine region_held (S:=fun w'=>zae (w.heap.size+2) x0 x1 x2 (.int .i8 Y) (.int .i32 m1) (Jj Jq s1) (.int .i8 z1) (.int .i32 m2) (Jj Jq s2) (.int .i8 z2) (.int .i8 lo) (.int .i8 hi) K S P O Z WA BA nW cW nB cB w') Zb5 Zbu (HN5.out.below hN5 (HR.out.2.2.1.drew)) (fun hHeld=>?_)
  replace HR:Hid (RoundJ g W5 W W.drew v (.slice B N d) pre.length (I8s (pre.map F))):=hid (HR.out.below ((Below.refl _ _).drew))
  have hcv:=HR.out.1.cell
  generalize hWd:W.drew=Wd at HR hHeld hcv ⊢
  clear hWd
  refine Tk.x 1 rfl ?_
  refine Z5y ?_
  refine Z8w ?_
  refine Z5y ?_
  refine Tk.t 3 (v:=.agg #[x0,x1,x2,Jj Jq K,Jj Jq S,Jj Jq P,Jj Jq O,.int .i8 Z,.int .i8 Y,.slice WA nW cW,.slice BA nB cB,.int .i32 m1,Jj Jq s1,.int .i8 z1,.int .i32 m2,Jj Jq s2,.int .i8 z2,.int .i8 lo,.int .i8 hi]) rfl (yieldsIf_load_mid Zbu _ _ rfl (w.heap.size+2) 0 rfl [x0,x1,x2,Jj Jq K,Jj Jq S,Jj Jq P,Jj Jq O,.int .i8 Z,.int .i8 Y,.slice WA nW cW,.slice BA nB cB,.int .i32 m1,Jj Jq s1,.int .i8 z1,.int .i32 m2,Jj Jq s2,.int .i8 z2,.int .i8 lo,.int .i8 hi] _ (fun w' h=>h) Tryz.underlying28 rfl Zb5) Zbd ?_
  refine Z5y ?_
  refine wpAnyH_ready (rs:=[0,4]) Zb5 Zb7 ?_
  refine Tk.c rfl (fun Kq hK=>?_) ?_
  ·go_simp
   refine hK.out _ _ ?_ (fun hHeld=>?_)
   ·exact hHeld
   clear hK Kq
   refine Z5y ?_
   refine Tk.s 4 rfl (fun Kq hK=>?_)
   go_simp
   go_at_call 51
   refine (one_to (zs.getD x 0) (ys.getD x 0) hx1 hx2 hy1 hy2 x0 x1 x2 K S P O Z Y WA BA nW cW nB cB m1 s1 z1 m2 s2 z2 lo hi HNB.out R HRR.out _).mono ?_
   rintro e Wp1 ⟨rfl,hb1⟩
   replace HR:=hid (HR.out.below hb1)
   clear hcv hHeld hb1
   have hcv:=HR.out.1.cell
   dsimp only
   refine hK.out _ _ ?_ (fun hHeld=>?_)
   ·exact HN5.out.below hN5 HR.out.2.2.1
   clear hK Kq
   refine Z5y ?_
   refine Tk.s 5 rfl (fun Kq hK=>?_)
   go_simp
   refine hK.out _ _ ?_ (fun hHeld=>?_)
   ·exact hHeld.below (B':=Wp1.heap.size) (by have:=HR.out.2.2.2.2.2;omega) ((Below.refl _ _).alloc (le_refl _) _)
   clear hK Kq
   refine Z5y ?_
   replace HR:=hid (HR.out.below ((Below.refl _ _).alloc (le_refl _) (.cells #[.int .i8 R] 22)))
   have HXR:=hid (Kit.Rd.new Wp1 [.int .i8 R] 22 (lt_succ_self _))
   clear hcv
   have hcv:=HR.out.1.cell
   generalize Wp1.alloc (.cells #[.int .i8 R] 22)=Wq2 at HR HXR hcv hHeld ⊢
   exact Ze
  refine Tk.c rfl (fun Kq hK=>?_) ?_
  ·go_simp
   go_at_call 51
   refine (one_to (zs.getD x 0) (ys.getD x 0) hx1 hx2 hy1 hy2 x0 x1 x2 K S P O Z Y WA BA nW cW nB cB m1 s1 z1 m2 s2 z2 lo hi HNB.out R HRR.out _).mono ?_
   rintro e Wp0 ⟨rfl,hb1⟩
   replace HR:=hid (HR.out.below hb1)
   clear hcv hHeld hb1
   have hcv:=HR.out.1.cell
   dsimp only
   refine hK.out _ _ ?_ (fun hHeld=>?_)
   ·exact HN5.out.below hN5 HR.out.2.2.1
   clear hK Kq
   refine Z5y ?_
   refine wpAnyH_ready (rs:=[0,5]) Zb5 Zb7 ?_
   refine Tk.c rfl (fun Kq hK=>?_) ?_
   ·go_simp
    refine hK.out _ _ ?_ (fun hHeld=>?_)
    ·exact hHeld
    clear hK Kq
    refine Z5y ?_
    refine Tk.s 5 rfl (fun Kq hK=>?_)
    go_simp
    refine hK.out _ _ ?_ (fun hHeld=>?_)
    ·exact Z2p
    clear hK Kq
    refine Z5y ?_
    replace HR:=hid (HR.out.below ((Below.refl _ _).alloc (le_refl _) (.cells #[.int .i8 R] 22)))
    have HXR:=hid (Kit.Rd.new Wp0 [.int .i8 R] 22 (lt_succ_self _))
    clear hcv
    have hcv:=HR.out.1.cell
    generalize Wp0.alloc (.cells #[.int .i8 R] 22)=Wq2 at HR HXR hcv hHeld ⊢
    exact Ze
   refine Tk.c rfl (fun Kq hK=>?_) ?_
   ·go_simp
    refine hK.out _ _ ?_ (fun hHeld=>?_)
    ·exact Z2p
    clear hK Kq
    refine Z5y ?_
    replace HR:=hid (HR.out.below ((Below.refl _ _).alloc (le_refl _) (.cells #[.int .i8 R] 22)))
    have HXR:=hid (Kit.Rd.new Wp0 [.int .i8 R] 22 (lt_succ_self _))
    clear hcv
    have hcv:=HR.out.1.cell
    generalize Wp0.alloc (.cells #[.int .i8 R] 22)=Wq1 at HR HXR hcv hHeld ⊢
    refine Tk.s 0 rfl (fun Kq hK=>?_)
    go_simp
    refine hK.out _ _ ?_ (fun hHeld=>?_)
    ·exact hHeld
    clear hK Kq
    refine Z5y ?_
    exact Ze
   exact AllReadyH.nil
  exact AllReadyH.nil
 case done =>
  rintro D ls W hD rfl ⟨⟨v,hv,hrow, -⟩,hB,hP⟩ hK
  rw [List.length_range] at hrow
  obtain⟨A2,c2,rfl, -, -, -⟩:=Kit.zaj hrow
  have hcv:=hv.cell
  obtain⟨⟨r0,r1,r2,r3⟩,r4,r5,r6,r7⟩:=FR.out.below (show w.heap.size+3 < g by omega) hB
  obtain⟨ta0,ta1,ta2,ta3⟩:=TA.out.below (show w.heap.size < g by omega) hB
  have HROW:Hid (W.ownsRow g 22 1 (.slice A2 N c2) N (I8s (rowL F N))):=hid hrow
  have HBD:=hid (HBW.out.trans (hB.mono Zb3))
  have hWs:g+4≤W.heap.size:=by have:=hB.size;omega
  have HK:=hid hK
  clear hrow hv hB hP hK TA FR HN5 HRA HRB HBW BP2 BD HR0 bP1
  go_wp2_with fail
  have hk:=((((KeepsOthers.setCell W ⟨w.heap.size+3,0,none⟩ (Jj Jq H)).trans (KeepsOthers.setCell _ ⟨w.heap.size+3,1,none⟩ (Jj Jq W0))).trans (KeepsOthers.setCell _ ⟨w.heap.size+3,2,none⟩ (Jj Jq C))).trans (KeepsOthers.setCell _ ⟨w.heap.size+3,3,none⟩ (.slice A2 N c2))).same D _ HK.out rfl
  refine⟨by simp,.inl ⟨_,_,rfl,run_takeDeferred hk,?_⟩⟩
  refine⟨_,Kit.zaa rfl _ _ (w.heap.size+3) 0 [Jj Jq H,Jj Jq W0,Jj Jq C,.slice A2 N c2] _ rfl (range_put (zao Zb6 Zb6 Zb6 Zb6) _ hk) Tryz.underlying32 rfl Zb5,?_⟩
  refine⟨_,rfl,Kit.zah (ownsRow_putObj (za0 HROW.out ?_) _ hk rfl) ?_,?_⟩
  any_goals (first | omega | (simp;done) | (simp;omega))
  exact ((((HBD.out.setCell (p:=⟨w.heap.size+3,0,none⟩) Zb7 _).setCell (p:=⟨w.heap.size+3,1,none⟩) Zb7 _).setCell (p:=⟨w.heap.size+3,2,none⟩) Zb7 _).setCell (p:=⟨w.heap.size+3,3,none⟩) Zb7 _).trans (belowK_b (w:=w) (le_refl _) _ D _ _ Zb3 hk rfl rfl)
 case stop =>
  rintro D c pre W _ _ h _
  exact h.elim
end CJoin
end
section
namespace CAct
open Plain CSat CFix CShape CTensor CConv
theorem i8b_of {zs:List Int} (h:∀ n∈zs,(Lit.int .i8 n).wf=true):I8b zs:=fun q=>by
 rw [List.getD_eq_getElem?_getD]
 cases hq:zs[q]? with
 | none=>simp
 | some x =>
   have hx:=h x (List.mem_of_getElem? hq)
   have ⟨a,b⟩ : -128≤x∧x≤127:=by simpa [Lit.wf,IntKind.min,IntKind.max,IntKind.signed,IntKind.bits] using hx
   simpa using ⟨a,b⟩
theorem tens_pos {H W C:Int} {n:Nat} (h:tensB H W C n=true):1≤n:=by
 exact Z58
theorem actOf_all (H W C:Int) (A:Option Addr) (n c:Nat) (zs:List Int) (hz:zs.length=n) (bz:I8b zs) (hn6:n≤1000000) (x0 x1 x2:Value) (K S P O Z Y:Int) (WA BA:Option Addr) (nW cW nB cB:Nat) (m1 s1 z1 m2 s2 z2 lo hi:Int) (hnb:NBd Z Y m1 z1 m2 z2 lo hi) :
  ∃ (X V U:Int) (k:Nat) (xs:List Int) (er:Int),xs.length=k∧k≤1000000 ∧
   (∀ w:World,Kit.Rd w w.heap.size A (I8s zs)→Calls Tryz.prog 17 #[.agg #[Jj Jq H,Jj Jq W,Jj Jq C,.slice A n c],.agg #[x0,x1,x2,Jj Jq K,Jj Jq S,Jj Jq P,Jj Jq O,.int .i8 Z,.int .i8 Y,.slice WA nW cW,.slice BA nB cB,.int .i32 m1,Jj Jq s1,.int .i8 z1,.int .i32 m2,Jj Jq s2,.int .i8 z2,.int .i8 lo,.int .i8 hi]] w (MadeT w X V U k xs (Jj Jq er))) ∧
   (∀ w:World,Kit.Rd w w.heap.size A (I8s zs)→Calls Tryz.prog 25 #[.agg #[Jj Jq H,Jj Jq W,Jj Jq C,.slice A n c],.agg #[x0,x1,x2,Jj Jq K,Jj Jq S,Jj Jq P,Jj Jq O,.int .i8 Z,.int .i8 Y,.slice WA nW cW,.slice BA nB cB,.int .i32 m1,Jj Jq s1,.int .i8 z1,.int .i32 m2,Jj Jq s2,.int .i8 z2,.int .i8 lo,.int .i8 hi]] w (MadeT w X V U k xs (Jj Jq er))):=by
 cases h1:tensB H W C n
 ·exact⟨0,0,0,0,[],5,rfl,by omega,fun w _=>aof_bad H W C A n c x0 x1 x2 K S P O Z Y WA BA nW cW nB cB m1 s1 z1 m2 s2 z2 lo hi h1 w,fun w _=>arof_bad H W C A n c x0 x1 x2 K S P O Z Y WA BA nW cW nB cB m1 s1 z1 m2 s2 z2 lo hi h1 w⟩
 ·cases hq:zau m1 s1
  ·exact⟨0,0,0,0,[],7,rfl,by omega,fun w _=>aof_quant H W C A n c x0 x1 x2 K S P O Z Y WA BA nW cW nB cB m1 s1 z1 m2 s2 z2 lo hi h1 hq w,fun w _=>arof_quant H W C A n c x0 x1 x2 K S P O Z Y WA BA nW cW nB cB m1 s1 z1 m2 s2 z2 lo hi h1 hq w⟩
  ·exact⟨H,W,C,n,rowL (fun k=>heldZ (zs.getD k 0 - Z) m1 s1 z1 lo hi) n,0,zbx _ _,hn6,
    fun w hr=>aof_yes H W C A n c zs hz hn6 bz x0 x1 x2 K S P O Z Y WA BA nW cW nB cB m1 s1 z1 m2 s2 z2 lo hi hnb h1 hq _ (fun _=>rfl) w hr,
    fun w hr=>arof_yes H W C A n c zs hz bz x0 x1 x2 K S P O Z Y WA BA nW cW nB cB m1 s1 z1 m2 s2 z2 lo hi hnb h1 hq (tens_pos h1) hn6 _ (fun _=>rfl) w hr⟩
end CAct
end
section
namespace CPad
open Go Go.ChangeShapes Go.WideShapes Go.ChangeAt Go.RowKit
open Plain CSat CShape CTensor
def mayZ (H W C:Int) (n:Nat) (p:Int):Int:=if tensB H W C n=true then (if p < 0∨4 < p then 2 else 0) else 5
theorem tens_bd2 {H W C:Int} {n:Nat} (ht:tensB H W C n=true):1≤H∧H≤16∧1≤W∧W≤16:=by
 exact Z2w
theorem around_err (H W C:Int) (A:Option Addr) (n c:Nat) (p z:Int) (er:Int) (he:mayZ H W C n p=er) (h0:er≠0) (w:World) :
  Calls Tryz.prog 18 #[.agg #[Jj Jq H,Jj Jq W,Jj Jq C,.slice A n c],Jj Jq p,.int .i8 z] w (Made w 0 0 0 0 [] (Jj Jq er)):=by
 have HE:=hid (show (if tensB H W C n=true then (if p < 0∨4 < p then 2 else 0) else 5)=er from he)
 have h0b:(er != 0)=true:=by simpa using h0
 have h0c:(er == 0)=false:=by simpa using h0
 clear he
 go_enter Tryz.func18,Tryz.ntmps18
 go_wp2_with (go_at_call 55;(refine (zbu H W C A n c p er HE.out _).mono ?_);(rintro e w1 ⟨rfl,hb⟩;obtain⟨hcc,hff⟩:=Kit.bcell hb;have hz:w.heap.size+2≤w1.heap.size:=Zbb;have hz1:w.heap.size+1 < w1.heap.size:=Zb3;have hz0:w.heap.size < w1.heap.size:=Zb3;have HB0:=hid hb;clear hb))
 refine bodyPost_ret (Kit.zaa rfl _ _ (w.heap.size+1) 0 [Jj Jq 0,Jj Jq 0,Jj Jq 0,.slice none 0 0] _ rfl (zao Zb6 Zb6 Zb6 Zb6) Tryz.underlying32 rfl Zb5) rfl ?_
 have hB1:Below w.heap.size w w1:=Below.trans (((Below.refl _ _).alloc (le_refl _) _).alloc Zb7 _) (HB0.out.mono Zbf)
 exact⟨_,rfl,World.ownsRow_nil _ _ _ _,((((hB1.setCell (p:=⟨w.heap.size+1,0,none⟩) Zb7 _).setCell (p:=⟨w.heap.size+1,1,none⟩) Zb7 _).setCell (p:=⟨w.heap.size+1,2,none⟩) Zb7 _).setCell (p:=⟨w.heap.size+1,3,none⟩) Zb7 _)⟩
theorem around_yes (H W C:Int) (A:Option Addr) (zs:List Int) (n c:Nat) (p z:Int) (hn:zs.length=n) (hc:n≤c) (ht:tensB H W C n=true) (p0:0≤p) (p4:p≤4) (hs:zam (H+2 * p) (W+2 * p) C=true) (a b d:Nat) (hU:(H+2 * p)=(a:Int)) (hV:(W+2 * p)=(b:Int)) (hC:C=(d:Int)) (m:Nat) (hm:a * b * d=m) (F:Nat→Int) (hF:∀ i j k:Nat,i < a→j < b→k < d→pixZ zs H W C (IntKind.i64.wrap ((i:Int) - p)) (IntKind.i64.wrap ((j:Int) - p)) (k:Int) z=F ((i * b+j) * d+k)) {Bz:Nat} (w:World) (hBz:Bz≤w.heap.size) (hr:Kit.Rd w Bz A (I8s zs)) :
  Calls Tryz.prog 18 #[.agg #[Jj Jq H,Jj Jq W,Jj Jq C,.slice A n c],Jj Jq p,.int .i8 z] w (Made w (H+2 * p) (W+2 * p) C m (rowL F m) (Jj Jq 0)):=by
 obtain⟨g1,g2,g3,g4⟩:=tens_bd2 ht
 have HE:=hid (show (if tensB H W C n=true then (if p < 0∨4 < p then 2 else 0) else 5)=(0:Int) by rw [if_pos ht,if_neg Zb3])
 have HS:=hid hs
 have HT:=hid ht
 have HN:=hid hn
 have HU:=hid hU
 have HV:=hid hV
 have HCd:=hid hC
 have HMm:=hid hm
 have HF:=hid hF
 have HR:=hid hr
 have hcc0:n≤c:=hc
 clear hn hU hV hC hm hF hr
 clear hs ht
 go_enter Tryz.func18,Tryz.ntmps18
 go_wp2_with (go_at_call 55;(refine (zbu H W C A n c p 0 HE.out _).mono ?_);(rintro e w1 ⟨rfl,hb⟩;obtain⟨hcc,hff⟩:=Kit.bcell hb;have hz:w.heap.size+2≤w1.heap.size:=Zbb;have hz1:w.heap.size+1 < w1.heap.size:=Zb3;have hz0:w.heap.size < w1.heap.size:=Zb3;have HB0:=hid hb;clear hb))
 refine Z7r ?_;intro hbx HFR HBW hz
 clear hcc hff HB0 hz1 hz0
 refine wp_region_held_drew (S:=BoxAt w.heap.size H W C A n c) Zb5 hbx (fun hHeld=>?_)
 clear hbx
 generalize w1.drew=Wa at HFR HBW hz hHeld ⊢
 refine Z8l ?_
 refine Z5y ?_
 refine Tk.y 1 (v:=?_) rfl ?_ ?_
 rotate_left
 ·exact Z3d
 refine Z5y ?_
 refine Z8w ?_
 refine Z5y ?_
 refine Tk.y 4 (v:=?_) rfl ?_ ?_
 rotate_left
 ·exact Z3d
 refine Z5y ?_
 refine Za1 ?_
 refine Z5y ?_
 refine Z9e ?_
 refine Z5y ?_
 refine Z9w ?_
 refine Z5y ?_
 refine Tk.s 3 rfl (fun K hK=>?_)
 go_simp
 go_at_call 57
 refine (widened_to H W C p g1 g2 g3 g4 Zb3 Zb3 _).mono ?_
 rintro e Wb ⟨rfl,hb1⟩
 have hS1:=hHeld.below (B':=_) Zb3 hb1
 replace HFR:=hid (HFR.out.below (B':=_) Zb3 hb1)
 replace HBW:=hid (HBW.out.trans (hb1.mono Zb3))
 replace hz:=Nat.le_trans hz hb1.size
 clear hb1 hHeld
 dsimp only
 refine hK.out _ _ ?_ (fun hHeld=>?_)
 ·exact hS1
 clear hK K
 refine Z5y ?_
 refine Tk.s 8 rfl (fun K hK=>?_)
 go_simp
 go_at_call 58
 refine (moved_to H W C A n c p p z _).mono ?_
 rintro e Wc ⟨rfl,hmv,hzm,hb2⟩
 have HMV:=hid hmv
 have hS1:=hHeld.below (B':=_) Zb3 hb2
 replace HFR:=hid (HFR.out.below (B':=_) Zb3 hb2)
 replace HBW:=hid (HBW.out.trans (hb2.mono Zb3))
 have hzc:=Nat.le_trans hz hb2.size
 have hzg:w.heap.size+2≤Wb.heap.size:=by assumption
 clear hb2 hHeld hmv
 dsimp only
 refine hK.out _ _ ?_ (fun hHeld=>?_)
 ·exact hS1
 clear hK K
 refine Z5y ?_
 refine Tk.s 9 rfl (fun K hK=>?_)
 go_simp
 go_at_call 56
 refine (build_yes (H+2 * p) (W+2 * p) H W C A zs n c HN.out hcc0 HT.out HS.out a b d HU.out HV.out HCd.out m HMm.out p p z F HF.out (B:=Wb.heap.size) (Bz:=Bz) _ HMV.out hzm (Nat.le_trans hBz HBW.out.size) (HR.out.below (HBW.out.mono hBz))).mono ?_
 rintro e Wd ⟨vd,rfl,ho3,hb3⟩
 obtain⟨Ad,cd,rfl, -, -, -⟩:=Kit.zaj ho3
 have HO:=hid (Kit.zah ho3 (show w.heap.size+2≤Wc.heap.size by omega))
 have hS1:=hHeld.below (B':=_) Zb3 hb3
 replace HFR:=hid (HFR.out.below (B':=_) Zb3 hb3)
 replace HBW:=hid (HBW.out.trans (hb3.mono Zb3))
 have hzd:=Nat.le_trans hzc hb3.size
 clear hb3 hHeld ho3
 obtain⟨⟨z0,z1,z2,z3⟩,z4,z5,z6,z7⟩:=HFR.out
 dsimp only
 refine hK.out _ _ ?_ (fun hHeld=>?_)
 ·exact hS1
 clear hK K
 refine Z5y ?_
 refine Z9o ?_
 refine Z5y ?_
 refine Za5 ?_
 refine Z5y ?_
 refine Tk.s 12 rfl (fun K hK=>?_)
 go_simp
 refine hK.out _ _ ?_ (fun hHeld=>?_)
 ·exact Z2c
 clear hK K
 refine Z5y ?_
 refine Za6 ?_
 refine Z5y ?_
 refine Z6y ?_
 go_wp2_with fail
 refine bodyPost_ret (Kit.zaa rfl _ _ (w.heap.size+1) 0 [Jj Jq (H+2 * p),Jj Jq (W+2 * p),Jj Jq C,.slice Ad m cd] _ rfl (zao Zb6 Zb6 Zb6 Zb6) Tryz.underlying32 rfl Zb5) rfl ?_
 refine⟨_,rfl,Kit.zah (zat (zat (zat (zat HO.out _ _ ?_) _ _ ?_) _ _ ?_) _ _ ?_) ?_,?_⟩
 any_goals (first | omega | (simp;done) | (simp;omega))
 exact ((((HBW.out.setCell (p:=⟨w.heap.size+1,0,none⟩) Zb7 _).setCell (p:=⟨w.heap.size+1,1,none⟩) Zb7 _).setCell (p:=⟨w.heap.size+1,2,none⟩) Zb7 _).setCell (p:=⟨w.heap.size+1,3,none⟩) Zb7 _)
theorem around_no (H W C:Int) (A:Option Addr) (n c:Nat) (p z:Int) (ht:tensB H W C n=true) (p0:0≤p) (p4:p≤4) (hs:zam (H+2 * p) (W+2 * p) C=false) (w:World) :
  Calls Tryz.prog 18 #[.agg #[Jj Jq H,Jj Jq W,Jj Jq C,.slice A n c],Jj Jq p,.int .i8 z] w (Made w 0 0 0 0 [] (Jj Jq 5)):=by
 obtain⟨g1,g2,g3,g4⟩:=tens_bd2 ht
 have HE:=hid (show (if tensB H W C n=true then (if p < 0∨4 < p then 2 else 0) else 5)=(0:Int) by rw [if_pos ht,if_neg Zb3])
 have HS:=hid hs
 have HT:=hid ht
 clear hs ht
 go_enter Tryz.func18,Tryz.ntmps18
 go_wp2_with (go_at_call 55;(refine (zbu H W C A n c p 0 HE.out _).mono ?_);(rintro e w1 ⟨rfl,hb⟩;obtain⟨hcc,hff⟩:=Kit.bcell hb;have hz:w.heap.size+2≤w1.heap.size:=Zbb;have hz1:w.heap.size+1 < w1.heap.size:=Zb3;have hz0:w.heap.size < w1.heap.size:=Zb3;have HB0:=hid hb;clear hb))
 refine Z7r ?_;intro hbx HFR HBW hz
 clear hcc hff HB0 hz1 hz0
 refine wp_region_held_drew (S:=BoxAt w.heap.size H W C A n c) Zb5 hbx (fun hHeld=>?_)
 clear hbx
 generalize w1.drew=Wa at HFR HBW hz hHeld ⊢
 refine Z8l ?_
 refine Z5y ?_
 refine Tk.y 1 (v:=?_) rfl ?_ ?_
 rotate_left
 ·exact Z3d
 refine Z5y ?_
 refine Z8w ?_
 refine Z5y ?_
 refine Tk.y 4 (v:=?_) rfl ?_ ?_
 rotate_left
 ·exact Z3d
 refine Z5y ?_
 refine Za1 ?_
 refine Z5y ?_
 refine Z9e ?_
 refine Z5y ?_
 refine Z9w ?_
 refine Z5y ?_
 refine Tk.s 3 rfl (fun K hK=>?_)
 go_simp
 go_at_call 57
 refine (widened_to H W C p g1 g2 g3 g4 Zb3 Zb3 _).mono ?_
 rintro e Wb ⟨rfl,hb1⟩
 have hS1:=hHeld.below (B':=_) Zb3 hb1
 replace HFR:=hid (HFR.out.below (B':=_) Zb3 hb1)
 replace HBW:=hid (HBW.out.trans (hb1.mono Zb3))
 replace hz:=Nat.le_trans hz hb1.size
 clear hb1 hHeld
 dsimp only
 refine hK.out _ _ ?_ (fun hHeld=>?_)
 ·exact hS1
 clear hK K
 refine Z5y ?_
 refine Tk.s 8 rfl (fun K hK=>?_)
 go_simp
 go_at_call 58
 refine (moved_to H W C A n c p p z _).mono ?_
 rintro e Wc ⟨rfl,hmv,hzm,hb2⟩
 have HMV:=hid hmv
 have hS1:=hHeld.below (B':=_) Zb3 hb2
 replace HFR:=hid (HFR.out.below (B':=_) Zb3 hb2)
 replace HBW:=hid (HBW.out.trans (hb2.mono Zb3))
 have hzc:=Nat.le_trans hz hb2.size
 have hzg:w.heap.size+2≤Wb.heap.size:=by assumption
 clear hb2 hHeld hmv
 dsimp only
 refine hK.out _ _ ?_ (fun hHeld=>?_)
 ·exact hS1
 clear hK K
 refine Z5y ?_
 refine Tk.s 9 rfl (fun K hK=>?_)
 go_simp
 go_at_call 56
 refine (build_no (H+2 * p) (W+2 * p) C HS.out _ _).mono ?_
 rintro e Wd ⟨rfl,hb3⟩
 have hS1:=hHeld.below (B':=_) Zb3 hb3
 replace HFR:=hid (HFR.out.below (B':=_) Zb3 hb3)
 replace HBW:=hid (HBW.out.trans (hb3.mono Zb3))
 have hzd:=Nat.le_trans hzc hb3.size
 clear hb3 hHeld
 obtain⟨⟨z0,z1,z2,z3⟩,z4,z5,z6,z7⟩:=HFR.out
 dsimp only
 refine hK.out _ _ ?_ (fun hHeld=>?_)
 ·exact hS1
 clear hK K
 refine Z5y ?_
 refine Z9o ?_
 refine Z5y ?_
 refine Za5 ?_
 refine Z5y ?_
 refine Tk.s 12 rfl (fun K hK=>?_)
 go_simp
 refine hK.out _ _ ?_ (fun hHeld=>?_)
 ·exact Z2c
 clear hK K
 refine Z5y ?_
 refine Za6 ?_
 refine Z5y ?_
 refine Z6y ?_
 go_wp2_with fail
 refine bodyPost_ret (Kit.zaa rfl _ _ (w.heap.size+1) 0 [Jj Jq 0,Jj Jq 0,Jj Jq 0,.slice none 0 0] _ rfl (zao Zb6 Zb6 Zb6 Zb6) Tryz.underlying32 rfl Zb5) rfl ?_
 exact⟨_,rfl,World.ownsRow_nil _ _ _ _,((((HBW.out.setCell (p:=⟨w.heap.size+1,0,none⟩) Zb7 _).setCell (p:=⟨w.heap.size+1,1,none⟩) Zb7 _).setCell (p:=⟨w.heap.size+1,2,none⟩) Zb7 _).setCell (p:=⟨w.heap.size+1,3,none⟩) Zb7 _)⟩
def gridF (b d:Nat) (G:Nat→Nat→Nat→Int) (i:Nat):Int:=G (i / d / b) (i / d % b) (i % d)
theorem zdf (b d:Nat) (G:Nat→Nat→Nat→Int) {i j k:Nat} (hj:j < b) (hk:k < d):gridF b d G ((i * b+j) * d+k)=G i j k:=by
 exact Z1k
theorem around_both (H W C:Int) (A:Option Addr) (zs:List Int) (n c:Nat) (hn:zs.length=n) (hc:n≤c) (ht:tensB H W C n=true) (p z:Int) (p0:0≤p) (p4:p≤4) :
  ∃ (U V K:Int) (m:Nat) (xs:List Int) (er:Int),xs.length=m∧m≤1000000 ∧
   (∀ (w:World),Kit.Rd w w.heap.size A (I8s zs)→Calls Tryz.prog 18 #[.agg #[Jj Jq H,Jj Jq W,Jj Jq C,.slice A n c],Jj Jq p,.int .i8 z] w (Made w U V K m xs (Jj Jq er))) ∧
   (∀ (w:World),Kit.Rd w w.heap.size A (I8s zs)→Calls Tryz.prog 27 #[.agg #[Jj Jq H,Jj Jq W,Jj Jq C,.slice A n c],Jj Jq p,.int .i8 z] w (Made w U V K m xs (Jj Jq er))):=by
 cases hs:zam (H+2 * p) (W+2 * p) C
 ·exact⟨0,0,0,0,[],5,rfl,by omega,fun w _=>around_no H W C A n c p z ht p0 p4 hs w,fun w _=>(refResize_no H W C A n c ht p z Zb3 p4 hs w).mono fun e w' ⟨he,hb⟩=>⟨_,he,World.ownsRow_nil _ _ _ _,hb⟩⟩
 ·obtain⟨s1,s2,s3,s4,s5,s6,s7⟩:=zac hs
  obtain⟨a,ha⟩:∃ a:Nat,H+2 * p=(a:Int):=⟨(H+2 * p).toNat,by omega⟩
  obtain⟨b,hb⟩:∃ b:Nat,W+2 * p=(b:Int):=⟨(W+2 * p).toNat,by omega⟩
  obtain⟨d,hd⟩:∃ d:Nat,C=(d:Int):=⟨C.toNat,by omega⟩
  have hm:((a * b * d:Nat):Int)≤1024:=by
   have:((a * b * d:Nat):Int)=(H+2 * p) * (W+2 * p) * C:=by rw [ha,hb,hd];simp
   omega
  refine⟨H+2 * p,W+2 * p,C,a * b * d,rowL (gridF b d (fun i j k=>pixZ zs H W C ((i:Int) - p) ((j:Int) - p) (k:Int) z)) (a * b * d),0,zbx _ _,by omega,fun w hr=>?_,fun w hr=>?_⟩
  ·refine around_yes H W C A zs n c p z hn hc ht p0 p4 hs a b d ha hb hd _ rfl _ (fun i j k hi hj hk=>?_) w (le_refl _) hr
   rw [zdf b d _ hj hk,IntWalk.i64_in _ Zb3,IntWalk.i64_in _ Zb3]
  ·exact refResize_yes H W C A zs n c hn ht p z Zb3 p4 hs a b d ha hb hd _ rfl _ (fun i j k hi hj hk=>by rw [zdf b d _ hj hk]) w (le_refl _) hr
end CPad
end
end Go.Proofs.YtchpdhhpkljdhaaGreatDoor
