/- -/
import Derived.Test.YtahekhpeomcfjaaGreatDoorGJ33
open Go.Lib (hid)
open Nat (le_refl lt_of_succ_lt lt_succ_self)
set_option linter.unusedVariables false
set_option linter.unusedSimpArgs false
set_option maxRecDepth 100000
set_option maxHeartbeats 16000000
namespace Go.Proofs.YtahekhpeomcfjaaGreatDoor
namespace CConv
end CConv
namespace CFix
end CFix
namespace CSat
end CSat
namespace CShape
end CShape
namespace CTensor
end CTensor
section
namespace CJoin
open Go Go.ChangeShapes Go.WideShapes Go.ChangeAt Go.RowKit Go.Deep Go.Shelf Round
open Plain CSat CFix CShape CTensor CConv
attribute [local go_sem] Oper.semAt_some
theorem info_i8j:(Tryz.prog.info? 39).map (fun i=>(i.zero,i.size,i.bytes))=some (some (.int .i8 0),1,1):=by kernel_rfl
theorem boxed_own {β:Type} (B:Nat) (t:TypeId) (v:Value):Own (fun (_:β) W=>Boxed W B t v):=by
 rintro s X Y row hv hg hrow
 refine hv.kept hg (fun e'=>?_)
 obtain⟨o,ho,hc⟩:=hrow B e'.symm
 rw [show X.heap[B]?=_ from hv] at ho;cases ho;cases hc
theorem boxed_below {W W':World} {B:Nat} {t:TypeId} {v:Value} (h:Boxed W B t v) (hb:Below W.heap.size W W'):Boxed W' B t v:=(hb.block B h.lt).trans h
theorem keeps_below {W W':World} (hb:Below W.heap.size W W'):KeepsOthers W W':=KeepsOthers.of_grownBy (Kit.za2 hb none) (fun j o e=>by cases e)
theorem keeps_append {W w1:World} {base:Nat} {e:TypeId} {size:Nat} {v:Value} {k:Nat} {xs:List Value} (hrow:W.ownsRow base e size v k xs) (hg:W.grownBy w1 v.ownBlock):KeepsOthers W w1 :=
 KeepsOthers.of_grownBy hg fun j o ej hj=>by
  rcases hrow.2 with ⟨rfl,_⟩ | ⟨g,cap,cur,rfl,_,hgb,_⟩
  ·simp [Value.ownBlock] at ej
  ·obtain rfl:g=j:=by simpa [Value.ownBlock] using ej
   rw [hgb] at hj;cases hj;rfl
theorem below_both {g:Nat} {a b c:World} (h:Below g a b) (k:Below g a c) (hs:b.heap.size≤c.heap.size):Below g b c :=
 ⟨k.os.trans h.os.symm,k.tape.trans h.tape.symm,k.output.trans h.output.symm,hs,fun i hi=>(k.block i hi).trans (h.block i hi).symm⟩
def RoundJ (g:Nat) (W5 W wv:World) (v vb:Value) (k:Nat) (xs:List Value):Prop :=
 Boxed wv (g+1) 25 v∧wv.ownsRow g 39 1 v k xs∧Below g W5 wv∧Boxed wv (g+3) 25 vb∧KeepsOthers W wv∧g≤wv.heap.size
theorem RoundJ.below {g:Nat} {W5 W wv wn:World} {v vb:Value} {k:Nat} {xs:List Value} (h:RoundJ g W5 W wv v vb k xs) (hb:Below wv.heap.size wv wn):RoundJ g W5 W wn v vb k xs :=
 ⟨boxed_below h.1 hb,Kit.own_below h.2.1 hb,h.2.2.1.trans (hb.mono h.2.2.2.2.2),boxed_below h.2.2.2.1 hb,h.2.2.2.2.1.trans (keeps_below hb),Nat.le_trans h.2.2.2.2.2 hb.size⟩
theorem ne_types:(25:TypeId)≠39:=by decide
theorem RoundJ.grown {g:Nat} {W5 W wv wn:World} {v v' vb:Value} {k m:Nat} {xs ys:List Value} (h:RoundJ g W5 W wv v vb k xs) (hg:wv.grownBy wn v.ownBlock) (ho:wn.ownsRow g 39 1 v' m ys) :
  Boxed wn (g+1) 25 v∧RoundJ g W5 W (wn.setCell ⟨g+1,0,none⟩ v') v' vb m ys:=by
 obtain⟨h1,h2,h3,h4,h5,h6⟩:=h
 have k1:Boxed wn (g+1) 25 v:=h1.kept hg (h1.not_row ne_types h2)
 have k4:Boxed wn (g+3) 25 vb:=h4.kept hg (h4.not_row ne_types h2)
 have k3:Below g W5 wn:=h3.grown hg h6 (Kit.zaj h2)
 refine⟨k1,k1.set v',ho.kept (grownBy_setCell' wn (g+1) v') (.inr (k1.not_row ne_types ho).symm),k3.setCell (p:=⟨g+1,0,none⟩) (by show g≤g+1;omega) v',k4.other (by omega) v',(h5.trans (keeps_append h2 hg)).trans (KeepsOthers.setCell _ _ _),?_⟩
 have:=hg.size
 simp;omega
theorem range_put {W:World} {b o:Nat} {cs:List Value} (h:W.rangeAt b o cs) {D:Nat} (o':Obj) (hD:W.heap[D]?=some (.deferred (some []))):(W.putObj D o').rangeAt b o cs:=fun j v hj =>
 cell_kept (W:=W) (h j v hj) (grownBy_putObj' _ D o') (fun r e=>by cases e;exact⟨_,hD,rfl⟩)
def joinF (zs ys:List Int) (Z Y m1 s1 z1 m2 s2 lo hi:Int) (k:Nat):Int:=oneZ (zs.getD k 0) (ys.getD k 0) Z Y m1 s1 z1 m2 s2 lo hi
theorem jof_yes (H W0 C:Int) (A B:Option Addr) (N c d:Nat) (zs ys:List Int) (hz:zs.length=N) (hy:ys.length=N) (bz:I8b zs) (by_:I8b ys) (x0 x1 x2:Value) (K S P O Z Y:Int) (WA BA:Option Addr) (nW cW nB cB:Nat) (m1 s1 z1 m2 s2 z2 lo hi:Int) (hnb:NBd Z Y m1 z1 m2 z2 lo hi) (h1:tensB H W0 C N=true) (hh:(za0 m1 s1 && za0 m2 s2)=true) (hN1:1≤N) (hN2:N≤1000000)
  (w:World) (hra:Kit.Rd w w.heap.size A (I8s zs)) (hrb:Kit.Rd w w.heap.size B (I8s ys)) :
  Calls Tryz.prog 46 #[.agg #[.int .i64 H,.int .i64 W0,.int .i64 C,.slice A N c],.agg #[.int .i64 H,.int .i64 W0,.int .i64 C,.slice B N d],.agg #[x0,x1,x2,.int .i64 K,.int .i64 S,.int .i64 P,.int .i64 O,.int .i8 Z,.int .i8 Y,.slice WA nW cW,.slice BA nB cB,.int .i32 m1,.int .i64 s1,.int .i8 z1,.int .i32 m2,.int .i64 s2,.int .i8 z2,.int .i8 lo,.int .i8 hi]] w (MadeJ w H W0 C N (rowL (joinF zs ys Z Y m1 s1 z1 m2 s2 lo hi) N) (.int .i64 0)):=by
 obtain⟨F,hF⟩:∃ F,F=joinF zs ys Z Y m1 s1 z1 m2 s2 lo hi:=⟨_,rfl⟩
 rw [← hF]
 obtain⟨i0,hi0,hi1,hi2,hi3⟩:=zbz info_i8j
 have hmk:∀ w:World,(Instr.makeSlice 25 (.int .i64 0) (.int .i64 (N:Int))).run Tryz.prog w=.ok (.slice (some ⟨w.heap.size,0,none⟩) 0 N) (w.alloc (.cells (madeCells #[.int .i8 0] N) 39)):=fun w=>by
  have h:=run_make (P:=Tryz.prog) w 25 39 i0 (.int .i8 0) Tryz.underlying25 hi0 hi1 .i64 .i64 0 N (Int.le_refl _) (by omega) (by rw [hi3];omega) (by omega)
  rw [hi2,Nat.mul_one,show (Value.int .i8 0).cells=#[.int .i8 0] from rfl] at h
  simpa using h
 have HF:=hid hF
 have HT1:=hid h1
 have HT2:=hid h1
 have HH:=hid hh
 have HNB:=hid hnb
 have HRA:=hid hra
 have HRB:=hid hrb
 have HZ:=hid hz
 have HY:=hid hy
 have HBZ:=hid bz
 have HBY:=hid by_
 clear h1 hh hF hnb hra hrb hz hy bz by_
 have HE:=eqShape H W0 C H W0 C
 have hg:=Tryz.eqGuardType24
 refine (callsIn_wide (n:=5)).1 ?_
 refine callsIn_of_wp_marks Tryz.func46 rfl trivial ?_ rfl
 simp only [Tryz.ntmps46,List.size_toArray,List.length_cons,List.length_nil,Nat.reduceAdd,Nat.reduceSub,Array.replicate_succ,Array.replicate_zero,List.push_toArray,List.append_toArray,List.nil_append,List.cons_append]
 refine wpIn_wide.2 ?_
 go_upto_region 6 with (first
 | (go_at_call 13
    have hchk:=HBW
    clear hchk
    have hal:Below w1.heap.size w1 w1:=Below.refl _ _
    refine (zac H W0 C B N d true HT2.out _).mono ?_
    rintro e w2 ⟨rfl,hb⟩
    have hh:Below w1.heap.size w1 w2:=hal.trans (hb.mono hal.size)
    replace TA:=hid (TA.out.below yTA hh)
    replace yTA:=Nat.lt_of_lt_of_le yTA hh.size
    replace TB:=hid (TB.out.below yTB hh)
    replace yTB:=Nat.lt_of_lt_of_le yTB hh.size
    replace TN:=hid (TN.out.below yTN hh)
    replace yTN:=Nat.lt_of_lt_of_le yTN hh.size
    replace FR:=hid (FR.out.below yFR hh)
    replace yFR:=Nat.lt_of_lt_of_le yFR hh.size
    replace HRA:=hid ((HRA.out.below hh).more hh.size)
    replace HRB:=hid ((HRB.out.below hh).more hh.size)
    replace HBW:=hid (HBW.out.trans (hh.mono HBW.out.size))
    clear tap0 tap1 tap2 tap3 tbp0 tbp1 tbp2 tbp3
    obtain⟨tap0,tap1,tap2,tap3⟩:=TA.out
    obtain⟨tbp0,tbp1,tbp2,tbp3⟩:=TB.out
    clear hb hh hal)
 | (go_at_call 13
    have hal:Below w.heap.size w ((((w.alloc (.cells #[.int .i64 H,.int .i64 W0,.int .i64 C,.slice A N c] 27)).alloc (.cells #[.int .i64 H,.int .i64 W0,.int .i64 C,.slice B N d] 27)).alloc (.cells #[x0,x1,x2,.int .i64 K,.int .i64 S,.int .i64 P,.int .i64 O,.int .i8 Z,.int .i8 Y,.slice WA nW cW,.slice BA nB cB,.int .i32 m1,.int .i64 s1,.int .i8 z1,.int .i32 m2,.int .i64 s2,.int .i8 z2,.int .i8 lo,.int .i8 hi] 44)).alloc (.cells #[.int .i64 0,.int .i64 0,.int .i64 0,.slice none 0 0] 27)):=((((Below.refl _ _).alloc (by first | exact le_refl _ | (simp;done) | (simp;omega)) _).alloc (by first | exact le_refl _ | (simp;done) | (simp;omega)) _).alloc (by first | exact le_refl _ | (simp;done) | (simp;omega)) _).alloc (by first | exact le_refl _ | (simp;done) | (simp;omega)) _
    refine (zac H W0 C A N c true HT1.out _).mono ?_
    rintro e w1 ⟨rfl,hb⟩
    have hh:Below w.heap.size w w1:=hal.trans (hb.mono hal.size)
    have qTA:=(zbd H W0 C A N c 27) w
    try simp only [World.size_alloc] at qTA
    have TA:=hid ((qTA.below (B':=w.heap.size+1) (by omega) (((((Below.refl _ _).alloc (by first | exact le_refl _ | (simp;done) | (simp;omega)) _).alloc (by first | exact le_refl _ | (simp;done) | (simp;omega)) _).alloc (by first | exact le_refl _ | (simp;done) | (simp;omega)) _).mono (by simp))).below (by first | (simp;done) | (simp;omega)) hb)
    have yTA:w.heap.size < w1.heap.size:=by have:=hb.size;simp at this;omega
    clear qTA
    have qTB:=(zbd H W0 C B N d 27) (w.alloc (.cells #[.int .i64 H,.int .i64 W0,.int .i64 C,.slice A N c] 27))
    try simp only [World.size_alloc] at qTB
    have TB:=hid ((qTB.below (B':=w.heap.size+2) (by omega) ((((Below.refl _ _).alloc (by first | exact le_refl _ | (simp;done) | (simp;omega)) _).alloc (by first | exact le_refl _ | (simp;done) | (simp;omega)) _).mono (by simp))).below (by first | (simp;done) | (simp;omega)) hb)
    have yTB:w.heap.size+1 < w1.heap.size:=by have:=hb.size;simp at this;omega
    clear qTB
    have qTN:=(zai.new x0 x1 x2 (.int .i8 Y) (.int .i32 m1) (.int .i64 s1) (.int .i8 z1) (.int .i32 m2) (.int .i64 s2) (.int .i8 z2) (.int .i8 lo) (.int .i8 hi) K S P O Z WA BA nW cW nB cB 44) ((w.alloc (.cells #[.int .i64 H,.int .i64 W0,.int .i64 C,.slice A N c] 27)).alloc (.cells #[.int .i64 H,.int .i64 W0,.int .i64 C,.slice B N d] 27))
    try simp only [World.size_alloc] at qTN
    have TN:=hid ((qTN.below (B':=w.heap.size+3) (by omega) (((Below.refl _ _).alloc (by first | exact le_refl _ | (simp;done) | (simp;omega)) _).mono (by simp))).below (by first | (simp;done) | (simp;omega)) hb)
    have yTN:w.heap.size+2 < w1.heap.size:=by have:=hb.size;simp at this;omega
    clear qTN
    have qFR:=(za5 27) (((w.alloc (.cells #[.int .i64 H,.int .i64 W0,.int .i64 C,.slice A N c] 27)).alloc (.cells #[.int .i64 H,.int .i64 W0,.int .i64 C,.slice B N d] 27)).alloc (.cells #[x0,x1,x2,.int .i64 K,.int .i64 S,.int .i64 P,.int .i64 O,.int .i8 Z,.int .i8 Y,.slice WA nW cW,.slice BA nB cB,.int .i32 m1,.int .i64 s1,.int .i8 z1,.int .i32 m2,.int .i64 s2,.int .i8 z2,.int .i8 lo,.int .i8 hi] 44))
    try simp only [World.size_alloc] at qFR
    have FR:=hid (qFR.below (by first | (simp;done) | (simp;omega)) hb)
    have yFR:w.heap.size+3 < w1.heap.size:=by have:=hb.size;simp at this;omega
    clear qFR
    replace HRA:=hid ((HRA.out.below hh).more hh.size)
    replace HRB:=hid ((HRB.out.below hh).more hh.size)
    have HBW:Hid (Below w.heap.size w w1):=hid hh
    obtain⟨tap0,tap1,tap2,tap3⟩:=TA.out
    obtain⟨tbp0,tbp1,tbp2,tbp3⟩:=TB.out
    clear hb hh hal)
 | (go_at_call 85
    have hal:Below w2.heap.size w2 w2:=Below.refl _ _
    refine (scales_to x0 x1 x2 K S P O Z Y WA BA nW cW nB cB m1 s1 z1 m2 s2 z2 lo hi _).mono ?_
    rintro e w3 ⟨rfl,hb⟩
    have hh:Below w2.heap.size w2 w3:=hal.trans (hb.mono hal.size)
    replace TA:=hid (TA.out.below yTA hh)
    replace yTA:=Nat.lt_of_lt_of_le yTA hh.size
    replace TB:=hid (TB.out.below yTB hh)
    replace yTB:=Nat.lt_of_lt_of_le yTB hh.size
    replace TN:=hid (TN.out.below yTN hh)
    replace yTN:=Nat.lt_of_lt_of_le yTN hh.size
    replace FR:=hid (FR.out.below yFR hh)
    replace yFR:=Nat.lt_of_lt_of_le yFR hh.size
    replace HRA:=hid ((HRA.out.below hh).more hh.size)
    replace HRB:=hid ((HRB.out.below hh).more hh.size)
    replace HBW:=hid (HBW.out.trans (hh.mono HBW.out.size))
    clear tap0 tap1 tap2 tap3 tbp0 tbp1 tbp2 tbp3
    rw [HH.out]
    have hg3:w.heap.size+4≤w3.heap.size:=yFR
    obtain⟨tap0,tap1,tap2,tap3⟩:=TA.out
    obtain⟨tbp0,tbp1,tbp2,tbp3⟩:=TB.out
    clear hb hh hal)
 | (refine wpList_load_mid rfl 44 (.tmp 5) rfl (w.heap.size+2) 0 rfl [x0,x1,x2,.int .i64 K,.int .i64 S,.int .i64 P,.int .i64 O,.int .i8 Z,.int .i8 Y,.slice WA nW cW,.slice BA nB cB,.int .i32 m1,.int .i64 s1,.int .i8 z1,.int .i32 m2,.int .i64 s2,.int .i8 z2,.int .i8 lo,.int .i8 hi] _ (TN.out) Tryz.underlying44 rfl (by kernel_rfl) ?_))
 have bD:Boxed ((w3.alloc (.cells (madeCells #[.int .i8 0] N) 39)).alloc (.cells #[(.slice (some ⟨w3.heap.size,0,none⟩) 0 N)] 25)) (w3.heap.size+1) 25 (.slice (some ⟨w3.heap.size,0,none⟩) 0 N):=by
  have h:=Boxed.new (w3.alloc (.cells (madeCells #[.int .i8 0] N) 39)) 25 (.slice (some ⟨w3.heap.size,0,none⟩) 0 N)
  rw [World.size_alloc] at h
  exact h
 have hrow1:((w3.alloc (.cells (madeCells #[.int .i8 0] N) 39)).alloc (.cells #[(.slice (some ⟨w3.heap.size,0,none⟩) 0 N)] 25)).ownsRow w3.heap.size 39 1 (.slice (some ⟨w3.heap.size,0,none⟩) 0 N) 0 (I8s (([]:List Nat).map F)) :=
  (World.ownsRow_made (e:=39) w3 _ N (le_refl _) (by unfold maxLen;omega) (by rw [size_madeCells];simp)).alloc _
 have hbw3:Below w3.heap.size w3 ((w3.alloc (.cells (madeCells #[.int .i8 0] N) 39)).alloc (.cells #[(.slice (some ⟨w3.heap.size,0,none⟩) 0 N)] 25)):=((Below.refl _ _).alloc (le_refl _) _).alloc (by simp) _
 have hsz3:((w3.alloc (.cells (madeCells #[.int .i8 0] N) 39)).alloc (.cells #[(.slice (some ⟨w3.heap.size,0,none⟩) 0 N)] 25)).heap.size=w3.heap.size+2:=by simp
 have BD:=hid bD
 have HR0:=hid hrow1
 have HB3:=hid hbw3
 clear bD hrow1 hbw3 hmk HE hg
 generalize ((w3.alloc (.cells (madeCells #[.int .i8 0] N) 39)).alloc (.cells #[(.slice (some ⟨w3.heap.size,0,none⟩) 0 N)] 25))=W4 at BD HR0 HB3 hsz3 ⊢
 replace TA:=hid (TA.out.below yTA HB3.out)
 replace TB:=hid (TB.out.below yTB HB3.out)
 replace TN:=hid (TN.out.below yTN HB3.out)
 replace FR:=hid (FR.out.below yFR HB3.out)
 replace HRA:=hid (HRA.out.below HB3.out)
 replace HRB:=hid (HRB.out.below HB3.out)
 replace HBW:=hid (HBW.out.trans (HB3.out.mono HBW.out.size))
 clear HB3 tap0 tap1 tap2 tap3 tbp0 tbp1 tbp2 tbp3
 obtain⟨tap0,tap1,tap2,tap3⟩:=TA.out
 obtain⟨tbp0,tbp1,tbp2,tbp3⟩:=TB.out
 generalize hgw:w3.heap.size=g at *
 clear hgw
 go_wp2_with (go_at_call 86;(refine (pairs_to A B N c N d _).mono ?_);rintro e w6 ⟨rfl,rfl⟩)
 have bP1:=Boxed.new W4 25 (.slice A N c)
 have bP2:=Boxed.new (W4.alloc (.cells #[.slice A N c] 25)) 25 (.slice B N d)
 rw [World.size_alloc] at bP2
 replace bP1:=bP1.alloc (.cells #[.slice B N d] 25)
 have hal:Below W4.heap.size W4 ((W4.alloc (.cells #[.slice A N c] 25)).alloc (.cells #[.slice B N d] 25)):=((Below.refl _ _).alloc (le_refl _) _).alloc (by simp) _
 have hs5:((W4.alloc (.cells #[.slice A N c] 25)).alloc (.cells #[.slice B N d] 25)).heap.size=g+4:=by simp;omega
 rw [hsz3] at bP1 bP2 hal
 have hal2:=hal.mono (show g≤g+2 by omega)
 replace BD:=hid ((BD.out.alloc (.cells #[.slice A N c] 25)).alloc (.cells #[.slice B N d] 25))
 replace HR0:=hid ((HR0.out.alloc (.cells #[.slice A N c] 25)).alloc (.cells #[.slice B N d] 25))
 generalize (W4.alloc (.cells #[.slice A N c] 25)).alloc (.cells #[.slice B N d] 25)=W5 at bP1 bP2 hal hal2 hs5 BD HR0 ⊢
 replace TA:=hid (TA.out.below (show w.heap.size < g by omega) hal2)
 have HN5:=hid (TN.out.below (show w.heap.size+2 < g by omega) hal2)
 replace FR:=hid (FR.out.below (show w.heap.size+3 < g by omega) hal2)
 replace HRA:=hid (HRA.out.below hal2)
 replace HRB:=hid (HRB.out.below hal2)
 replace HBW:=hid (HBW.out.trans (hal2.mono (by omega)))
 have hN5:w.heap.size+2 < g:=by omega
 have BP2:=hid bP2
 clear tap0 tap1 tap2 tap3 tbp0 tbp1 tbp2 tbp3 TB TN hal hal2 bP2 yTA yTB yTN yFR
 refine (wpIn_wide (n:=5)).1 ?_
 refine wpIn_rangeFunc_ownG (F:=Fence.wide) (n:=5) rfl (by omega) (gf:=116) (lb:=#[.pointer (some ⟨g+2,0,none⟩),.pointer (some ⟨g+2+1,0,none⟩)]) rfl trivial (enters_of Tryz.func116 (by kernel_rfl) rfl)
  (seq_pairs Fence.wide (5 - 1) trivial rfl (by omega) (g+2) (g+2+1) g A B c d N zs ys HZ.out HY.out hN1 hN2 W5 (by omega) (by omega) (by omega) bP1.cell BP2.out.cell HRA.out HRB.out) KeepJ.trans
  (fun W l o o' hl ho h1 h2=>⟨belowK_b (w:=W5) (n₀:=g) (by omega) W l o o' hl ho h1 h2,(belowK_b (w:=W5) (le_refl _) W l o o' hl ho h1 h2).cell (p:=⟨g+2+1,0,none⟩) (by show g+2+1 < _;omega)⟩)
  (Below.refl _ _) (fun _=>rfl)
  (fun pre W=>(∃ v,Boxed W (g+1) 25 v∧W.ownsRow g 39 1 v pre.length (I8s (pre.map F))∧True)∧(Below g W5 W∧Boxed W (g+3) 25 (.slice B N d)))
  (fun _ _ _=>False)
  (OwnFrom.and (Own.from (holdsRow_own g (g+1) 25 39 1 (fun pre:List Nat=>pre.length) (fun pre=>I8s (pre.map F)) (fun _ _=>True)) _) (OwnFrom.and (ownFrom_below (by omega) (by omega)) (Own.from (boxed_own (g+3) 25 _) _)))
  (fun _ _ _ _ _ hs _ _=>hs)
  ⟨⟨_,BD.out,HR0.out,trivial⟩,Below.refl _ _,BP2.out⟩
  ?a1 ?assign ?body ?done ?stop
 case assign =>
  intro l x W K hK
  gi_wp2
  exact hK
 case body =>
  rintro l pre x W ⟨⟨v,hv,hrow, -⟩,hB,hP⟩ hlt
  obtain⟨R,hR⟩:∃ R,joinF zs ys Z Y m1 s1 z1 m2 s2 lo hi x=R:=⟨_,rfl⟩
  obtain⟨hx1,hx2⟩:=HBZ.out x
  obtain⟨hy1,hy2⟩:=HBY.out x
  have HFX:Hid (F x=R):=hid (by rw [HF.out,hR])
  have HRR:Hid (oneZ (zs.getD x 0) (ys.getD x 0) Z Y m1 s1 z1 m2 s2 lo hi=R):=hid hR
  have hsz:g≤W.heap.size:=by have:=hB.size;omega
  have HR:Hid (RoundJ g W5 W W v (.slice B N d) pre.length (I8s (pre.map F))):=hid ⟨hv,hrow,hB,hP,KeepsOthers.refl _,hsz⟩
  have hPW:=hid hP
  have HBK:=hid hB
  have hwide:∀ f,Fence.wide.fn f:=fun _=>trivial
  have hpl:pre.length≤1000000:=by omega
  clear hv hrow hB hP hR bP1
  gi_wp2
  refine region_held (S:=fun w'=>zai (w.heap.size+2) x0 x1 x2 (.int .i8 Y) (.int .i32 m1) (.int .i64 s1) (.int .i8 z1) (.int .i32 m2) (.int .i64 s2) (.int .i8 z2) (.int .i8 lo) (.int .i8 hi) K S P O Z WA BA nW cW nB cB w') (by kernel_rfl) (by rfl) (HN5.out.below hN5 (HR.out.2.2.1.drew)) (fun hHeld=>?_)
  replace HR:Hid (RoundJ g W5 W W.drew v (.slice B N d) pre.length (I8s (pre.map F))):=hid (HR.out.below ((Below.refl _ _).drew))
  have hcv:=HR.out.1.cell
  generalize hWd:W.drew=Wd at HR hHeld hcv ⊢
  clear hWd
  refine Tk.x 1 rfl ?_
  try simp only [Tk.put]
  refine Tk.x 2 rfl ?_
  try simp only [Tk.put]
  refine Tk.t 3 (v:=.agg #[x0,x1,x2,.int .i64 K,.int .i64 S,.int .i64 P,.int .i64 O,.int .i8 Z,.int .i8 Y,.slice WA nW cW,.slice BA nB cB,.int .i32 m1,.int .i64 s1,.int .i8 z1,.int .i32 m2,.int .i64 s2,.int .i8 z2,.int .i8 lo,.int .i8 hi]) rfl (yieldsIf_load_mid (by rfl) _ _ rfl (w.heap.size+2) 0 rfl [x0,x1,x2,.int .i64 K,.int .i64 S,.int .i64 P,.int .i64 O,.int .i8 Z,.int .i8 Y,.slice WA nW cW,.slice BA nB cB,.int .i32 m1,.int .i64 s1,.int .i8 z1,.int .i32 m2,.int .i64 s2,.int .i8 z2,.int .i8 lo,.int .i8 hi] _ (fun w' h=>h) Tryz.underlying44 rfl (by kernel_rfl)) (by assumption) ?_
  try simp only [Tk.put]
  refine wpAnyH_ready (rs:=[0,4]) (by kernel_rfl) (by simp) ?_
  refine Tk.c rfl (fun Kq hK=>?_) ?_
  ·go_simp
   refine hK.out _ _ ?_ (fun hHeld=>?_)
   ·exact hHeld
   clear hK Kq
   try simp only [Tk.put]
   refine Tk.s 4 rfl (fun Kq hK=>?_)
   go_simp
   go_at_call 87
   refine (one_to (zs.getD x 0) (ys.getD x 0) hx1 hx2 hy1 hy2 x0 x1 x2 K S P O Z Y WA BA nW cW nB cB m1 s1 z1 m2 s2 z2 lo hi HNB.out R HRR.out _).mono ?_
   rintro e Wp1 ⟨rfl,hb1⟩
   replace HR:=hid (HR.out.below hb1)
   clear hcv hHeld hb1
   have hcv:=HR.out.1.cell
   dsimp only
   refine hK.out _ _ ?_ (fun hHeld=>?_)
   ·exact HN5.out.below hN5 HR.out.2.2.1
   clear hK Kq
   try simp only [Tk.put]
   refine Tk.s 5 rfl (fun Kq hK=>?_)
   go_simp
   refine hK.out _ _ ?_ (fun hHeld=>?_)
   ·exact hHeld.below (B':=Wp1.heap.size) (by have:=HR.out.2.2.2.2.2;omega) ((Below.refl _ _).alloc (le_refl _) _)
   clear hK Kq
   try simp only [Tk.put]
   replace HR:=hid (HR.out.below ((Below.refl _ _).alloc (le_refl _) (.cells #[.int .i8 R] 39)))
   have HXR:=hid (Kit.Rd.new Wp1 [.int .i8 R] 39 (lt_succ_self _))
   clear hcv
   have hcv:=HR.out.1.cell
   generalize Wp1.alloc (.cells #[.int .i8 R] 39)=Wq2 at HR HXR hcv hHeld ⊢
   refine Tk.s 6 rfl (fun Kq hK=>?_)
   refine Kit.zbs _ rfl (.tmp 42) (.tmp 47) _ rfl g 39 i0 (.int .i8 0) 1 1 Tryz.underlying25 hi0 hi1 hi2 hi3 rfl (by decide) _ pre.length (I8s (pre.map F)) rfl HR.out.2.1 _ _ 1 1 [.int .i8 R] rfl rfl HXR.out (Kit.zbj .i8 [R]) (by unfold maxLen;omega) (by omega) (HR.out.2.2.2.2.2) ?_
   intro v5 w5 hown5 hg5 _
   obtain⟨A5,c5,rfl, -, -, -⟩:=Kit.zam hown5
   obtain⟨hbx,hrn⟩:=HR.out.grown hg5 hown5
   have hNA:zai (w.heap.size+2) x0 x1 x2 (.int .i8 Y) (.int .i32 m1) (.int .i64 s1) (.int .i8 z1) (.int .i32 m2) (.int .i64 s2) (.int .i8 z2) (.int .i8 lo) (.int .i8 hi) K S P O Z WA BA nW cW nB cB w5:=HN5.out.below hN5 (HR.out.2.2.1.grown hg5 HR.out.2.2.2.2.2 (Kit.zaj HR.out.2.1))
   have HRN:=hid hrn
   have hbc:=hbx.cell
   have hbf:=hbx.frozen
   clear hcv hHeld HR HXR hown5 hg5 hbx hrn
   dsimp only
   refine hK.out _ _ ?_ (fun hHeld=>?_)
   ·exact hNA
   clear hK Kq
   try simp only [Tk.put]
   clear hNA
   refine Tk.s 7 rfl (fun Kq hK=>?_)
   go_simp
   refine hK.out _ _ ?_ (fun hHeld=>?_)
   ·exact HN5.out.below hN5 HRN.out.2.2.1
   clear hK Kq
   try simp only [Tk.put]
   refine wpAnyH_done (by kernel_rfl) ?_ _
   simp only [Norm]
   clear hHeld hbc hbf
   gi_wp2
   exact⟨HRN.out.2.2.2.2.1.from _,⟨below_both HBK.out HRN.out.2.2.1 HRN.out.2.2.2.2.1.size,HRN.out.2.2.2.1.cell.trans hPW.out.cell.symm⟩,⟨_,HRN.out.1,by rw [List.map_append,List.length_append];simpa [I8s,HFX.out] using HRN.out.2.1,trivial⟩,HRN.out.2.2.1,HRN.out.2.2.2.1⟩
  refine Tk.c rfl (fun Kq hK=>?_) ?_
  ·go_simp
   go_at_call 87
   refine (one_to (zs.getD x 0) (ys.getD x 0) hx1 hx2 hy1 hy2 x0 x1 x2 K S P O Z Y WA BA nW cW nB cB m1 s1 z1 m2 s2 z2 lo hi HNB.out R HRR.out _).mono ?_
   rintro e Wp0 ⟨rfl,hb1⟩
   replace HR:=hid (HR.out.below hb1)
   clear hcv hHeld hb1
   have hcv:=HR.out.1.cell
   dsimp only
   refine hK.out _ _ ?_ (fun hHeld=>?_)
   ·exact HN5.out.below hN5 HR.out.2.2.1
   clear hK Kq
   try simp only [Tk.put]
   refine wpAnyH_ready (rs:=[0,5]) (by kernel_rfl) (by simp) ?_
   refine Tk.c rfl (fun Kq hK=>?_) ?_
   ·go_simp
    refine hK.out _ _ ?_ (fun hHeld=>?_)
    ·exact hHeld
    clear hK Kq
    try simp only [Tk.put]
    refine Tk.s 5 rfl (fun Kq hK=>?_)
    go_simp
    refine hK.out _ _ ?_ (fun hHeld=>?_)
    ·exact hHeld.below (B':=Wp0.heap.size) (by have:=HR.out.2.2.2.2.2;omega) ((Below.refl _ _).alloc (le_refl _) _)
    clear hK Kq
    try simp only [Tk.put]
    replace HR:=hid (HR.out.below ((Below.refl _ _).alloc (le_refl _) (.cells #[.int .i8 R] 39)))
    have HXR:=hid (Kit.Rd.new Wp0 [.int .i8 R] 39 (lt_succ_self _))
    clear hcv
    have hcv:=HR.out.1.cell
    generalize Wp0.alloc (.cells #[.int .i8 R] 39)=Wq2 at HR HXR hcv hHeld ⊢
    refine Tk.s 6 rfl (fun Kq hK=>?_)
    refine Kit.zbs _ rfl (.tmp 42) (.tmp 47) _ rfl g 39 i0 (.int .i8 0) 1 1 Tryz.underlying25 hi0 hi1 hi2 hi3 rfl (by decide) _ pre.length (I8s (pre.map F)) rfl HR.out.2.1 _ _ 1 1 [.int .i8 R] rfl rfl HXR.out (Kit.zbj .i8 [R]) (by unfold maxLen;omega) (by omega) (HR.out.2.2.2.2.2) ?_
    intro v5 w5 hown5 hg5 _
    obtain⟨A5,c5,rfl, -, -, -⟩:=Kit.zam hown5
    obtain⟨hbx,hrn⟩:=HR.out.grown hg5 hown5
    have hNA:zai (w.heap.size+2) x0 x1 x2 (.int .i8 Y) (.int .i32 m1) (.int .i64 s1) (.int .i8 z1) (.int .i32 m2) (.int .i64 s2) (.int .i8 z2) (.int .i8 lo) (.int .i8 hi) K S P O Z WA BA nW cW nB cB w5:=HN5.out.below hN5 (HR.out.2.2.1.grown hg5 HR.out.2.2.2.2.2 (Kit.zaj HR.out.2.1))
    have HRN:=hid hrn
    have hbc:=hbx.cell
    have hbf:=hbx.frozen
    clear hcv hHeld HR HXR hown5 hg5 hbx hrn
    dsimp only
    refine hK.out _ _ ?_ (fun hHeld=>?_)
    ·exact hNA
    clear hK Kq
    try simp only [Tk.put]
    clear hNA
    refine Tk.s 7 rfl (fun Kq hK=>?_)
    go_simp
    refine hK.out _ _ ?_ (fun hHeld=>?_)
    ·exact HN5.out.below hN5 HRN.out.2.2.1
    clear hK Kq
    try simp only [Tk.put]
    refine wpAnyH_done (by kernel_rfl) ?_ _
    simp only [Norm]
    clear hHeld hbc hbf
    gi_wp2
    exact⟨HRN.out.2.2.2.2.1.from _,⟨below_both HBK.out HRN.out.2.2.1 HRN.out.2.2.2.2.1.size,HRN.out.2.2.2.1.cell.trans hPW.out.cell.symm⟩,⟨_,HRN.out.1,by rw [List.map_append,List.length_append];simpa [I8s,HFX.out] using HRN.out.2.1,trivial⟩,HRN.out.2.2.1,HRN.out.2.2.2.1⟩
   refine Tk.c rfl (fun Kq hK=>?_) ?_
   ·go_simp
    refine hK.out _ _ ?_ (fun hHeld=>?_)
    ·exact hHeld.below (B':=Wp0.heap.size) (by have:=HR.out.2.2.2.2.2;omega) ((Below.refl _ _).alloc (le_refl _) _)
    clear hK Kq
    try simp only [Tk.put]
    replace HR:=hid (HR.out.below ((Below.refl _ _).alloc (le_refl _) (.cells #[.int .i8 R] 39)))
    have HXR:=hid (Kit.Rd.new Wp0 [.int .i8 R] 39 (lt_succ_self _))
    clear hcv
    have hcv:=HR.out.1.cell
    generalize Wp0.alloc (.cells #[.int .i8 R] 39)=Wq1 at HR HXR hcv hHeld ⊢
    refine Tk.s 0 rfl (fun Kq hK=>?_)
    go_simp
    refine hK.out _ _ ?_ (fun hHeld=>?_)
    ·exact hHeld
    clear hK Kq
    try simp only [Tk.put]
    refine Tk.s 6 rfl (fun Kq hK=>?_)
    refine Kit.zbs _ rfl (.tmp 42) (.tmp 47) _ rfl g 39 i0 (.int .i8 0) 1 1 Tryz.underlying25 hi0 hi1 hi2 hi3 rfl (by decide) _ pre.length (I8s (pre.map F)) rfl HR.out.2.1 _ _ 1 1 [.int .i8 R] rfl rfl HXR.out (Kit.zbj .i8 [R]) (by unfold maxLen;omega) (by omega) (HR.out.2.2.2.2.2) ?_
    intro v5 w5 hown5 hg5 _
    obtain⟨A5,c5,rfl, -, -, -⟩:=Kit.zam hown5
    obtain⟨hbx,hrn⟩:=HR.out.grown hg5 hown5
    have hNA:zai (w.heap.size+2) x0 x1 x2 (.int .i8 Y) (.int .i32 m1) (.int .i64 s1) (.int .i8 z1) (.int .i32 m2) (.int .i64 s2) (.int .i8 z2) (.int .i8 lo) (.int .i8 hi) K S P O Z WA BA nW cW nB cB w5:=HN5.out.below hN5 (HR.out.2.2.1.grown hg5 HR.out.2.2.2.2.2 (Kit.zaj HR.out.2.1))
    have HRN:=hid hrn
    have hbc:=hbx.cell
    have hbf:=hbx.frozen
    clear hcv hHeld HR HXR hown5 hg5 hbx hrn
    dsimp only
    refine hK.out _ _ ?_ (fun hHeld=>?_)
    ·exact hNA
    clear hK Kq
    try simp only [Tk.put]
    clear hNA
    refine Tk.s 7 rfl (fun Kq hK=>?_)
    go_simp
    refine hK.out _ _ ?_ (fun hHeld=>?_)
    ·exact HN5.out.below hN5 HRN.out.2.2.1
    clear hK Kq
    try simp only [Tk.put]
    refine wpAnyH_done (by kernel_rfl) ?_ _
    simp only [Norm]
    clear hHeld hbc hbf
    gi_wp2
    exact⟨HRN.out.2.2.2.2.1.from _,⟨below_both HBK.out HRN.out.2.2.1 HRN.out.2.2.2.2.1.size,HRN.out.2.2.2.1.cell.trans hPW.out.cell.symm⟩,⟨_,HRN.out.1,by rw [List.map_append,List.length_append];simpa [I8s,HFX.out] using HRN.out.2.1,trivial⟩,HRN.out.2.2.1,HRN.out.2.2.2.1⟩
   exact AllReadyH.nil
  exact AllReadyH.nil
 case done =>
  rintro D ls W hD rfl ⟨⟨v,hv,hrow, -⟩,hB,hP⟩ hK
  rw [List.length_range] at hrow
  obtain⟨A2,c2,rfl, -, -, -⟩:=Kit.zam hrow
  have hcv:=hv.cell
  obtain⟨⟨r0,r1,r2,r3⟩,r4,r5,r6,r7⟩:=FR.out.below (show w.heap.size+3 < g by omega) hB
  obtain⟨ta0,ta1,ta2,ta3⟩:=TA.out.below (show w.heap.size < g by omega) hB
  have HROW:Hid (W.ownsRow g 39 1 (.slice A2 N c2) N (I8s (rowL F N))):=hid hrow
  have HBD:=hid (HBW.out.trans (hB.mono (by omega)))
  have hWs:g+4≤W.heap.size:=by have:=hB.size;omega
  have HK:=hid hK
  clear hrow hv hB hP hK TA FR HN5 HRA HRB HBW BP2 BD HR0 bP1
  go_wp2_with fail
  have hk:=((((KeepsOthers.setCell W ⟨w.heap.size+3,0,none⟩ (.int .i64 H)).trans (KeepsOthers.setCell _ ⟨w.heap.size+3,1,none⟩ (.int .i64 W0))).trans (KeepsOthers.setCell _ ⟨w.heap.size+3,2,none⟩ (.int .i64 C))).trans (KeepsOthers.setCell _ ⟨w.heap.size+3,3,none⟩ (.slice A2 N c2))).same D _ HK.out rfl
  refine⟨by simp,.inl ⟨_,_,rfl,run_takeDeferred hk,?_⟩⟩
  refine⟨_,Kit.zaa rfl _ _ (w.heap.size+3) 0 [.int .i64 H,.int .i64 W0,.int .i64 C,.slice A2 N c2] _ rfl (range_put (zan (by go_cell) (by go_cell) (by go_cell) (by go_cell)) _ hk) Tryz.underlying27 rfl (by kernel_rfl),?_⟩
  refine⟨_,rfl,Kit.zah (ownsRow_putObj (za3 HROW.out ?_) _ hk rfl) ?_,?_⟩
  any_goals (first | omega | (simp;done) | (simp;omega))
  exact ((((HBD.out.setCell (p:=⟨w.heap.size+3,0,none⟩) (by simp) _).setCell (p:=⟨w.heap.size+3,1,none⟩) (by simp) _).setCell (p:=⟨w.heap.size+3,2,none⟩) (by simp) _).setCell (p:=⟨w.heap.size+3,3,none⟩) (by simp) _).trans (belowK_b (w:=w) (le_refl _) _ D _ _ (by omega) hk rfl rfl)
 case stop =>
  rintro D c pre W _ _ h _
  exact h.elim
end CJoin
end
end Go.Proofs.YtahekhpeomcfjaaGreatDoor
