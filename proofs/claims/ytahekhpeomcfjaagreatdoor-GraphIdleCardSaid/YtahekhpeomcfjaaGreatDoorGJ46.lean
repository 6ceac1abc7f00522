/- -/
import Derived.Test.YtahekhpeomcfjaaGreatDoorGJ45
open Go.Lib (hid)
open Nat (le_refl lt_of_succ_lt lt_succ_self)
set_option linter.unusedVariables false
set_option linter.unusedSimpArgs false
set_option maxRecDepth 100000
set_option maxHeartbeats 16000000
namespace Go.Proofs.YtahekhpeomcfjaaGreatDoor
namespace CConv
end CConv
namespace CFix
end CFix
namespace CKind
end CKind
namespace CSat
end CSat
namespace CShape
end CShape
namespace CTensor
end CTensor
open Go Go.ChangeShapes Go.WideShapes Go.ChangeAt Go.RowKit Go.Deep
section
namespace CGraph
open Plain CSat CFix CShape CTensor CConv CKind
theorem zbc {ops:Array Oper} {rest:List Oper} {op:Oper} {a:Act} {w:World} {Q:Exit→Act→World→Prop} (hgd:op.guard=none) (x:Operand) (ho:op.op=.load 44 x)
  (b o:Nat) (u:Nd) (hx:a.eval x=.pointer (some ⟨b,o,none⟩)) (hb:w.rangeAt b o u.val.toList)
  (h:wpList Tryz.prog ops Q rest (a.put op.dst (.agg u.val)) w):wpList Tryz.prog ops Q (op :: rest) a w :=
 wpList_load_mid hgd 44 x ho b o hx u.val.toList _ hb Tryz.underlying44 rfl (by kernel_rfl) h
theorem info_parts {P:Program} {t:TypeId} {z:Option Value} {s b:Nat} (h:(P.info? t).map (fun i=>(i.zero,i.size,i.bytes))=some (z,s,b)):∃ i,P.info? t=some i∧i.zero=z∧i.size=s∧i.bytes=b:=by
 cases hi:P.info? t with
 | none=>rw [hi] at h;cases h
 | some i=>rw [hi] at h;simp at h;exact⟨i,rfl,h.1,h.2.1,h.2.2⟩
theorem info_sh3:(Tryz.prog.info? 24).map (fun i=>(i.zero,i.size,i.bytes))=some (some (.agg #[.int .i64 0,.int .i64 0,.int .i64 0]),3,24):=by kernel_rfl
theorem own_new3 (w:World) (base:Nat) (hb:base≤w.heap.size) (t:Tri):(w.alloc (.cells #[.int .i64 t.1,.int .i64 t.2.1,.int .i64 t.2.2] 24)).ownsRow base 24 3 (.slice (some ⟨w.heap.size,0,none⟩) 1 1) 1 (tvV [t]) :=
 ⟨rfl,.inr ⟨w.heap.size,1,_,rfl,hb,heap_alloc_new w _,le_refl _,by unfold maxLen;omega,rfl,rfl⟩⟩
def ThrPost (X:Nat→Nd) (t0:Tri) (n:Nat) (w:World) (e:Ending) (w':World):Prop :=
 ((∃ k z,zbh X t0 n=some (k,z)∧e=.returned (.tuple #[.slice none 0 0,.int .i64 (k:Int),.int .i64 z])) ∨
   (zbh X t0 n=none∧∃ v,e=.returned (.tuple #[v,.int .i64 (n:Int),.int .i64 0])∧w'.ownsRow w.heap.size 24 3 v (n+1) (tvV (shL X t0 n))))∧Below w.heap.size w w'
theorem rd_new1 (w:World) (o:Obj) (cs:List Value) (T:TypeId):Kit.Rd ((w.alloc o).alloc (.cells cs.toArray T)) (w.heap.size+2) (some ⟨w.heap.size+1,0,none⟩) cs:=by
 have h:Kit.Rd ((w.alloc o).alloc (.cells cs.toArray T)) ((w.alloc o).heap.size+1) (some ⟨(w.alloc o).heap.size,0,none⟩) cs:=Kit.Rd.new _ _ _ (lt_succ_self _)
 have e:(w.alloc o).heap.size=w.heap.size+1:=by simp
 rw [e] at h;exact h
theorem node_small {w:World} {B:Nat} {x:Nd} (h:NdOk w B x):x.Small:=⟨h.z,h.q.2.2.2.2.2.2,h.q.2.2.2.2.1,h.q.2.2.2.2.2.1⟩
theorem through_to (X:Nat→Nd) (t0:Tri) (n c:Nat) (hn:n≤50) (A:Option Addr) (w:World) (hT:NamesIn w) (hX:∀ j,j < n→(X j).Small) (hA:NodesAt w w.heap.size A n X) :
  Calls Tryz.prog 26 #[.slice A n c,.agg #[.int .i64 t0.1,.int .i64 t0.2.1,.int .i64 t0.2.2],.func (.func 27) #[] #[]] w (ThrPost X t0 n w):=by
 have HT:=hid hT
 have HX:=hid hX
 have HA:=hid hA
 obtain⟨i0,hi0,hi1,hi2,hi3⟩:=info_parts info_sh3
 have hO:=own_new3 (w.alloc (.cells #[.int .i64 t0.1,.int .i64 t0.2.1,.int .i64 t0.2.2] 24)) w.heap.size (by simp) t0
 rw [World.size_alloc] at hO
 have HO0:=hid hO
 have HB0:=hid (((Below.refl w.heap.size w).alloc (le_refl _) (.cells #[.int .i64 t0.1,.int .i64 t0.2.1,.int .i64 t0.2.2] 24)).alloc (by simp) (.cells #[.int .i64 t0.1,.int .i64 t0.2.1,.int .i64 t0.2.2] 24))
 clear hT hX hA hO
 go_enter Tryz.func26,Tryz.ntmps26
 go_wp2_with fail
 generalize (w.alloc (.cells #[.int .i64 t0.1,.int .i64 t0.2.1,.int .i64 t0.2.2] 24)).alloc (.cells #[.int .i64 t0.1,.int .i64 t0.2.1,.int .i64 t0.2.2] 24)=W0 at HO0 HB0 ⊢
 go_loopw [9,18] (fun v u wr=>∃ k:Nat,k≤n∧u=.int .i64 k∧Hid (zbh X t0 k=none)∧Hid (wr.ownsRow w.heap.size 24 3 v (k+1) (tvV (shL X t0 k)))∧Hid (Below w.heap.size w wr)) (fun _ u _=>n - (intOf u).toNat)
 case atStart=>exact⟨0,Nat.zero_le _,rfl,hid rfl,HO0,HB0⟩
 case round =>
  obtain⟨k,hk,rfl,hst,HO,HB⟩:=hrel
  clear HO0 HB0
  by_cases hlt:k < n
  ·obtain⟨Av,cv,rfl, -, -,hrd⟩:=Kit.zam HO.out
   obtain⟨ba,oa,rfl,hba,hra⟩:=(HA.out.below HB.out) k hlt
   have k0:(0:Int)≤(k:Int):=by omega
   have k1:(k:Int) < (n:Int):=by omega
   have HRA:=hid hra
   obtain⟨z,hz⟩:∃ z,stopZ (X k) (shL X t0 k)=z:=⟨_,rfl⟩
   have hcn:∀ wx:World,Below wr.heap.size wr wx→Calls Tryz.prog 27 #[.slice Av (k+1) cv,.agg (X k).val] wx fun r w'=>∃ u:Tri,r=.returned (.tuple #[.agg #[.int .i64 u.1,.int .i64 u.2.1,.int .i64 u.2.2],.int .i64 z])∧(z=0→u=nextT (X k) (shL X t0 k))∧Below wx.heap.size wx w':=by
    intro wx hb
    have h:=next_to (X k) (HX.out k hlt) (shL X t0 k) (k+1) cv (shL_len X t0 k) (by omega) Av wx (HT.out.below (HB.out.trans (hb.mono HB.out.size)) HT.out.size) ((hrd.below hb).more hb.size)
    unfold NextPost at h
    rw [hz] at h
    exact h
   have CN:=hid hcn
   have HZ:=hid hz
   clear hcn hz hrd hra hba
   by_cases hz0:z=0
   ·subst hz0
    have hgo:=stopAt_go hst.out HZ.out
    have HGO:=hid hgo
    clear hgo
    go_wp2_with (first
     | (refine zbc rfl _ rfl ba (oa+k * 19) (X k) rfl HRA.out ?_)
     | (refine zas rfl _ _ rfl wr.heap.size nd0 (X k) rfl rfl (NdBox.new nd0 _ wr) ?_
        intro w1 hbx hbl hsz
        have HBX:=hid hbx
        have hh:Below wr.heap.size wr w1:=((Below.refl _ _).alloc (le_refl _) _).trans hbl
        have HB1:=hid (HB.out.trans (hh.mono HB.out.size))
        have HH:=hid hh
        have HO1:=hid (Kit.own_below HO.out hh)
        clear hbx hbl hsz hh)
     | (refine zak rfl _ rfl wr.heap.size (X k) rfl HBX.out.1 ?_)
     | (go_at_call 27
        refine (CN.out _ HH.out).mono ?_
        rintro e w2 ⟨u,rfl,hu,hb⟩
        have hue:=hu rfl
        have HUE:=hid hue
        have HB2:=hid (HB1.out.trans (hb.mono HB1.out.size))
        have HO2:=hid (Kit.own_below HO1.out hb)
        clear hu hue hb)
     | (at_builtin
        refine Kit.zal _ rfl (.tmp 34) (.tmp 36) _ rfl w.heap.size 24 i0 (.agg #[.int .i64 0,.int .i64 0,.int .i64 0]) 3 24 Tryz.underlying67 hi0 hi1 hi2 hi3 rfl (by decide) _ (k+1) (tvV (shL X t0 k)) rfl ((HO2.out.alloc _).alloc _) _ _ 1 1 [.int .i64 u.1,.int .i64 u.2.1,.int .i64 u.2.2] rfl rfl (rd_new1 _ _ _ _) (Kit.zbj .i64 [u.1,u.2.1,u.2.2]) (by unfold maxLen;omega) (by omega) (by have:=HB2.out.size;simp;omega) ?_
        intro v3 w3 hown3 hg3 hat3
        have hB3:Below w.heap.size w w3:=((HB2.out.alloc HB2.out.size _).alloc (by have:=HB2.out.size;simp;omega) _).grown hg3 (by have:=HB2.out.size;simp;omega) (fun q hq=>Kit.zaj HO2.out q hq)
        have e:tvV (shL X t0 k) ++ [.int .i64 u.1,.int .i64 u.2.1,.int .i64 u.2.2]=tvV (shL X t0 (k+1)):=by rw [shL,tvV_append, ← HUE.out];rfl
        rw [e] at hown3
        have HO3:=hid hown3
        have HB3:=hid hB3
        clear hown3 hg3 hat3 hB3 e))
    go_roundw
    case rel=>exact⟨k+1,by omega,by go_num,HGO,HO3,HB3⟩
    case measure=>simp [intOf];omega
   ·have hz1:(z != 0)=true:=by simpa using hz0
    have hend:=stopAt_end hlt hst.out (by rw [HZ.out];exact hz0)
    rw [HZ.out] at hend
    have HEND:=hid hend
    clear hend
    go_wp2_with (first
     | (refine zbc rfl _ rfl ba (oa+k * 19) (X k) rfl HRA.out ?_)
     | (refine zas rfl _ _ rfl wr.heap.size nd0 (X k) rfl rfl (NdBox.new nd0 _ wr) ?_
        intro w1 hbx hbl hsz
        have HBX:=hid hbx
        have hh:Below wr.heap.size wr w1:=((Below.refl _ _).alloc (le_refl _) _).trans hbl
        have HB1:=hid (HB.out.trans (hh.mono HB.out.size))
        have HH:=hid hh
        clear hbx hbl hsz hh)
     | (refine zak rfl _ rfl wr.heap.size (X k) rfl HBX.out.1 ?_)
     | (go_at_call 27
        refine (CN.out _ HH.out).mono ?_
        rintro e w2 ⟨u,rfl,hu,hb⟩
        have HB2:=hid (HB1.out.trans (hb.mono HB1.out.size))
        clear hu hb))
    go_ret3
    exact⟨.inl ⟨k,z,HEND.out,rfl⟩,HB2.out.alloc HB2.out.size _⟩
  ·obtain rfl:k=n:=by omega
   go_wp2_with fail
   go_ret3
   exact⟨.inr ⟨hst.out,_,rfl,HO.out⟩,HB.out⟩
end CGraph
end
section
namespace CAct
open Plain CSat CFix CShape CTensor CConv
theorem all_of_c (A:Option Addr) (zs:List Int) (n c:Nat) (hn:zs.length=n) (hn6:n≤1000000) (hz:I32s zs) (x0 x1 x2:Value) (K S P O Z Y:Int) (WA BA:Option Addr) (nW cW nB cB:Nat) (m1 s1 z1 m2 s2 z2 lo hi:Int) (hnb:NBd Z Y m1 z1 m2 z2 lo hi) (hq:za0 m1 s1=true) (w:World) (hr:Kit.Rd w w.heap.size A (I32v zs)) :
  Calls Tryz.prog 130 #[.slice A n c,.agg #[.int .i32 m1,.int .i64 s1,.int .i8 z1],.int .i8 lo,.int .i8 hi] w (fun e w'=>∃ v,e=.returned v∧w'.ownsRow w.heap.size 39 1 v n (I8s (zs.map fun a=>heldZ a m1 s1 z1 lo hi))∧Below w.heap.size w w'):=by
 obtain⟨-, -,⟨hm3,hm1⟩,⟨hz1,hz2⟩, -, -,⟨hl1,hl2⟩,⟨hh1,hh2⟩⟩:=hnb
 subst hn
 exact all_yes A zs c m1 s1 z1 lo hi hq hn6 hz hm3 hm1 hz1 hz2 hl1 hl2 hh1 hh2 _ rfl w hr
theorem aput_yes (H W C:Int) (A:Option Addr) (zs:List Int) (n c:Nat) (hn:zs.length=n) (hn6:n≤1000000) (hz:I32s zs) (x0 x1 x2:Value) (K S P O Z Y:Int) (WA BA:Option Addr) (nW cW nB cB:Nat) (m1 s1 z1 m2 s2 z2 lo hi:Int) (hnb:NBd Z Y m1 z1 m2 z2 lo hi) (h1:tensB H W C n=true) (hq:za0 m1 s1=true) (w:World) (hr:Kit.Rd w w.heap.size A (I32v zs)) :
  Calls Tryz.prog 97 #[.agg #[.int .i64 H,.int .i64 W,.int .i64 C,.slice A n c],.agg #[x0,x1,x2,.int .i64 K,.int .i64 S,.int .i64 P,.int .i64 O,.int .i8 Z,.int .i8 Y,.slice WA nW cW,.slice BA nB cB,.int .i32 m1,.int .i64 s1,.int .i8 z1,.int .i32 m2,.int .i64 s2,.int .i8 z2,.int .i8 lo,.int .i8 hi]] w (MadeT w H W C n (zs.map fun a=>heldZ a m1 s1 z1 lo hi) (.int .i64 0)):=by
 have HT1:=hid h1
 have HQ:=hid hq
 have HN:=hid hn
 have HZ:=hid hz
 have HNB:=hid hnb
 have HRA:=hid hr
 clear h1 hq hn hz hnb hr
 go_enter Tryz.func97,Tryz.ntmps97
 go_wp2_with (first
 | (go_at_call 129
    have hal:Below w.heap.size w (((w.alloc (.cells #[.int .i64 H,.int .i64 W,.int .i64 C,.slice A n c] 83)).alloc (.cells #[x0,x1,x2,.int .i64 K,.int .i64 S,.int .i64 P,.int .i64 O,.int .i8 Z,.int .i8 Y,.slice WA nW cW,.slice BA nB cB,.int .i32 m1,.int .i64 s1,.int .i8 z1,.int .i32 m2,.int .i64 s2,.int .i8 z2,.int .i8 lo,.int .i8 hi] 44)).alloc (.cells #[.int .i64 0,.int .i64 0,.int .i64 0,.slice none 0 0] 27)):=(((Below.refl _ _).alloc (by first | exact le_refl _ | (simp;done) | (simp;omega)) _).alloc (by first | exact le_refl _ | (simp;done) | (simp;omega)) _).alloc (by first | exact le_refl _ | (simp;done) | (simp;omega)) _
    refine (rsums_to H W C A n c true HT1.out _).mono ?_
    rintro e w1 ⟨rfl,hb⟩
    have hh:Below w.heap.size w w1:=hal.trans (hb.mono hal.size)
    have qTA:=(zbd H W C A n c 83) w
    try simp only [World.size_alloc] at qTA
    have TA:=hid ((qTA.below (B':=w.heap.size+1) (by omega) ((((Below.refl _ _).alloc (by first | exact le_refl _ | (simp;done) | (simp;omega)) _).alloc (by first | exact le_refl _ | (simp;done) | (simp;omega)) _).mono (by simp))).below (by first | (simp;done) | (simp;omega)) hb)
    have yTA:w.heap.size < w1.heap.size:=by have:=hb.size;simp at this;omega
    clear qTA
    have qTN:=(zai.new x0 x1 x2 (.int .i8 Y) (.int .i32 m1) (.int .i64 s1) (.int .i8 z1) (.int .i32 m2) (.int .i64 s2) (.int .i8 z2) (.int .i8 lo) (.int .i8 hi) K S P O Z WA BA nW cW nB cB 44) (w.alloc (.cells #[.int .i64 H,.int .i64 W,.int .i64 C,.slice A n c] 83))
    try simp only [World.size_alloc] at qTN
    have TN:=hid ((qTN.below (B':=w.heap.size+2) (by omega) (((Below.refl _ _).alloc (by first | exact le_refl _ | (simp;done) | (simp;omega)) _).mono (by simp))).below (by first | (simp;done) | (simp;omega)) hb)
    have yTN:w.heap.size+1 < w1.heap.size:=by have:=hb.size;simp at this;omega
    clear qTN
    have qFR:=(za5 27) ((w.alloc (.cells #[.int .i64 H,.int .i64 W,.int .i64 C,.slice A n c] 83)).alloc (.cells #[x0,x1,x2,.int .i64 K,.int .i64 S,.int .i64 P,.int .i64 O,.int .i8 Z,.int .i8 Y,.slice WA nW cW,.slice BA nB cB,.int .i32 m1,.int .i64 s1,.int .i8 z1,.int .i32 m2,.int .i64 s2,.int .i8 z2,.int .i8 lo,.int .i8 hi] 44))
    try simp only [World.size_alloc] at qFR
    have FR:=hid (qFR.below (by first | (simp;done) | (simp;omega)) hb)
    have yFR:w.heap.size+2 < w1.heap.size:=by have:=hb.size;simp at this;omega
    clear qFR
    replace HRA:=hid ((HRA.out.below hh).more hh.size)
    have HBW:Hid (Below w.heap.size w w1):=hid hh
    obtain⟨tap0,tap1,tap2,tap3⟩:=TA.out
    have n11:=TN.out.at 11 _ rfl
    have n12:=TN.out.at 12 _ rfl
    have n13:=TN.out.at 13 _ rfl
    clear hb hh hal)
 | (go_at_call 74
    have hal:Below w1.heap.size w1 w1:=Below.refl _ _
    refine (zbp _ _ _ _).mono ?_
    rintro e w2 ⟨rfl,hb⟩
    have hh:Below w1.heap.size w1 w2:=hal.trans (hb.mono hal.size)
    replace TA:=hid (TA.out.below yTA hh)
    replace yTA:=Nat.lt_of_lt_of_le yTA hh.size
    replace TN:=hid (TN.out.below yTN hh)
    replace yTN:=Nat.lt_of_lt_of_le yTN hh.size
    replace FR:=hid (FR.out.below yFR hh)
    replace yFR:=Nat.lt_of_lt_of_le yFR hh.size
    replace HRA:=hid ((HRA.out.below hh).more hh.size)
    replace HBW:=hid (HBW.out.trans (hh.mono HBW.out.size))
    clear tap0 tap1 tap2 tap3 n11 n12 n13
    rw [HQ.out]
    obtain⟨tap0,tap1,tap2,tap3⟩:=TA.out
    have n11:=TN.out.at 11 _ rfl
    have n12:=TN.out.at 12 _ rfl
    have n13:=TN.out.at 13 _ rfl
    clear hb hh hal))
 clear tap0 tap1 tap2 tap3 n11 n12 n13
 refine wp_region_held_drew (S:=fun w'=>BoxAt w.heap.size H W C A n c w'∧zai (w.heap.size+1) x0 x1 x2 (.int .i8 Y) (.int .i32 m1) (.int .i64 s1) (.int .i8 z1) (.int .i32 m2) (.int .i64 s2) (.int .i8 z2) (.int .i8 lo) (.int .i8 hi) K S P O Z WA BA nW cW nB cB w') (by kernel_rfl) ⟨TA.out,TN.out⟩ (fun hHeld=>?_)
 replace HBW:Hid (Below w.heap.size w w2.drew):=hid HBW.out.drew
 replace HRA:Hid (Kit.Rd w2.drew w2.drew.heap.size A (I32v zs)):=hid (HRA.out.below ((Below.refl _ _).drew))
 replace FR:Hid (zbm (w.heap.size+2) w2.drew):=FR
 replace yFR:w.heap.size+2 < w2.drew.heap.size:=yFR
 replace TA:Hid (BoxAt w.heap.size H W C A n c w2.drew):=TA
 replace TN:Hid (zai (w.heap.size+1) x0 x1 x2 (.int .i8 Y) (.int .i32 m1) (.int .i64 s1) (.int .i8 z1) (.int .i32 m2) (.int .i64 s2) (.int .i8 z2) (.int .i8 lo) (.int .i8 hi) K S P O Z WA BA nW cW nB cB w2.drew):=TN
 generalize w2.drew=V1 at HBW HRA FR yFR TA TN hHeld ⊢
 refine Tk.x 0 rfl ?_
 try simp only [Tk.put]
 refine Tk.y 1 (v:=?_) rfl ?_ ?_
 rotate_left
 ·intro wS hSw
  obtain⟨hq1,hq2⟩:=hSw
  obtain⟨s1,s2,s3,s4⟩:=hq1;clear hq2
  first | (go_simp;done) | (go_simp;with_reducible rfl)
 try simp only [Tk.put]
 refine Tk.x 2 rfl ?_
 try simp only [Tk.put]
 refine Tk.y 3 (v:=?_) rfl ?_ ?_
 rotate_left
 ·intro wS hSw
  obtain⟨hq1,hq2⟩:=hSw
  obtain⟨s1,s2,s3,s4⟩:=hq1;clear hq2
  first | (go_simp;done) | (go_simp;with_reducible rfl)
 try simp only [Tk.put]
 refine Tk.x 4 rfl ?_
 try simp only [Tk.put]
 refine Tk.y 5 (v:=?_) rfl ?_ ?_
 rotate_left
 ·intro wS hSw
  obtain⟨hq1,hq2⟩:=hSw
  have q11:=hq2.at 11 _ rfl;have q12:=hq2.at 12 _ rfl;have q13:=hq2.at 13 _ rfl;clear hq1 hq2
  first | (go_simp;done) | (go_simp;with_reducible rfl)
 try simp only [Tk.put]
 refine Tk.x 6 rfl ?_
 try simp only [Tk.put]
 refine Tk.y 7 (v:=?_) rfl ?_ ?_
 rotate_left
 ·intro wS hSw
  obtain⟨hq1,hq2⟩:=hSw
  have q17:=hq2.at 17 _ rfl;clear hq1 hq2
  first | (go_simp;done) | (go_simp;with_reducible rfl)
 try simp only [Tk.put]
 refine Tk.x 8 rfl ?_
 try simp only [Tk.put]
 refine Tk.y 9 (v:=?_) rfl ?_ ?_
 rotate_left
 ·intro wS hSw
  obtain⟨hq1,hq2⟩:=hSw
  have q18:=hq2.at 18 _ rfl;clear hq1 hq2
  first | (go_simp;done) | (go_simp;with_reducible rfl)
 try simp only [Tk.put]
 refine Tk.s 10 rfl (fun Kq hK=>?_)
 go_simp
 go_at_call 130
 refine (all_of_c A zs n c HN.out hn6 HZ.out x0 x1 x2 K S P O Z Y WA BA nW cW nB cB m1 s1 z1 m2 s2 z2 lo hi HNB.out HQ.out V1 HRA.out).mono ?_
 rintro e V2 ⟨v3,rfl,ho3,hb1⟩
 obtain⟨A3,c3,rfl, -, -, -⟩:=Kit.zam ho3
 have HO3:=hid ho3
 have HGE:Hid (w.heap.size≤V1.heap.size):=hid HBW.out.size
 have HGT:Hid (w.heap.size+2 < V1.heap.size):=hid yFR
 replace FR:=hid (FR.out.below yFR hb1)
 replace TA:=hid (TA.out.below (Nat.lt_of_le_of_lt (Nat.le_add_right _ 2) yFR) hb1)
 replace TN:=hid (TN.out.below (Nat.lt_of_le_of_lt (Nat.le_succ _) yFR) hb1)
 replace HBW:=hid (HBW.out.trans (hb1.mono HBW.out.size))
 replace yFR:=Nat.lt_of_lt_of_le yFR hb1.size
 clear hHeld hb1 ho3
 dsimp only
 refine hK.out _ _ ?_ (fun hHeld=>?_)
 ·exact⟨TA.out,TN.out⟩
 clear hK Kq
 try simp only [Tk.put]
 refine Tk.x 11 rfl ?_
 try simp only [Tk.put]
 obtain⟨⟨z0,z1',z2',z3⟩,z4,z5,z6,z7⟩:=FR.out
 have hb9:∀ x y z u:Value,Below (w.heap.size+2) V2 ((((V2.setCell ⟨w.heap.size+2,0,none⟩ x).setCell ⟨w.heap.size+2,1,none⟩ y).setCell ⟨w.heap.size+2,2,none⟩ z).setCell ⟨w.heap.size+2,3,none⟩ u):=fun x y z u=>(((((Below.refl _ _).setCell (p:=⟨w.heap.size+2,0,none⟩) (le_refl _) _).setCell (p:=⟨w.heap.size+2,1,none⟩) (le_refl _) _).setCell (p:=⟨w.heap.size+2,2,none⟩) (le_refl _) _).setCell (p:=⟨w.heap.size+2,3,none⟩) (le_refl _) _)
 have HB9:=hid hb9
 clear hb9
 refine Tk.s 12 rfl (fun Kq hK=>?_)
 go_simp
 refine hK.out _ _ ?_ (fun hHeld=>?_)
 ·exact⟨TA.out.below (by omega) (HB9.out _ _ _ _),TN.out.below (by omega) (HB9.out _ _ _ _)⟩
 clear hK Kq
 try simp only [Tk.put]
 refine Tk.x 13 rfl ?_
 try simp only [Tk.put]
 refine wpAnyH_done (by kernel_rfl) ?_ _
 clear hHeld
 go_wp2_with fail
 refine bodyPost_ret (Kit.zaa rfl _ _ (w.heap.size+2) 0 [.int .i64 H,.int .i64 W,.int .i64 C,.slice A3 n c3] _ rfl (zan (by go_cell) (by go_cell) (by go_cell) (by go_cell)) Tryz.underlying27 rfl (by kernel_rfl)) rfl ?_
 refine⟨_,rfl,Kit.zah (za3 HO3.out ?_) ?_,?_⟩
 any_goals (first | exact HGE.out | exact HGT.out | omega | (simp;done) | (simp;omega))
 exact (((HBW.out.setCell (p:=⟨w.heap.size+2,0,none⟩) (by simp) _).setCell (p:=⟨w.heap.size+2,1,none⟩) (by simp) _).setCell (p:=⟨w.heap.size+2,2,none⟩) (by simp) _).setCell (p:=⟨w.heap.size+2,3,none⟩) (by simp) _
end CAct
end
end Go.Proofs.YtahekhpeomcfjaaGreatDoor
