/- -/
import Derived.Test.YtahekhpeomcfjaaGreatDoorGJ49
import Derived.Test.YtahekhpeomcfjaaGreatDoorGJ50
open Go.Lib (hid)
open Nat (le_refl lt_of_succ_lt lt_succ_self)
set_option linter.unusedVariables false
set_option linter.unusedSimpArgs false
set_option maxRecDepth 100000
set_option maxHeartbeats 16000000
namespace Go.Proofs.YtahekhpeomcfjaaGreatDoor
namespace CConv
end CConv
namespace CFix
end CFix
namespace CKind
end CKind
namespace CSat
end CSat
namespace CShape
end CShape
namespace CTensor
end CTensor
open Go Go.ChangeShapes Go.WideShapes Go.ChangeAt Go.RowKit Go.Deep
section
namespace CGraph
open Plain CSat CFix CShape CTensor CConv CKind CRun
theorem stopAt_ne {X:Nat→Nd} {t0:Tri} {k:Nat} {z:Int} : ∀ n,zbh X t0 n=some (k,z)→z≠0
 | 0,h=>by simp [zbh] at h
 | n+1,h=>by
   simp only [zbh] at h
   cases hs:zbh X t0 n with
   | some r=>rw [hs] at h;simp at h;exact stopAt_ne n (by rw [hs,h])
   | none =>
     rw [hs] at h
     by_cases hz:stopZ (X n) (shL X t0 n)=0
     ·simp [hz] at h
     ·simp [hz] at h;rw [← h.2];exact hz
theorem stopR_ne {R:Nat→Res} {k:Nat} {z:Int} : ∀ n,stopR R n=some (k,z)→z≠0
 | 0,h=>by simp [stopR] at h
 | n+1,h=>by
   simp only [stopR] at h
   cases hs:stopR R n with
   | some r=>rw [hs] at h;simp at h;exact stopR_ne n (by rw [hs,h])
   | none =>
     rw [hs] at h
     by_cases hz:(R n).er=0
     ·simp [hz] at h
     ·simp [hz] at h;rw [← h.2];exact hz
theorem outS_ne {X:Nat→Nd} {t0:Tri} {n:Nat} {k z:Int} (h:outS X t0 n=some (k,z)):z≠0:=by
 unfold outS at h
 split at h
 ·simp at h;omega
 ·split at h
  ·simp at h;omega
  ·split at h
   ·simp at h;omega
   ·cases hs:zbh X t0 n with
    | none=>rw [hs] at h;cases h
    | some r=>rw [hs] at h;simp at h;exact stopAt_ne (k:=r.1) n (by rw [hs, ← h.2])
def stopV (b:Bool) (o:Option (Int × Int)) (r:Option (Nat × Int)):Option (Int × Int):=if b=false then some (-1,5) else match o with | some x=>some x | none=>r.map fun q=>((q.1:Int),q.2)
theorem tn_cells (a b c:Int) (A:Option Addr) (m d:Nat) (w:World):(w.alloc (.cells #[.int .i64 a,.int .i64 b,.int .i64 c,.slice A m d] 27)).cell? ⟨w.heap.size,0,none⟩=some (.int .i64 a)∧(w.alloc (.cells #[.int .i64 a,.int .i64 b,.int .i64 c,.slice A m d] 27)).cell? ⟨w.heap.size,1,none⟩=some (.int .i64 b)∧(w.alloc (.cells #[.int .i64 a,.int .i64 b,.int .i64 c,.slice A m d] 27)).cell? ⟨w.heap.size,2,none⟩=some (.int .i64 c)∧(w.alloc (.cells #[.int .i64 a,.int .i64 b,.int .i64 c,.slice A m d] 27)).cell? ⟨w.heap.size,3,none⟩=some (.slice A m d) :=
 ⟨by rw [Kit.zaf];rfl,by rw [Kit.zaf];rfl,by rw [Kit.zaf];rfl,by rw [Kit.zaf];rfl⟩
theorem zbq (w:World):(w.alloc (.cells #[.int .i64 0,.int .i64 0,.int .i64 0,.slice none 0 0] 27)).there w.heap.size 0 4:=by
 intro j hj
 rw [Nat.zero_add]
 refine⟨?_,?_⟩
 ·rw [Kit.zaf]
  match j,hj with
  | 0,_=>rfl
  | 1,_=>rfl
  | 2,_=>rfl
  | 3,_=>rfl
 ·have hh:(w.alloc (.cells #[.int .i64 0,.int .i64 0,.int .i64 0,.slice none 0 0] 27)).heap[w.heap.size]?=some (.cells #[.int .i64 0,.int .i64 0,.int .i64 0,.slice none 0 0] 27):=heap_alloc_new _ _
  simp only [World.frozen?,hh]
  rfl
def ValsPost (b:Bool) (o:Option (Int × Int)) (Q:Nat→Ten) (R:Nat→Res) (n:Nat) (w:World) (e:Ending) (w':World):Prop :=
 ((∃ k z,stopV b o (stopR R n)=some (k,z)∧e=.returned (.tuple #[.slice none 0 0,.int .i64 k,.int .i64 z])) ∨
   (stopV b o (stopR R n)=none∧∃ v L,e=.returned (.tuple #[v,.int .i64 (n:Int),.int .i64 0])∧RowOf w' Q (n+1) L∧w'.ownsRow w.heap.size 27 4 v (n+1) (vlV L)))∧Below w.heap.size w w'
structure BlockIn (Y:Nat→Nd) (WS BS:Nat→List Int) (n:Nat) (A:Option Addr) (w:World):Prop where
 names:NamesIn w
 nodes:NodesAt w w.heap.size A n Y
 lists:ListsIn Y WS BS n w
theorem BlockIn.grown {Y:Nat→Nd} {WS BS:Nat→List Int} {n:Nat} {A:Option Addr} {w w':World} (h:BlockIn Y WS BS n A w) (hb:Below w.heap.size w w'):BlockIn Y WS BS n A w':=⟨h.names.grown hb,(h.nodes.below hb).more hb.size,h.lists.grown hb⟩
theorem shp_two {Y:Nat→Nd} {t0:Tri} {n:Nat} {e:Ending} {P:Value→Prop} (h:(∃ k z,outS Y t0 n=some (k,z)∧e=.returned (.tuple #[.slice none 0 0,.int .i64 k,.int .i64 z]))∨(outS Y t0 n=none∧∃ v,e=.returned (.tuple #[v,.int .i64 (n:Int),.int .i64 0])∧P v)) :
  (∃ k z,Hid (outS Y t0 n=some (k,z))∧(z != 0)=true∧¬ z=0∧e=.returned (.tuple #[.slice none 0 0,.int .i64 k,.int .i64 z]))∨(Hid (outS Y t0 n=none)∧∃ v,e=.returned (.tuple #[v,.int .i64 (n:Int),.int .i64 0])):=by
 rcases h with ⟨k,z,hs,he⟩ | ⟨hs,v,he, -⟩
 ·exact .inl ⟨k,z,hid hs,by simpa using outS_ne hs,outS_ne hs,he⟩
 ·exact .inr ⟨hid hs,v,he⟩
theorem cvals_to (X Y:Nat→Nd) (WS BS:Nat→List Int) (Q:Nat→Ten) (R:Nat→Res) (ia ib:Nat→Nat) (n c:Nat) (hn:n≤50) (t0:Tri) (zs:List Int) (m cm:Nat) (DA:Option Addr) (hlen:zs.length=m) (hm6:m≤1000000) (h8:I8b zs) (b:Bool) (hb:tensB t0.1 t0.2.1 t0.2.2 m=b)
  (hS:outS Y t0 n=none→SeqOf X Y WS BS n Q R ia ib) (hq0:Q 0=⟨t0.1,t0.2.1,t0.2.2,zs⟩) (A:Option Addr) (w:World) (hX:∀ j,j < n→(Y j).Small) (hI:BlockIn Y WS BS n A w) (hD:Kit.Rd w w.heap.size DA (I8s zs)) :
  Calls Tryz.prog 7 #[.slice A n c,.agg #[.int .i64 t0.1,.int .i64 t0.2.1,.int .i64 t0.2.2,.slice DA m cm]] w (ValsPost b (outS Y t0 n) Q R n w):=by
 obtain⟨q0,q1,q2,q3⟩:=tn_cells t0.1 t0.2.1 t0.2.2 DA m cm w
 have HB0:=hid ((Below.refl w.heap.size w).alloc (le_refl _) (.cells #[.int .i64 t0.1,.int .i64 t0.2.1,.int .i64 t0.2.2,.slice DA m cm] 27))
 have hsz:w.heap.size < (w.alloc (.cells #[.int .i64 t0.1,.int .i64 t0.2.1,.int .i64 t0.2.2,.slice DA m cm] 27)).heap.size:=by simp
 have HSZ:=hid hsz
 have HI:=hid hI
 have HX:=hid hX
 have HD:=hid hD
 have HLEN:=hid hlen
 have HM6:=hid hm6
 have H8:=hid h8
 have HSQ:=hid hS
 have HQ0:=hid hq0
 have CR:=hid (fun w:World=>CTensor.zac t0.1 t0.2.1 t0.2.2 DA m cm b hb w)
 clear hI hX hD hlen h8 hS hq0 hsz hb
 go_enter Tryz.func7,Tryz.ntmps7
 go_upto_region 1 with fail
 generalize w.alloc (.cells #[.int .i64 t0.1,.int .i64 t0.2.1,.int .i64 t0.2.2,.slice DA m cm] 27)=W0 at q0 q1 q2 q3 HB0 HSZ ⊢
 cases b with
 | false =>
   go_wp2_with (go_at_call 13;(refine (CR.out _).mono ?_);rintro e w1 ⟨rfl,hb⟩;(have HB1:=hid (HB0.out.trans (hb.mono HB0.out.size)));clear hb)
   go_ret3
   exact⟨.inl ⟨-1,5,rfl,rfl⟩,HB1.out⟩
 | true =>
   go_upto_region 6 with (first
    | (go_at_call 13
       refine (CR.out _).mono ?_
       rintro e w1 ⟨rfl,hb⟩
       have HB1:=hid (HB0.out.trans (hb.mono HB0.out.size))
       have HSZ1:=hid (Nat.lt_of_lt_of_le HSZ.out hb.size)
       have g0:=(hb.cell (p:=⟨w.heap.size,0,none⟩) HSZ.out).trans q0
       have g1:=(hb.cell (p:=⟨w.heap.size,1,none⟩) HSZ.out).trans q1
       have g2:=(hb.cell (p:=⟨w.heap.size,2,none⟩) HSZ.out).trans q2
       have g3:=(hb.cell (p:=⟨w.heap.size,3,none⟩) HSZ.out).trans q3
       clear hb q0 q1 q2 q3)
    | (go_at_call 14
       refine (cshapes_to Y t0 n c hn A _ (HI.out.grown HB1.out).names HX.out (HI.out.grown HB1.out).nodes).mono ?_
       rintro e w2 ⟨hres,hb⟩
       have HB2:=hid (HB1.out.trans (hb.mono HB1.out.size))
       have HSZ2:=hid (Nat.lt_of_lt_of_le HSZ1.out hb.size)
       have h0:=(hb.cell (p:=⟨w.heap.size,0,none⟩) HSZ1.out).trans g0
       have h1:=(hb.cell (p:=⟨w.heap.size,1,none⟩) HSZ1.out).trans g1
       have h2:=(hb.cell (p:=⟨w.heap.size,2,none⟩) HSZ1.out).trans g2
       have h3:=(hb.cell (p:=⟨w.heap.size,3,none⟩) HSZ1.out).trans g3
       clear hb g0 g1 g2 g3
       have hres2:=shp_two hres
       clear hres
       rcases hres2 with ⟨k,z,HS,hz1,hz0,rfl⟩ | ⟨HS,v,rfl⟩))
   ·go_ret3
    exact⟨.inl ⟨k,z,by rw [HS.out];rfl,rfl⟩,HB2.out⟩
   ·have HCX:Hid (∀ wS,Below w2.heap.size w2 wS→wS.cell? ⟨w.heap.size,0,none⟩=some (.int .i64 t0.1)∧wS.cell? ⟨w.heap.size,1,none⟩=some (.int .i64 t0.2.1)∧wS.cell? ⟨w.heap.size,2,none⟩=some (.int .i64 t0.2.2)∧wS.cell? ⟨w.heap.size,3,none⟩=some (.slice DA m cm)) :=
     hid (fun wS h=>⟨(h.cell (p:=⟨w.heap.size,0,none⟩) HSZ2.out).trans h0,(h.cell (p:=⟨w.heap.size,1,none⟩) HSZ2.out).trans h1,(h.cell (p:=⟨w.heap.size,2,none⟩) HSZ2.out).trans h2,(h.cell (p:=⟨w.heap.size,3,none⟩) HSZ2.out).trans h3⟩)
    clear h0 h1 h2 h3
    refine wp_region_held_drew (S:=fun w'=>Below w2.heap.size w2 w') (by kernel_rfl) (Below.refl _ _).drew (fun hHeld=>?_)
    generalize w2.drew=W1 at hHeld ⊢
    refine Tk.x 0 rfl ?_
    try simp only [Tk.put]
    refine Tk.y 1 (v:=.agg #[.int .i64 t0.1,.int .i64 t0.2.1,.int .i64 t0.2.2]) rfl ?_ ?_
    ·intro wS hSw
     obtain⟨q0,q1,q2,q3⟩:=HCX.out wS hSw
     first | (go_simp;done) | (go_simp;with_reducible rfl)
    try simp only [Tk.put]
    refine Tk.x 2 rfl ?_
    try simp only [Tk.put]
    refine Tk.y 3 (v:=.slice DA m cm) rfl ?_ ?_
    ·intro wS hSw
     obtain⟨q0,q1,q2,q3⟩:=HCX.out wS hSw
     first | (go_simp;done) | (go_simp;with_reducible rfl)
    try simp only [Tk.put]
    refine wpAnyH_ready (rs:=[4,6]) (by kernel_rfl) (by simp) ?_
    refine Tk.c rfl (fun Kq hK=>?_) (Tk.c rfl (fun Kq hK=>?_) AllReadyH.nil)
    ·skip
     go_simp
     go_at_call 15
     refine (CTensor.sclone DA zs m cm HLEN.out HM6.out (B:=W1.heap.size) _ (le_refl _) ((HD.out.below (HB2.out.trans (hHeld.mono HB2.out.size))).more (HB2.out.trans (hHeld.mono HB2.out.size)).size)).mono ?_
     rintro e W2 ⟨v,rfl,ho,hb⟩
     obtain⟨A2,c2,e2,hc2, -,hr2⟩:=Kit.zam ho
     have hge:∀ ad:Addr,A2=some ad→W1.heap.size≤ad.block:=fun ad e=>Kit.zaj ho ad.block (by rw [e2,e];rfl)
     subst e2
     have HA0:Hid (VOk W2 ⟨t0.1,t0.2.1,t0.2.2,A2,m,c2,zs⟩):=hid ⟨HLEN.out,H8.out,HM6.out,hc2,hr2⟩
     have hS2:=hHeld.trans (hb.mono hHeld.size)
     clear hHeld hb ho hr2 hc2 hge
     dsimp only
     refine hK.out _ _ hS2 (fun hHeld=>?_)
     clear hK Kq hS2
     try simp only [Tk.put]
     refine Tk.x 5 rfl ?_
     try simp only [Tk.put]
     refine Tk.s 6 rfl (fun Kq hK=>?_)
     go_simp
     have HTH:=hid (zbq W2)
     have hbz:=((Below.refl W2.heap.size W2).alloc (le_refl _) (.cells #[.int .i64 0,.int .i64 0,.int .i64 0,.slice none 0 0] 27))
     have hS2:=hHeld.trans (hbz.mono hHeld.size)
     have HBX:Hid (W2.heap.size < (W2.alloc (.cells #[.int .i64 0,.int .i64 0,.int .i64 0,.slice none 0 0] 27)).heap.size):=hid (by simp)
     have HGE:=hid hHeld.size
     have HNE:Hid (∀ ad:Addr,A2=some ad→zs≠[]→some W2.heap.size≠some ad.block):=hid fun ad e hz he=>by
      have:=HA0.out.lt e hz
      injection he with he2
      omega
     replace HA0:=hid (HA0.out.grown hbz)
     generalize hbx:W2.heap.size=bx at *
     generalize W2.alloc (.cells #[.int .i64 0,.int .i64 0,.int .i64 0,.slice none 0 0] 27)=W4 at HTH hS2 HBX HA0 ⊢
     clear hHeld hbx hbz HBX
     refine hK.out _ _ hS2 (fun hHeld=>?_)
     clear hK Kq hS2
     try simp only [Tk.put]
     refine Tk.s 7 rfl (fun Kq hK=>?_)
     rw [if_pos (by rfl)]
     refine wp_store_mid 27 _ _ rfl bx 0 #[.int .i64 t0.1,.int .i64 t0.2.1,.int .i64 t0.2.2,.slice A2 m c2] rfl rfl HTH.out info_tensor (zcl _ _ _ rfl) ?_
     obtain⟨hs1,hs2⟩:=setCells_below (#[.int .i64 t0.1,.int .i64 t0.2.1,.int .i64 t0.2.2,.slice A2 m c2]:Array Value).toList bx 0 W4
     have hS3:=hHeld.trans (hs1.mono HGE.out)
     have HRG:=hid (World.rangeAt_setCells_same W4 bx 0 (#[.int .i64 t0.1,.int .i64 t0.2.1,.int .i64 t0.2.2,.slice A2 m c2]:Array Value).toList HTH.out)
     replace HA0:=hid (HA0.out.apart (setCells_grown (#[.int .i64 t0.1,.int .i64 t0.2.1,.int .i64 t0.2.2,.slice A2 m c2]:Array Value).toList bx 0 W4) HNE.out)
     clear hHeld hs1 hs2 HTH HNE
     generalize W4.setCells bx 0 (#[.int .i64 t0.1,.int .i64 t0.2.1,.int .i64 t0.2.2,.slice A2 m c2]:Array Value).toList=W9 at hS3 HRG HA0 ⊢
     refine hK.out _ _ hS3 (fun hHeld=>?_)
     clear hK Kq hS3
     try simp only [Tk.put]
     refine wpAnyH_done (by kernel_rfl) ?_ _
     have HB9:=hid (HB2.out.trans (hHeld.mono HB2.out.size))
     have c0:=HRG.out 0 _ rfl
     have c1:=HRG.out 1 _ rfl
     have c2x:=HRG.out 2 _ rfl
     have c3:=HRG.out 3 _ rfl
     simp only [Nat.zero_add] at c0 c1 c2x c3
     clear hHeld HCX HGE HRG
     go_wp2_with (first
      | (go_at_call 16
         refine (throughV_to X Y WS BS Q R ia ib n c hn (HSQ.out HS.out) A _ (HI.out.grown HB9.out).names (HI.out.grown HB9.out).nodes (HI.out.grown HB9.out).lists ⟨t0.1,t0.2.1,t0.2.2,A2,m,c2,zs⟩ HA0.out HQ0.out.symm).mono ?_
         rintro e w5 ⟨hres,hb⟩
         have HB5:=hid (HB9.out.trans (hb.mono HB9.out.size))
         have HRES:=hid hres
         clear hb hres c0 c1 c2x c3
         rcases HRES.out with ⟨k,z,hs,rfl⟩ | ⟨hs,v,L,rfl,hrow,hown⟩))
     ·go_ret3
      exact⟨.inl ⟨k,z,by rw [HS.out];simp [stopV,hs],rfl⟩,HB5.out⟩
     ·go_ret3
      exact⟨.inr ⟨by rw [HS.out];simp [stopV,hs],v,L,rfl,hrow,Kit.zah hown HB9.out.size⟩,HB5.out⟩
    ·skip
     go_simp
     have HTH:=hid (zbq W1)
     have hbz:=((Below.refl W1.heap.size W1).alloc (le_refl _) (.cells #[.int .i64 0,.int .i64 0,.int .i64 0,.slice none 0 0] 27))
     have hS2:=hHeld.trans (hbz.mono hHeld.size)
     have HBX:Hid (W1.heap.size < (W1.alloc (.cells #[.int .i64 0,.int .i64 0,.int .i64 0,.slice none 0 0] 27)).heap.size):=hid (by simp)
     have HGE:=hid hHeld.size
     generalize hbx:W1.heap.size=bx at *
     generalize W1.alloc (.cells #[.int .i64 0,.int .i64 0,.int .i64 0,.slice none 0 0] 27)=W2 at HTH hS2 HBX ⊢
     clear hHeld hbx hbz
     refine hK.out _ _ hS2 (fun hHeld=>?_)
     clear hK Kq hS2
     try simp only [Tk.put]
     refine Tk.s 4 rfl (fun Kq hK=>?_)
     go_simp
     go_at_call 15
     refine (CTensor.sclone DA zs m cm HLEN.out HM6.out (B:=W2.heap.size) _ (le_refl _) ((HD.out.below (HB2.out.trans (hHeld.mono HB2.out.size))).more (HB2.out.trans (hHeld.mono HB2.out.size)).size)).mono ?_
     rintro e W4 ⟨v,rfl,ho,hb⟩
     obtain⟨A2,c2,e2,hc2, -,hr2⟩:=Kit.zam ho
     have hge:∀ ad:Addr,A2=some ad→W2.heap.size≤ad.block:=fun ad e=>Kit.zaj ho ad.block (by rw [e2,e];rfl)
     subst e2
     have HA0:Hid (VOk W4 ⟨t0.1,t0.2.1,t0.2.2,A2,m,c2,zs⟩):=hid ⟨HLEN.out,H8.out,HM6.out,hc2,hr2⟩
     have hS2:=hHeld.trans (hb.mono hHeld.size)
     replace HTH:=hid (zc0 HTH.out HBX.out hb)
     have HNE:Hid (∀ ad:Addr,A2=some ad→zs≠[]→some bx≠some ad.block):=hid fun ad e _ he=>by
      have h1:=hge ad e
      have h2:=HBX.out
      injection he with he2
      omega
     clear hHeld hb ho hr2 hc2 hge HBX
     dsimp only
     refine hK.out _ _ hS2 (fun hHeld=>?_)
     clear hK Kq hS2
     try simp only [Tk.put]
     refine Tk.x 5 rfl ?_
     try simp only [Tk.put]
     refine Tk.s 7 rfl (fun Kq hK=>?_)
     rw [if_pos (by rfl)]
     refine wp_store_mid 27 _ _ rfl bx 0 #[.int .i64 t0.1,.int .i64 t0.2.1,.int .i64 t0.2.2,.slice A2 m c2] rfl rfl HTH.out info_tensor (zcl _ _ _ rfl) ?_
     obtain⟨hs1,hs2⟩:=setCells_below (#[.int .i64 t0.1,.int .i64 t0.2.1,.int .i64 t0.2.2,.slice A2 m c2]:Array Value).toList bx 0 W4
     have hS3:=hHeld.trans (hs1.mono HGE.out)
     have HRG:=hid (World.rangeAt_setCells_same W4 bx 0 (#[.int .i64 t0.1,.int .i64 t0.2.1,.int .i64 t0.2.2,.slice A2 m c2]:Array Value).toList HTH.out)
     replace HA0:=hid (HA0.out.apart (setCells_grown (#[.int .i64 t0.1,.int .i64 t0.2.1,.int .i64 t0.2.2,.slice A2 m c2]:Array Value).toList bx 0 W4) HNE.out)
     clear hHeld hs1 hs2 HTH HNE
     generalize W4.setCells bx 0 (#[.int .i64 t0.1,.int .i64 t0.2.1,.int .i64 t0.2.2,.slice A2 m c2]:Array Value).toList=W9 at hS3 HRG HA0 ⊢
     refine hK.out _ _ hS3 (fun hHeld=>?_)
     clear hK Kq hS3
     try simp only [Tk.put]
     refine wpAnyH_done (by kernel_rfl) ?_ _
     have HB9:=hid (HB2.out.trans (hHeld.mono HB2.out.size))
     have c0:=HRG.out 0 _ rfl
     have c1:=HRG.out 1 _ rfl
     have c2x:=HRG.out 2 _ rfl
     have c3:=HRG.out 3 _ rfl
     simp only [Nat.zero_add] at c0 c1 c2x c3
     clear hHeld HCX HGE HRG
     go_wp2_with (first
      | (go_at_call 16
         refine (throughV_to X Y WS BS Q R ia ib n c hn (HSQ.out HS.out) A _ (HI.out.grown HB9.out).names (HI.out.grown HB9.out).nodes (HI.out.grown HB9.out).lists ⟨t0.1,t0.2.1,t0.2.2,A2,m,c2,zs⟩ HA0.out HQ0.out.symm).mono ?_
         rintro e w5 ⟨hres,hb⟩
         have HB5:=hid (HB9.out.trans (hb.mono HB9.out.size))
         have HRES:=hid hres
         clear hb hres c0 c1 c2x c3
         rcases HRES.out with ⟨k,z,hs,rfl⟩ | ⟨hs,v,L,rfl,hrow,hown⟩))
     ·go_ret3
      exact⟨.inl ⟨k,z,by rw [HS.out];simp [stopV,hs],rfl⟩,HB5.out⟩
     ·go_ret3
      exact⟨.inr ⟨by rw [HS.out];simp [stopV,hs],v,L,rfl,hrow,Kit.zah hown HB9.out.size⟩,HB5.out⟩
def EvPost (b:Bool) (o:Option (Int × Int)) (Q:Nat→Ten) (R:Nat→Res) (n:Nat) (w:World) (e:Ending) (w':World):Prop :=
 ((∃ k z,z≠0∧stopV b o (stopR R n)=some (k,z)∧e=.returned (.tuple #[.agg #[.int .i64 0,.int .i64 0,.int .i64 0,.slice none 0 0],.int .i64 k,.int .i64 z])) ∨
   (stopV b o (stopR R n)=none∧∃ a:Val,e=.returned (.tuple #[.agg #[.int .i64 a.X,.int .i64 a.Y,.int .i64 a.U,.slice a.A a.m a.c],.int .i64 (n:Int),.int .i64 0])∧VOk w' a∧a.ten=Q n))∧Below w.heap.size w w'
theorem stopV_ne {b:Bool} {Y:Nat→Nd} {t0:Tri} {R:Nat→Res} {n:Nat} {k z:Int} (h:stopV b (outS Y t0 n) (stopR R n)=some (k,z)):z≠0:=by
 unfold stopV at h
 split at h
 ·simp at h;omega
 ·cases ho:outS Y t0 n with
  | some x=>rw [ho] at h;simp at h;exact outS_ne (k:=k) (by rw [ho,h])
  | none =>
    rw [ho] at h
    cases hr:stopR R n with
    | none=>rw [hr] at h;cases h
    | some q=>rw [hr] at h;simp at h;exact stopR_ne (k:=q.1) n (by rw [hr, ← h.2])
theorem results_ctt {P:Program} {fn:Func} {p u v:Tmp} {ty:TypeId} (h:fn.results=#[.cell p ty,.tmp u,.tmp v]) (tmps:Array Value) (w:World) (b o:Nat) (cs:List Value) (d:TypeDesc)
  (hp:tmps.getD p undef=.pointer (some ⟨b,o,none⟩)) (hc:w.rangeAt b o cs) (hu:P.underlying ty=some d) (hd:d.isRow=true) (hi:(P.info? ty).map (·.size)=some cs.length) :
  (results fn tmps).run P w=.ok (.tuple #[.agg cs.toArray,tmps.getD u undef,tmps.getD v undef]) w:=by
 have hp':tmps[p]?.getD undef=.pointer (some ⟨b,o,none⟩):=by simpa using hp
 simp [results,h,hp',asAddr,run_loadVar_mid w b o ty cs d hc hu hd hi]
theorem vals_two {b:Bool} {o:Option (Int × Int)} {Q:Nat→Ten} {R:Nat→Res} {n:Nat} {w w':World} {e:Ending} {Y:Nat→Nd} {t0:Tri} (ho:o=outS Y t0 n) (h:ValsPost b o Q R n w e w') :
  ((∃ k z,Hid (stopV b o (stopR R n)=some (k,z))∧(z != 0)=true∧¬ z=0∧e=.returned (.tuple #[.slice none 0 0,.int .i64 k,.int .i64 z])) ∨
  (Hid (stopV b o (stopR R n)=none)∧∃ b5 o5 c a,e=.returned (.tuple #[.slice (some ⟨b5,o5,none⟩) (n+1) c,.int .i64 (n:Int),.int .i64 0])∧Hid (w'.rangeAt b5 (o5+n * 4) a.list)∧Hid (VOk w' a)∧Hid (a.ten=Q n)))∧Below w.heap.size w w':=by
 obtain⟨⟨k,z,hs,he⟩ | ⟨hs,v,L,he,hr,hown⟩,hb⟩:=h
 ·have hz:z≠0:=stopV_ne (by rw [← ho];exact hs)
  exact⟨.inl ⟨k,z,hid hs,by simpa using hz,hz,he⟩,hb⟩
 ·obtain⟨A,c,rfl, -, -,hrd⟩:=Kit.zam hown
  have hl:n < L.length:=by rw [hr.len];omega
  have hg:=List.getElem?_eq_getElem hl
  obtain⟨b5,o5,rfl, -,hcl⟩:=vl_cells hrd (by omega)
  exact⟨.inr ⟨hid hs,b5,o5,c,L[n],he,hid (hcl n _ hg),hid (hr.ok _ (List.mem_of_getElem? hg)),hid (hr.is n _ hg)⟩,hb⟩
theorem zero_no8 {w:World} {b:Nat} (h:w.heap[b]?=some (.cells #[.int .i64 0,.int .i64 0,.int .i64 0,.slice none 0 0] 27)) (j:Nat) (z:Int):w.cell? ⟨b,j,none⟩≠some (.int .i8 z):=by
 rw [cell_of_row _ _ _ _ _ _ h]
 match j with
 | 0=>simp
 | 1=>simp
 | 2=>simp
 | 3=>simp
 | j+4=>simp
theorem VOk.off {w:World} {a:Val} {b:Nat} (h:VOk w a) (hb:w.heap[b]?=some (.cells #[.int .i64 0,.int .i64 0,.int .i64 0,.slice none 0 0] 27)):∀ ad:Addr,a.A=some ad→a.zs≠[]→some b≠some ad.block:=by
 intro ad e hz he
 obtain⟨z,r,hzr⟩:=List.exists_cons_of_ne_nil hz
 obtain⟨g,o,e2, -,hc⟩:=h.rd.plain (by rw [hzr];simp [I8s])
 have h0:=hc 0 (.int .i8 z) (by rw [hzr];rfl)
 rw [e] at e2
 injection e2 with e3
 subst e3
 injection he with he2
 subst he2
 exact zero_no8 hb _ _ h0
theorem ceval_to (X Y:Nat→Nd) (WS BS:Nat→List Int) (Q:Nat→Ten) (R:Nat→Res) (ia ib:Nat→Nat) (n c:Nat) (hn:n≤50) (t0:Tri) (zs:List Int) (m cm:Nat) (DA:Option Addr) (hlen:zs.length=m) (hm6:m≤1000000) (h8:I8b zs) (b:Bool) (hb:tensB t0.1 t0.2.1 t0.2.2 m=b)
  (hS:outS Y t0 n=none→SeqOf X Y WS BS n Q R ia ib) (hq0:Q 0=⟨t0.1,t0.2.1,t0.2.2,zs⟩) (A:Option Addr) (w:World) (hX:∀ j,j < n→(Y j).Small) (hI:BlockIn Y WS BS n A w) (hD:Kit.Rd w w.heap.size DA (I8s zs)) :
  Calls Tryz.prog 9 #[.slice A n c,.agg #[.int .i64 t0.1,.int .i64 t0.2.1,.int .i64 t0.2.2,.slice DA m cm]] w (EvPost b (outS Y t0 n) Q R n w):=by
 obtain⟨p0,p1,p2,p3⟩:=tn_cells t0.1 t0.2.1 t0.2.2 DA m cm w
 have s1:(w.alloc (.cells #[.int .i64 t0.1,.int .i64 t0.2.1,.int .i64 t0.2.2,.slice DA m cm] 27)).heap.size=w.heap.size+1:=by simp
 have hal:=(Below.refl (w.heap.size+1) (w.alloc (.cells #[.int .i64 t0.1,.int .i64 t0.2.1,.int .i64 t0.2.2,.slice DA m cm] 27))).alloc (Nat.le_of_eq s1.symm) (.cells #[.int .i64 0,.int .i64 0,.int .i64 0,.slice none 0 0] 27)
 have q0:=(hal.cell (p:=⟨w.heap.size,0,none⟩) (lt_succ_self _)).trans p0
 have q1:=(hal.cell (p:=⟨w.heap.size,1,none⟩) (lt_succ_self _)).trans p1
 have q2:=(hal.cell (p:=⟨w.heap.size,2,none⟩) (lt_succ_self _)).trans p2
 have q3:=(hal.cell (p:=⟨w.heap.size,3,none⟩) (lt_succ_self _)).trans p3
 have hth:=zbq (w.alloc (.cells #[.int .i64 t0.1,.int .i64 t0.2.1,.int .i64 t0.2.2,.slice DA m cm] 27))
 rw [s1] at hth
 have HTH0:=hid hth
 have HB0:=hid (((Below.refl w.heap.size w).alloc (le_refl _) (.cells #[.int .i64 t0.1,.int .i64 t0.2.1,.int .i64 t0.2.2,.slice DA m cm] 27)).alloc (by simp) (.cells #[.int .i64 0,.int .i64 0,.int .i64 0,.slice none 0 0] 27))
 have HSZ:Hid (w.heap.size+1 < ((w.alloc (.cells #[.int .i64 t0.1,.int .i64 t0.2.1,.int .i64 t0.2.2,.slice DA m cm] 27)).alloc (.cells #[.int .i64 0,.int .i64 0,.int .i64 0,.slice none 0 0] 27)).heap.size):=hid (by simp)
 have HBL0:Hid (((w.alloc (.cells #[.int .i64 t0.1,.int .i64 t0.2.1,.int .i64 t0.2.2,.slice DA m cm] 27)).alloc (.cells #[.int .i64 0,.int .i64 0,.int .i64 0,.slice none 0 0] 27)).heap[w.heap.size+1]?=some (.cells #[.int .i64 0,.int .i64 0,.int .i64 0,.slice none 0 0] 27)) :=
  hid (by have h:=heap_alloc_new (w.alloc (.cells #[.int .i64 t0.1,.int .i64 t0.2.1,.int .i64 t0.2.2,.slice DA m cm] 27)) (.cells #[.int .i64 0,.int .i64 0,.int .i64 0,.slice none 0 0] 27);rw [s1] at h;exact h)
 have CV:Hid (∀ wx,Below w.heap.size w wx→Calls Tryz.prog 7 #[.slice A n c,.agg #[.int .i64 t0.1,.int .i64 t0.2.1,.int .i64 t0.2.2,.slice DA m cm]] wx (ValsPost b (outS Y t0 n) Q R n wx)) :=
  hid (fun wx h=>cvals_to X Y WS BS Q R ia ib n c hn t0 zs m cm DA hlen hm6 h8 b hb hS hq0 A wx hX (hI.grown h) ((hD.below h).more h.size))
 clear hlen hm6 h8 hb hS hq0 hX hI hD p0 p1 p2 p3 s1 hal hth
 go_enter Tryz.func9,Tryz.ntmps9
 go_upto_region 1 with fail
 generalize (w.alloc (.cells #[.int .i64 t0.1,.int .i64 t0.2.1,.int .i64 t0.2.2,.slice DA m cm] 27)).alloc (.cells #[.int .i64 0,.int .i64 0,.int .i64 0,.slice none 0 0] 27)=W0 at q0 q1 q2 q3 HB0 HSZ HTH0 HBL0 ⊢
 go_wp2_with (first
  | (go_at_call 7
     refine (CV.out _ HB0.out).mono ?_
     rintro e w1 hpost
     obtain⟨hres,hb⟩:=vals_two rfl hpost
     have HB1:=hid (HB0.out.trans (hb.mono HB0.out.size))
     have HTH:=hid (zc0 HTH0.out HSZ.out hb)
     have HSZ1:=hid (Nat.lt_of_lt_of_le HSZ.out hb.size)
     have HBL:=hid ((hb.block _ HSZ.out).trans HBL0.out)
     clear hb hpost q0 q1 q2 q3 CV HTH0 HSZ HBL0
     have k0:(0:Int)≤(n:Int):=by omega
     have k1:(n:Int) < ((n+1:Nat):Int):=by omega
     have k2:(n:Int) < (n:Int)+1:=by omega
     rcases hres with ⟨k,z,HS,hz1,hz0,rfl⟩ | ⟨HS,b5,o5,c5,a,rfl,HG,HVA,HQN⟩)
  | (refine wpList_store_mid rfl 27 (.tmp 4) (.tmp 19) rfl (w.heap.size+1) 0 #[.int .i64 0,.int .i64 0,.int .i64 0,.slice none 0 0] rfl rfl HTH.out info_tensor (zcl _ _ _ rfl) ?_
     have HRG:=hid (World.rangeAt_setCells_same w1 (w.heap.size+1) 0 (#[.int .i64 0,.int .i64 0,.int .i64 0,.slice none 0 0]:Array Value).toList HTH.out)
     obtain⟨hs1,hs2⟩:=setCells_below (#[.int .i64 0,.int .i64 0,.int .i64 0,.slice none 0 0]:Array Value).toList (w.heap.size+1) 0 w1
     have HB2:=hid (HB1.out.trans (hs1.mono (Nat.le_succ _)))
     clear hs1 hs2
     generalize w1.setCells (w.heap.size+1) 0 (#[.int .i64 0,.int .i64 0,.int .i64 0,.slice none 0 0]:Array Value).toList=W9 at HRG HB2 ⊢)
  | (refine wpList_load_mid rfl 27 _ rfl b5 (o5+n * 4) rfl a.list _ HG.out Tryz.underlying27 rfl (by kernel_rfl) ?_)
  | (refine wpList_store_mid rfl 27 (.tmp 4) (.tmp 26) rfl (w.heap.size+1) 0 a.list.toArray rfl rfl HTH.out info_tensor (zcl _ _ _ rfl) ?_
     have HRG:=hid (World.rangeAt_setCells_same w1 (w.heap.size+1) 0 a.list.toArray.toList HTH.out)
     obtain⟨hs1,hs2⟩:=setCells_below a.list.toArray.toList (w.heap.size+1) 0 w1
     have HB2:=hid (HB1.out.trans (hs1.mono (Nat.le_succ _)))
     have HV2:=hid (HVA.out.apart (setCells_grown a.list.toArray.toList (w.heap.size+1) 0 w1) (HVA.out.off HBL.out))
     clear hs1 hs2
     generalize w1.setCells (w.heap.size+1) 0 a.list.toArray.toList=W9 at HRG HB2 HV2 ⊢))
 ·refine bodyPost_ret (results_ctt rfl _ _ (w.heap.size+1) 0 [.int .i64 0,.int .i64 0,.int .i64 0,.slice none 0 0] _ rfl HRG.out Tryz.underlying27 rfl (by kernel_rfl)) rfl ?_
  exact⟨.inl ⟨k,z,hz0,HS.out,rfl⟩,HB2.out⟩
 ·refine bodyPost_ret (results_ctt rfl _ _ (w.heap.size+1) 0 a.list _ rfl HRG.out Tryz.underlying27 rfl (by kernel_rfl)) rfl ?_
  exact⟨.inr ⟨HS.out,a,rfl,HV2.out,HQN.out⟩,HB2.out⟩
theorem stopAt_step {X:Nat→Nd} {t0:Tri} {n:Nat} (h:zbh X t0 (n+1)=none):zbh X t0 n=none∧stopZ (X n) (shL X t0 n)=0:=by
 simp only [zbh] at h
 cases hs:zbh X t0 n with
 | some r=>rw [hs] at h;cases h
 | none =>
   rw [hs] at h
   refine⟨rfl,?_⟩
   by_cases hz:stopZ (X n) (shL X t0 n)=0
   ·exact hz
   ·simp [hz] at h
theorem stopR_step {R:Nat→Res} {n:Nat} (h:stopR R (n+1)=none):stopR R n=none∧(R n).er=0:=by
 simp only [stopR] at h
 cases hs:stopR R n with
 | some r=>rw [hs] at h;cases h
 | none =>
   rw [hs] at h
   refine⟨rfl,?_⟩
   by_cases hz:(R n).er=0
   ·exact hz
   ·simp [hz] at h
theorem stopZ_zero {x:Nd} {l:List Tri} (h:stopZ x l=0):x.checkZ=0∧zcb x l.length=true∧nextE x l=0:=by
 unfold stopZ at h
 by_cases hc:x.checkZ=0
 ·rw [if_neg (by simpa using hc)] at h
  cases ht:zcb x l.length
  ·rw [ht] at h;simp at h
  ·rw [ht] at h;exact⟨hc,rfl,by simpa using h⟩
 ·rw [if_pos hc] at h;exact absurd h hc
theorem stopZ_of {x:Nd} {l:List Tri} (hc:x.checkZ=0) (ht:zcb x l.length=true) (hn:nextE x l=0):stopZ x l=0:=by
 unfold stopZ;rw [if_neg (by simpa using hc),if_neg (by simp [ht])];exact hn
theorem check_nb0 {x:Nd} (h:x.checkZ=0) (hk:x.kd≠6):x.nb=0:=by
 by_cases hnb:x.nb=0
 ·exact hnb
 have hm:x.moreB=true:=by simp [Nd.moreB,hk,hnb]
 unfold Nd.checkZ at h
 rw [hm] at h
 split at h <;> simp at h
theorem there_idx {x:Nd} {many:Nat} (hc:x.checkZ=0) (ht:zcb x many=true):∃ ka kb:Nat,x.na=ka∧ka < many∧x.nb=kb∧kb < many:=by
 have h:0≤x.na∧x.na < (many:Int)∧(x.kd=6→0≤x.nb∧x.nb < (many:Int)):=of_decide_eq_true ht
 by_cases h6:x.kd=6
 ·have:=h.2.2 h6
  exact⟨x.na.toNat,x.nb.toNat,by omega,by omega,by omega,by omega⟩
 ·have:=check_nb0 hc h6
  exact⟨x.na.toNat,0,by omega,by omega,by omega,by omega⟩
theorem like_self (x:Nd):Like x x:=⟨x.na,x.nb,rfl,rfl⟩
def SoundT (q:Ten):Prop:=I8b q.zs∧q.zs.length≤1000000
theorem NodeP.sound {x:Nd} {ws bs:List Int} {a b:Ten} {r:Res} (h:NodeP x ws bs a b r):SoundT (Res.ten r):=⟨h.2.1,by have h1:=h.1.1;have h2:=h.1.2.1;show r.xs.length≤1000000;omega⟩
theorem seq_all (Y:Nat→Nd) (WS BS:Nat→List Int) (t0:Tri) (q0:Ten) (hq0:SoundT q0):∀ n,(∀ k,k < n→NIn (Y k) (WS k) (BS k))→zbh Y t0 n=none →
  ∃ Q R,SeqOf Y Y WS BS n Q R (fun k=>(Y k).na.toNat) (fun k=>(Y k).nb.toNat)∧Q 0=q0∧(∀ k,k≤n→SoundT (Q k))∧∀ k,k < n→(Y k).checkZ=0
 | 0,_,_=>⟨fun _=>q0,fun _=>Res.bad 0,⟨fun k h=>absurd h (Nat.not_lt_zero k),fun k h=>absurd h (Nat.not_lt_zero k),fun k h=>absurd h (Nat.not_lt_zero k),fun k h=>absurd h (Nat.not_lt_zero k),fun k h=>absurd h (Nat.not_lt_zero k)⟩,rfl,fun _ _=>hq0,fun k h=>absurd h (Nat.not_lt_zero k)⟩
 | n+1,hN,h=>by
   obtain⟨h1,h2⟩:=stopAt_step h
   obtain⟨Q,R,hS,h0,hs,hck⟩:=seq_all Y WS BS t0 q0 hq0 n (fun k hk=>hN k (by omega)) h1
   obtain⟨hc,ht, -⟩:=stopZ_zero h2
   rw [shL_len] at ht
   obtain⟨ka,kb,e1,l1,e2,l2⟩:=there_idx hc ht
   obtain⟨r,hr⟩:=node_p (Y n) (WS n) (BS n) (hN n (by omega)) (Q ka) (Q kb) (hs ka (by omega)).1 (hs kb (by omega)).1 (hs ka (by omega)).2
   have ea:(Y n).na.toNat=ka:=by omega
   have eb:(Y n).nb.toNat=kb:=by omega
   refine⟨fun k=>if k=n+1 then Res.ten r else Q k,fun k=>if k=n then r else R k,⟨fun k _=>like_self _,fun k hk=>?_,fun k hk=>?_,fun k hk=>?_,fun k hk=>?_⟩,?_,fun k hk=>?_,fun k hk=>?_⟩
   ·by_cases e:k=n
    ·subst e;exact⟨by rw [ea];exact e1,by rw [ea];omega⟩
    ·exact hS.na k (by omega)
   ·by_cases e:k=n
    ·subst e;exact⟨by rw [eb];exact e2,by rw [eb];omega⟩
    ·exact hS.nb k (by omega)
   ·by_cases e:k=n
    ·subst e
     simp only [ea,eb,if_neg (show ¬ ka=k+1 by omega),if_neg (show ¬ kb=k+1 by omega),if_pos]
     exact hr
    ·have hka:=(hS.na k (by omega)).2
     have hkb:=(hS.nb k (by omega)).2
     simp only [if_neg e,if_neg (show ¬ (Y k).na.toNat=n+1 by omega),if_neg (show ¬ (Y k).nb.toNat=n+1 by omega)]
     exact hS.made k (by omega)
   ·by_cases e:k=n
    ·subst e;simp
    ·simp only [if_neg e,if_neg (show ¬ k+1=n+1 by omega)];exact hS.next k (by omega)
   ·simp only [if_neg (show ¬ 0=n+1 by omega)];exact h0
   ·by_cases e:k=n+1
    ·simp only [if_pos e];exact hr.sound
    ·simp only [if_neg e];exact hs k (by omega)
   ·by_cases e:k=n
    ·subst e;exact hc
    ·exact hck k (by omega)
/-! ### a node more ahead of the others -/
def flatN:Nd := { nd0 with kd:=9 }
def shI (a:Int):Int:=if 0 < a then a+1 else a
def shN (a:Nat):Nat:=if a=0 then 0 else a+1
theorem shI_nat (a:Nat):shI (a:Int)=(shN a:Int):=by unfold shI shN;split <;> split <;> omega
theorem shN_le {a k:Nat} (h:a≤k):shN a≤k+1:=by unfold shN;split <;> omega
def moved (x:Nd):Nd:=asN x (shI x.na) (if x.kd=6 then shI x.nb else x.nb)
def Y2 (Y:Nat→Nd):Nat→Nd
 | 0=>flatN
 | k+1=>moved (Y k)
def X2 (Y:Nat→Nd):Nat→Nd
 | 0=>flatN
 | k+1=>Y k
def L2 (WS:Nat→List Int):Nat→List Int
 | 0=>[]
 | k+1=>WS k
def Q2 (Q:Nat→Ten) (f:Ten):Nat→Ten
 | 0=>Q 0
 | 1=>f
 | k+2=>Q (k+1)
def R2 (R:Nat→Res) (f:Res):Nat→Res
 | 0=>f
 | k+1=>R k
def I2 (ia:Nat→Nat):Nat→Nat
 | 0=>0
 | k+1=>shN (ia k)
theorem Q2_sh (Q:Nat→Ten) (f:Ten) (a:Nat):Q2 Q f (shN a)=Q a:=by
 cases a with
 | zero=>rfl
 | succ a=>simp [shN,Q2]
theorem check_moved (x:Nd):(moved x).checkZ=x.checkZ:=by
 by_cases h6:x.kd=6
 ·simp [moved,asN,Nd.checkZ,Nd.moreB,h6]
 ·unfold moved;rw [if_neg h6];rfl
theorem seq_two {Y:Nat→Nd} {WS BS:Nat→List Int} {n:Nat} {Q:Nat→Ten} {R:Nat→Res} {ia ib:Nat→Nat} (hS:SeqOf Y Y WS BS n Q R ia ib) (hck:∀ k,k < n→(Y k).checkZ=0) (f:Res) (hf:NodeP flatN [] [] (Q 0) (Q 0) f) :
  SeqOf (X2 Y) (Y2 Y) (L2 WS) (L2 BS) (n+1) (Q2 Q (Res.ten f)) (R2 R f) (I2 ia) (I2 ib):=by
 refine⟨fun k hk=>?_,fun k hk=>?_,fun k hk=>?_,fun k hk=>?_,fun k hk=>?_⟩
 ·cases k with
  | zero=>exact like_self _
  | succ k=>exact⟨_,_,rfl,check_moved (Y k)⟩
 ·cases k with
  | zero=>exact⟨rfl,le_refl _⟩
  | succ k =>
    obtain⟨h1,h2⟩:=hS.na k (by omega)
    exact⟨by show shI (Y k).na=_;rw [h1];exact shI_nat _,shN_le h2⟩
 ·cases k with
  | zero=>exact⟨rfl,le_refl _⟩
  | succ k =>
    obtain⟨h1,h2⟩:=hS.nb k (by omega)
    refine⟨?_,shN_le h2⟩
    show (if (Y k).kd=6 then shI (Y k).nb else (Y k).nb)=_
    by_cases h6:(Y k).kd=6
    ·rw [if_pos h6,h1];exact shI_nat _
    ·rw [if_neg h6]
     have h0:=check_nb0 (hck k (by omega)) h6
     have:ib k=0:=by omega
     rw [h0,show I2 ib (k+1)=shN (ib k) from rfl,this];rfl
 ·cases k with
  | zero=>exact hf
  | succ k =>
    have h:=hS.made k (by omega)
    show NodeP (Y k) (WS k) (BS k) (Q2 Q (Res.ten f) (shN (ia k))) (Q2 Q (Res.ten f) (shN (ib k))) (R k)
    rw [Q2_sh,Q2_sh];exact h
 ·cases k with
  | zero=>rfl
  | succ k=>exact hS.next k (by omega)
theorem stopR_two {R:Nat→Res} {f:Res} (hf:f.er=0):∀ n,stopR R n=none→stopR (R2 R f) (n+1)=none
 | 0,_=>stopR_go rfl hf
 | n+1,h=>by
   obtain⟨h1,h2⟩:=stopR_step h
   exact stopR_go (stopR_two hf n h1) h2
theorem getD_left {L M:List Tri} {k:Nat} (h:k < L.length):(L ++ M).getD k tri0=L.getD k tri0:=by
 rw [List.getD_eq_getElem?_getD,List.getD_eq_getElem?_getD,List.getElem?_append_left h]
theorem getD_last (L:List Tri) (a:Tri) {k:Nat} (h:L.length=k):(L ++ [a]).getD k tri0=a:=by
 rw [List.getD_eq_getElem?_getD,List.getElem?_append_right (by omega),h,Nat.sub_self];rfl
theorem next_moved {x:Nd} {L M:List Tri} (ha:M.getD (moved x).na.toNat tri0=L.getD x.na.toNat tri0) (hb:M.getD (sndZ (moved x)).toNat tri0=L.getD (sndZ x).toNat tri0):nextE (moved x) M=nextE x L∧nextT (moved x) M=nextT x L:=by
 unfold nextE nextT
 rw [ha,hb]
 exact⟨rfl,rfl⟩
theorem shapes_two {Y:Nat→Nd} {t0:Tri} (hs:zad t0.1 t0.2.1 t0.2.2=true):∀ n,zbh Y t0 n=none →
  zbh (Y2 Y) t0 (n+1)=none∧∀ a,a≤n→(shL (Y2 Y) t0 (n+1)).getD (shN a) tri0=(shL Y t0 n).getD a tri0
 | 0,_=>by
   refine⟨stopAt_go rfl (stopZ_of (by show flatN.checkZ=0;decide) (by show zcb flatN 1=true;decide) ?_),fun a ha=>?_⟩
   ·show flatN.shE t0.1 t0.2.1 t0.2.2 t0.1 t0.2.1 t0.2.2=0
    simp [Nd.shE,flatN,nd0,hs]
   ·obtain rfl:a=0:=by omega
    rfl
 | n+1,h=>by
   obtain⟨h1,h2⟩:=stopAt_step h
   obtain⟨i1,i2⟩:=shapes_two hs n h1
   obtain⟨hc,ht,hn⟩:=stopZ_zero h2
   rw [shL_len] at ht
   have hd:0≤(Y n).na∧(Y n).na < ((n+1:Nat):Int)∧((Y n).kd=6→0≤(Y n).nb∧(Y n).nb < ((n+1:Nat):Int)):=of_decide_eq_true ht
   obtain⟨ka,kb,e1,l1,e2,l2⟩:=there_idx hc ht
   have ea:(moved (Y n)).na=(shN ka:Int):=by show shI (Y n).na=_;rw [e1];exact shI_nat _
   have ha:(shL (Y2 Y) t0 (n+1)).getD (moved (Y n)).na.toNat tri0=(shL Y t0 n).getD (Y n).na.toNat tri0:=by
    rw [ea,e1,Int.toNat_natCast,Int.toNat_natCast];exact i2 ka (by omega)
   have hb:(shL (Y2 Y) t0 (n+1)).getD (sndZ (moved (Y n))).toNat tri0=(shL Y t0 n).getD (sndZ (Y n)).toNat tri0:=by
    by_cases h6:(Y n).kd=6
    ·have f1:sndZ (moved (Y n))=(shN kb:Int):=by
      show (if (Y n).kd=6 then (if (Y n).kd=6 then shI (Y n).nb else (Y n).nb) else shI (Y n).na)=_
      rw [if_pos h6,if_pos h6,e2];exact shI_nat _
     have f2:sndZ (Y n)=(kb:Int):=by unfold sndZ;rw [if_pos h6];exact e2
     rw [f1,f2,Int.toNat_natCast,Int.toNat_natCast];exact i2 kb (by omega)
    ·have f1:sndZ (moved (Y n))=(moved (Y n)).na:=by
      show (if (Y n).kd=6 then (if (Y n).kd=6 then shI (Y n).nb else (Y n).nb) else shI (Y n).na)=_
      rw [if_neg h6];rfl
     have f2:sndZ (Y n)=(Y n).na:=by unfold sndZ;rw [if_neg h6]
     rw [f1,f2];exact ha
   obtain⟨n1,n2⟩:=next_moved ha hb
   have hth:zcb (moved (Y n)) (shL (Y2 Y) t0 (n+1)).length=true:=by
    rw [shL_len]
    refine decide_eq_true ⟨?_,?_,fun h6=>?_⟩
    ·rw [ea];omega
    ·rw [ea];have:=shN_le (show ka≤n by omega);omega
    ·have h6':(Y n).kd=6:=h6
     have eb:(moved (Y n)).nb=(shN kb:Int):=by
      show (if (Y n).kd=6 then shI (Y n).nb else (Y n).nb)=_
      rw [if_pos h6',e2];exact shI_nat _
     rw [eb];have:=shN_le (show kb≤n by omega);omega
   refine⟨stopAt_go i1 (stopZ_of (by show (moved (Y n)).checkZ=0;rw [check_moved];exact hc) hth (by show nextE (moved (Y n)) _=0;rw [n1];exact hn)),fun a ha=>?_⟩
   show (shL (Y2 Y) t0 (n+1) ++ [nextT (moved (Y n)) (shL (Y2 Y) t0 (n+1))]).getD (shN a) tri0=(shL Y t0 n ++ [nextT (Y n) (shL Y t0 n)]).getD a tri0
   by_cases hl:a≤n
   ·rw [getD_left (by rw [shL_len];have:=shN_le hl;omega),getD_left (by rw [shL_len];omega)]
    exact i2 a hl
   ·obtain rfl:a=n+1:=by omega
    rw [getD_last _ _ (by rw [shL_len];simp [shN]),getD_last _ _ (by rw [shL_len]),n2]
theorem outS_none {Y:Nat→Nd} {t0:Tri} {n:Nat} (h:outS Y t0 n=none):zad t0.1 t0.2.1 t0.2.2=true∧n≠0∧n≤8∧zbh Y t0 n=none:=by
 unfold outS at h
 split at h
 ·cases h
 rename_i h1
 split at h
 ·cases h
 rename_i h2
 split at h
 ·cases h
 rename_i h3
 exact⟨by simpa using h1,h2,by omega,by simpa using h⟩
theorem outS_two {Y:Nat→Nd} {t0:Tri} {n:Nat} (h:outS Y t0 n=none) (hn:n≤7):outS (Y2 Y) t0 (n+1)=none:=by
 obtain⟨h1,h2,h3,h4⟩:=outS_none h
 unfold outS
 rw [if_neg (by simp [h1]),if_neg (by omega),if_neg (by omega),(shapes_two h1 n h4).1];rfl
theorem nin_flat:NIn flatN [] []:=by
 refine⟨rfl,le_refl _,by show (0:Nat)≤maxLen;unfold maxLen;omega,(zbt (e:=0)),rfl,(fun q=>by simp),(by decide),(by decide),?_,?_⟩
 ·unfold Nd.Small;decide
 ·decide
theorem node_flat (q b:Ten) (hq:SoundT q) (ht:tensB q.X q.Y q.U q.zs.length=true):NodeP flatN [] [] q b ⟨1,1,q.zs.length,q.zs.length,q.zs,0⟩:=by
 have hs:=zcr ht
 have hnE:zay q.X q.Y q.U=(q.zs.length:Int):=by rw [zaw hs];exact (tens_num ht).symm
 refine⟨⟨rfl,hq.2,fun h=>absurd rfl h,fun _=>⟨by simp [Nd.shE,flatN,nd0,hs],by simp [Nd.shV,Nd.shE,flatN,nd0,hs,hnE],CTensor.flat_tens hnE ht⟩⟩,hq.1,fun A B c d y w hy hnc hM=>?_⟩
 obtain⟨na,nb,rfl,hcy⟩:=hy
 exact cnode_9 (asN flatN na nb) rfl q.X q.Y q.U A q.zs.length c b.X b.Y b.U B b.zs.length d ht _ w (fun w1 hb=>by have h:=za1 (asN flatN na nb) nin_flat.small w1 (hM.grown hb).2.2.2.2;rw [hcy,show flatN.checkZ=0 by decide] at h;exact h) (fun w1 hb1=>CTensor.flat_yes q.X q.Y q.U A q.zs q.zs.length c rfl hq.2 ht w1 (le_refl _) (hM.grown hb1).1)
end CGraph
end
end Go.Proofs.YtahekhpeomcfjaaGreatDoor
