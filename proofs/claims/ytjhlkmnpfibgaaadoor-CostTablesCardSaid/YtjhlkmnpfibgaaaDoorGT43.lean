/- -/
import Derived.Test.YtjhlkmnpfibgaaaDoorGT41
open Go.Lib (hid)
open Nat (le_refl lt_of_succ_lt lt_succ_self)
set_option linter.unusedVariables false
set_option linter.unusedSimpArgs false
set_option maxRecDepth 100000
set_option maxHeartbeats 16000000
namespace Go.Proofs.YtjhlkmnpfibgaaaDoor
namespace CConv
end CConv
namespace CDense
end CDense
namespace CSat
end CSat
namespace CTensor
end CTensor
open Go Go.ChangeShapes Go.WideShapes Go.ChangeAt Go.RowKit Go.Deep
section
namespace CCost
open Plain CSat CFix CShape CTensor CConv CKind CGraph CDense CBund
def outT (X:Nat→Nd) (t0:Tri) (n:Nat):Tri:=(shL X t0 n).getD n tri0
def BlkPost (X:Nat→Nd) (t0:Tri) (n:Nat) (ex:Bool) (cl:Int) (w:World) (e:Ending) (w':World):Prop :=
 ((∃ k z,outS X t0 n=some (k,z)∧e=.returned (.tuple #[.int .i64 0,.agg #[.int .i64 0,.int .i64 0,.int .i64 0],.int .i64 z])) ∨
   (outS X t0 n=none∧e=.returned (.tuple #[.int .i64 (blkZ X t0 n ex cl),.agg #[.int .i64 (outT X t0 n).1,.int .i64 (outT X t0 n).2.1,.int .i64 (outT X t0 n).2.2],.int .i64 0])))∧Below w.heap.size w w'
theorem results_tct {P:Program} {fn:Func} {p u v:Tmp} {ty:TypeId} (h:fn.results=#[.tmp u,.cell p ty,.tmp v]) (tmps:Array Value) (w:World) (b o:Nat) (cs:List Value) (d:TypeDesc)
  (hp:tmps.getD p undef=.pointer (some ⟨b,o,none⟩)) (hc:w.rangeAt b o cs) (hu:P.underlying ty=some d) (hd:d.isRow=true) (hi:(P.info? ty).map (·.size)=some cs.length) :
  (results fn tmps).run P w=.ok (.tuple #[tmps.getD u undef,.agg cs.toArray,tmps.getD v undef]) w:=by
 have hp':tmps[p]?.getD undef=.pointer (some ⟨b,o,none⟩):=by simpa using hp
 simp [results,h,hp',asAddr,run_loadVar_mid w b o ty cs d hc hu hd hi]
def BlkAt (B:Nat) (b:Bk) (w:World):Prop:=w.cell? ⟨B,0,none⟩=some (.slice b.A b.n b.c)∧w.cell? ⟨B,1,none⟩=some (.bool b.ex)
theorem BlkAt.new (b:Bk) (T:TypeId) (w:World):BlkAt w.heap.size b (w.alloc (.cells b.val.toArray T)):=⟨Kit.zak _ _ _ _,Kit.zak _ _ _ _⟩
theorem BlkAt.below {B B':Nat} {b:Bk} {w w':World} (h:BlkAt B b w) (hB:B < B') (hb:Below B' w w'):BlkAt B b w' :=
 ⟨(hb.cell (p:=⟨B,0,none⟩) hB).trans h.1,(hb.cell (p:=⟨B,1,none⟩) hB).trans h.2⟩
def zbt (B:Nat) (wd:World):Prop :=
 (wd.cell? ⟨B,0,none⟩=some (.int .i64 0)∧wd.cell? ⟨B,1,none⟩=some (.int .i64 0)∧wd.cell? ⟨B,2,none⟩=some (.int .i64 0)) ∧
 wd.frozen? ⟨B,0,none⟩=false∧wd.frozen? ⟨B,1,none⟩=false∧wd.frozen? ⟨B,2,none⟩=false
theorem zbt.new (T:TypeId) (w:World):zbt w.heap.size (w.alloc (.cells #[.int .i64 0,.int .i64 0,.int .i64 0] T)) :=
 ⟨⟨Kit.zak _ _ _ _,Kit.zak _ _ _ _,Kit.zak _ _ _ _⟩,World.frozen?_alloc_at _ _ _ _ rfl,World.frozen?_alloc_at _ _ _ _ rfl,World.frozen?_alloc_at _ _ _ _ rfl⟩
theorem zbt.below {B B':Nat} {w w':World} (h:zbt B w) (hB:B < B') (hb:Below B' w w'):zbt B w':=by
 obtain⟨⟨h1,h2,h3⟩,h5,h6,h7⟩:=h
 exact⟨⟨(hb.cell (p:=⟨B,0,none⟩) hB).trans h1,(hb.cell (p:=⟨B,1,none⟩) hB).trans h2,(hb.cell (p:=⟨B,2,none⟩) hB).trans h3⟩,
  (hb.frozen (p:=⟨B,0,none⟩) hB).trans h5,(hb.frozen (p:=⟨B,1,none⟩) hB).trans h6,(hb.frozen (p:=⟨B,2,none⟩) hB).trans h7⟩
theorem stopAt_nzC {X:Nat→Nd} {t0:Tri} : ∀ {n:Nat} {r:Nat × Int},za9 X t0 n=some r→r.2≠0
 | 0,r,h=>by cases h
 | n+1,r,h=>by
   rw [za9] at h
   cases hs:za9 X t0 n with
   | some q=>rw [hs] at h;cases h;exact stopAt_nzC hs
   | none =>
     rw [hs] at h
     dsimp only at h
     split at h
     ·cases h
     ·rename_i hz;cases h;exact hz
theorem outS_nzC {X:Nat→Nd} {t0:Tri} {n:Nat} {k z:Int} (h:outS X t0 n=some (k,z)):z≠0:=by
 unfold outS at h
 split at h
 ·cases h;decide
 ·split at h
  ·cases h;decide
  ·split at h
   ·cases h;decide
   ·cases hs:za9 X t0 n with
    | none=>rw [hs] at h;cases h
    | some r=>rw [hs] at h;cases h;exact stopAt_nzC hs
theorem rblock_to (b:Bk) (t0:Tri) (cl:Int) (hn:b.n≤50) (w:World) (hA:NodesAt w w.heap.size b.A b.n b.X) :
  Calls Tryd.prog 10 #[.agg b.val.toArray,.agg #[.int .i64 t0.1,.int .i64 t0.2.1,.int .i64 t0.2.2],.int .i64 cl] w (BlkPost b.X t0 b.n b.ex cl w):=by
 have hb1:=(Below.refl w.heap.size w).alloc (le_refl _) (.cells b.val.toArray 28)
 have hb2:Below (w.heap.size+2) ((w.alloc (.cells b.val.toArray 28)).alloc (.cells #[.int .i64 t0.1,.int .i64 t0.2.1,.int .i64 t0.2.2] 30)) (((w.alloc (.cells b.val.toArray 28)).alloc (.cells #[.int .i64 t0.1,.int .i64 t0.2.1,.int .i64 t0.2.2] 30)).alloc (.cells #[.int .i64 0,.int .i64 0,.int .i64 0] 30)):=(Below.refl _ _).alloc (by simp) _
 have hb3:Below (w.heap.size+1) (w.alloc (.cells b.val.toArray 28)) (((w.alloc (.cells b.val.toArray 28)).alloc (.cells #[.int .i64 t0.1,.int .i64 t0.2.1,.int .i64 t0.2.2] 30)).alloc (.cells #[.int .i64 0,.int .i64 0,.int .i64 0] 30)):=((Below.refl _ _).alloc (by simp) _).trans (hb2.mono (by omega))
 have HB0:=hid (hb1.trans (hb3.mono (by omega)))
 have HK:=hid ((BlkAt.new b 28 w).below (lt_succ_self _) hb3)
 have q2:=TriAt.new t0 30 (w.alloc (.cells b.val.toArray 28))
 have q3:=zbt.new 30 ((w.alloc (.cells b.val.toArray 28)).alloc (.cells #[.int .i64 t0.1,.int .i64 t0.2.1,.int .i64 t0.2.2] 30))
 simp only [World.size_alloc] at q2 q3
 have HT0:=hid (q2.below (lt_succ_self _) hb2)
 have HF:=hid q3
 have HSZ:Hid (w.heap.size+3≤(((w.alloc (.cells b.val.toArray 28)).alloc (.cells #[.int .i64 t0.1,.int .i64 t0.2.1,.int .i64 t0.2.2] 30)).alloc (.cells #[.int .i64 0,.int .i64 0,.int .i64 0] 30)).heap.size):=hid (by simp)
 have HA:=hid hA
 have CSH:=hid (fun (wx:World) (hA:NodesAt wx wx.heap.size b.A b.n b.X)=>rshapes_to b.X t0 b.n b.c hn b.A wx hA)
 clear hb1 hb2 hb3 q2 q3 hA
 go_enter Tryd.func10,Tryd.ntmps10
 go_upto_region 1 with fail
 generalize ((w.alloc (.cells b.val.toArray 28)).alloc (.cells #[.int .i64 t0.1,.int .i64 t0.2.1,.int .i64 t0.2.2] 30)).alloc (.cells #[.int .i64 0,.int .i64 0,.int .i64 0] 30)=W0 at HK HT0 HF HB0 HSZ ⊢
 obtain⟨k0,k1⟩:=HK.out
 obtain⟨a0,a1,a2⟩:=HT0.out
 go_wp2_with fail
 go_at_call 20
 refine (CSH.out _ ((HA.out.below HB0.out).more HB0.out.size)).mono ?_
 rintro e w2 ⟨hres,hb⟩
 have HB2:=hid (HB0.out.trans (hb.mono HB0.out.size))
 replace HK:=hid (HK.out.below (B':=W0.heap.size) (by have:=HSZ.out;omega) hb)
 replace HF:=hid (HF.out.below (B':=W0.heap.size) (by have:=HSZ.out;omega) hb)
 replace HSZ:=hid (Nat.le_trans HSZ.out hb.size)
 have HRES:=hid hres
 clear hb hres a0 a1 a2 k0 k1 HT0
 rcases HRES.out with ⟨k,z,hs,rfl⟩ | ⟨hs,v,rfl,hown⟩
 ·obtain⟨⟨z0,z1,z2⟩,z4,z5,z6⟩:=HF.out
  have hz:z≠0:=outS_nzC hs
  have hz1:(z != 0)=true:=by simpa using hz
  have HS9:=hid hs
  clear hs HRES hz
  go_wp2_with fail
  refine bodyPost_ret (results_tct rfl _ _ (w.heap.size+2) 0 [.int .i64 0,.int .i64 0,.int .i64 0] _ rfl (Kit.zaj (by go_cell) (by go_cell) (by go_cell)) Tryd.underlying30 rfl (by kernel_rfl)) rfl ?_
  exact⟨.inl ⟨k,z,HS9.out,rfl⟩,((HB2.out.setCell (p:=⟨w.heap.size+2,0,none⟩) (by simp) _).setCell (p:=⟨w.heap.size+2,1,none⟩) (by simp) _).setCell (p:=⟨w.heap.size+2,2,none⟩) (by simp) _⟩
 ·obtain⟨A5,c5,rfl, -, -,hrd⟩:=Kit.zbw hown
  have HRS:=hid hrd
  have HS9:=hid hs
  obtain⟨L,hL⟩:∃ L,shL b.X t0 b.n=L:=⟨_,rfl⟩
  have hlen:L.length=b.n+1:=by rw [← hL];exact shL_len b.X t0 b.n
  rw [hL] at HRS
  have HL:=hid hL
  have HLN:=hid hlen
  obtain⟨n1,n8⟩:=outS_few hs
  obtain⟨bl,ol,rfl,hbl,hcell⟩:=tv_cells HRS.out (by omega)
  have HBL:=hid hbl
  have HCE:=hid hcell
  clear hown hrd hs HRES hL hlen hbl hcell HRS
  obtain⟨m,hm⟩:∃ m,b.n=m:=⟨_,rfl⟩
  have HM:=hid hm
  obtain⟨n9,hn9⟩:∃ n9,b.n+1=n9:=⟨_,rfl⟩
  rw [hn9]
  have HN9:=hid hn9
  clear hn9 hm
  obtain⟨k0,k1⟩:=HK.out
  rw [HM.out] at k0
  go_wp2_with fail
  go_loopw [12,13] (fun s u wr=>∃ k:Nat,k≤m∧u=.int .i64 k∧s=.int .i64 (costN b.X L k)∧Hid (Below w2.heap.size w2 wr)) (fun _ u _=>m - (intOf u).toNat)
  case atStart=>exact⟨0,Nat.zero_le _,rfl,rfl,hid (Below.refl _ _)⟩
  case round =>
   obtain⟨k,hk,rfl,rfl,HW⟩:=hrel
   have HKW:=hid (HK.out.below (B':=w2.heap.size) (by have:=HSZ.out;omega) HW.out)
   clear k0 k1
   obtain⟨k0,k1⟩:=HKW.out
   rw [HM.out] at k0
   by_cases hlt:k < m
   ·have i0:(0:Int)≤(k:Int):=by omega
    have i1:(k:Int) < (m:Int):=by omega
    have hkn:k < b.n:=by have:=HM.out;omega
    obtain⟨ba,oa,hAe,hba,hra⟩:=(HA.out.below (HB2.out.trans (HW.out.mono HB2.out.size))) k hkn
    have HRA:=hid hra
    rw [hAe] at k0
    clear hAe
    obtain⟨ht,⟨na0,na1⟩,⟨nb0,nb1⟩⟩:=ops_in HS9.out hkn
    obtain⟨ka,hka⟩:∃ ka:Nat,(b.X k).na=ka:=⟨(b.X k).na.toNat,by omega⟩
    obtain⟨kb,hkb⟩:∃ kb:Nat,sndZ (b.X k)=kb:=⟨(sndZ (b.X k)).toNat,by omega⟩
    obtain⟨a,ha1,ha2⟩:=tvV_at (L:=L) (k:=ka) HLN.out (by omega)
    obtain⟨c,hb1,hb2⟩:=tvV_at (L:=L) (k:=kb) HLN.out (by omega)
    have hcost:costN b.X L (k+1)=costN b.X L k+costZ (b.X k) a c:=by
     rw [costN,hka,hkb,Int.toNat_natCast,Int.toNat_natCast,ha2,hb2]
    have hbd:=costN_bd b.X L (k+1)
    have hwr:IntKind.i64.wrap (costN b.X L k+costZ (b.X k) a c)=costN b.X L (k+1):=by rw [← hcost];exact IntWalk.i64_in _ (by omega)
    have ie0:(0:Int)≤(ka:Int):=by omega
    have ie1:(ka:Int) < (n9:Int):=by have:=HN9.out;omega
    have j0:(0:Int)≤(kb:Int):=by omega
    have j1:(kb:Int) < (n9:Int):=by have:=HN9.out;omega
    have HCA0:=hid (HCE.out ka a ha1)
    have HCB0:=hid (HCE.out kb c hb1)
    have hsnd:((b.X k).kd=6→(b.X k).nb=(kb:Int))∧(¬ (b.X k).kd=6→kb=ka):=by
     unfold sndZ at hkb
     constructor
     ·intro h6;rw [if_pos h6] at hkb;exact hkb
     ·intro h6;rw [if_neg h6] at hkb;omega
    have HSND:=hid hsnd
    have CN:=hid (fun wx:World=>rnode_to (b.X k) a c wx)
    generalize hx:b.X k=x at *
    have hA1:Hid (x.val.toList[1]?=some (.int .i64 (ka:Int))):=hid (by rw [← hka];rfl)
    generalize costZ x a c=cz at hwr CN hcost
    generalize hcn:costN b.X L (k+1)=sn at *
    generalize costN b.X L k=so at hwr hcost ⊢
    clear hcost hbd hka hkb ha1 ha2 hb1 hb2 hsnd ht na0 na1 nb0 nb1 hra hba hx
    go_upto_region 9 with (first
     | (refine zbl rfl _ rfl ba (oa+k * 19) x rfl HRA.out ?_)
     | (refine zaw rfl _ _ rfl wr.heap.size nd0 x rfl rfl (NdBox.new nd0 _ wr) ?_
        intro w3 hbx hbl hsz1
        have HNB:=hid hbx.1
        have hh:Below wr.heap.size wr w3:=((Below.refl _ _).alloc (le_refl _) _).trans hbl
        have HH:=hid hh
        have HG:Hid (wr.heap.size < w3.heap.size):=hid (by rw [hsz1];simp)
        clear hbx hbl hsz1 hh))
    have HW3:=hid (HW.out.trans (HH.out.mono HW.out.size))
    have HCA:Hid (∀ wS,Below w3.heap.size w3 wS→wS.cell? ⟨bl,ol+ka * 3,none⟩=some (.int .i64 a.1)∧wS.cell? ⟨bl,ol+ka * 3+1,none⟩=some (.int .i64 a.2.1)∧wS.cell? ⟨bl,ol+ka * 3+2,none⟩=some (.int .i64 a.2.2)) :=
     hid (fun wS h=>have hh:=HW3.out.trans (h.mono HW3.out.size); ⟨(hh.cell (p:=⟨bl,ol+ka * 3,none⟩) HBL.out).trans (HCA0.out 0 _ rfl),(hh.cell (p:=⟨bl,ol+ka * 3+1,none⟩) HBL.out).trans (HCA0.out 1 _ rfl),(hh.cell (p:=⟨bl,ol+ka * 3+2,none⟩) HBL.out).trans (HCA0.out 2 _ rfl)⟩)
    have HCB:Hid (∀ wS,Below w3.heap.size w3 wS→wS.cell? ⟨bl,ol+kb * 3,none⟩=some (.int .i64 c.1)∧wS.cell? ⟨bl,ol+kb * 3+1,none⟩=some (.int .i64 c.2.1)∧wS.cell? ⟨bl,ol+kb * 3+2,none⟩=some (.int .i64 c.2.2)) :=
     hid (fun wS h=>have hh:=HW3.out.trans (h.mono HW3.out.size); ⟨(hh.cell (p:=⟨bl,ol+kb * 3,none⟩) HBL.out).trans (HCB0.out 0 _ rfl),(hh.cell (p:=⟨bl,ol+kb * 3+1,none⟩) HBL.out).trans (HCB0.out 1 _ rfl),(hh.cell (p:=⟨bl,ol+kb * 3+2,none⟩) HBL.out).trans (HCB0.out 2 _ rfl)⟩)
    have c0:=HNB.out.at 0 _ rfl
    clear HRA HCA0 HCB0 k0 k1
    by_cases h6:x.kd=6
    ·obtain⟨g1,g2⟩:=kd6 h6
     have hB2:Hid (x.val.toList[2]?=some (.int .i64 (kb:Int))):=hid (by rw [← HSND.out.1 h6];rfl)
     clear h6 HSND
     go_upto_region 10 with fail
     refine wp_region_held_drew (S:=fun w'=>Below w3.heap.size w3 w') (by kernel_rfl) (Below.refl _ _).drew (fun hHeld=>?_)
     clear c0
     generalize w3.drew=W1 at hHeld ⊢
     refine Tk.x 0 rfl ?_
     try simp only [Tk.put]
     refine Tk.t 1 (v:=.agg x.val) rfl (za6 _ rfl (by rfl) _ x rfl (fun _ h=>HNB.out.below HG.out h)) (by assumption) ?_
     try simp only [Tk.put]
     refine Tk.x 2 rfl ?_
     try simp only [Tk.put]
     refine Tk.x 3 rfl ?_
     try simp only [Tk.put]
     refine Tk.y 4 (v:=.int .i64 (ka:Int)) rfl ?_ ?_
     ·intro wS hSw
      have q:=(HNB.out.below HG.out hSw).at 1 (.int .i64 (ka:Int)) hA1.out
      first | (go_simp;done) | (go_simp;with_reducible rfl)
     try simp only [Tk.put]
     refine Tk.x 5 rfl ?_
     try simp only [Tk.put]
     refine Tk.y 6 (v:=.agg #[.int .i64 a.1,.int .i64 a.2.1,.int .i64 a.2.2]) rfl ?_ ?_
     ·intro wS hSw
      obtain⟨q0,q1,q2⟩:=HCA.out wS hSw
      first | (go_simp;done) | (go_simp;with_reducible rfl)
     try simp only [Tk.put]
     refine Tk.x 7 rfl ?_
     try simp only [Tk.put]
     refine Tk.x 8 rfl ?_
     try simp only [Tk.put]
     refine Tk.y 9 (v:=.int .i64 (kb:Int)) rfl ?_ ?_
     ·intro wS hSw
      have q:=(HNB.out.below HG.out hSw).at 2 (.int .i64 (kb:Int)) hB2.out
      first | (go_simp;done) | (go_simp;with_reducible rfl)
     try simp only [Tk.put]
     refine Tk.x 10 rfl ?_
     try simp only [Tk.put]
     refine Tk.y 11 (v:=.agg #[.int .i64 c.1,.int .i64 c.2.1,.int .i64 c.2.2]) rfl ?_ ?_
     ·intro wS hSw
      obtain⟨q0,q1,q2⟩:=HCB.out wS hSw
      first | (go_simp;done) | (go_simp;with_reducible rfl)
     try simp only [Tk.put]
     refine Tk.s 12 rfl (fun Kq hK=>?_)
     go_simp
     go_at_call 12
     refine (CN.out _).mono ?_
     rintro e W2 ⟨rfl,hb⟩
     have hS2:=hHeld.trans (hb.mono hHeld.size)
     clear hHeld hb
     dsimp only
     refine hK.out _ _ hS2 (fun hHeld=>?_)
     clear hK Kq hS2
     try simp only [Tk.put]
     refine Tk.x 13 rfl ?_
     try simp only [Tk.put]
     refine Tk.x 14 rfl ?_
     try simp only [Tk.put]
     refine wpAnyH_done (by kernel_rfl) ?_ _
     go_wp2_with fail
     go_roundw
     case rel=>exact⟨k+1,by omega,by go_num,by rw [hcn],hid (HW3.out.trans (hHeld.mono HW3.out.size))⟩
     case measure=>simp [intOf];omega
    ·obtain⟨g1,g2⟩:=kd6n h6
     have hkk:ka=kb:=(HSND.out.2 h6).symm
     clear h6 HSND
     subst hkk
     go_upto_region 11 with fail
     refine wp_region_held_drew (S:=fun w'=>Below w3.heap.size w3 w') (by kernel_rfl) (Below.refl _ _).drew (fun hHeld=>?_)
     clear c0
     generalize w3.drew=W1 at hHeld ⊢
     refine Tk.x 0 rfl ?_
     try simp only [Tk.put]
     refine Tk.t 1 (v:=.agg x.val) rfl (za6 _ rfl (by rfl) _ x rfl (fun _ h=>HNB.out.below HG.out h)) (by assumption) ?_
     try simp only [Tk.put]
     refine Tk.x 2 rfl ?_
     try simp only [Tk.put]
     refine Tk.x 3 rfl ?_
     try simp only [Tk.put]
     refine Tk.y 4 (v:=.int .i64 (ka:Int)) rfl ?_ ?_
     ·intro wS hSw
      have q:=(HNB.out.below HG.out hSw).at 1 (.int .i64 (ka:Int)) hA1.out
      first | (go_simp;done) | (go_simp;with_reducible rfl)
     try simp only [Tk.put]
     refine Tk.x 5 rfl ?_
     try simp only [Tk.put]
     refine Tk.y 6 (v:=.agg #[.int .i64 a.1,.int .i64 a.2.1,.int .i64 a.2.2]) rfl ?_ ?_
     ·intro wS hSw
      obtain⟨q0,q1,q2⟩:=HCA.out wS hSw
      first | (go_simp;done) | (go_simp;with_reducible rfl)
     try simp only [Tk.put]
     refine Tk.x 7 rfl ?_
     try simp only [Tk.put]
     refine Tk.x 8 rfl ?_
     try simp only [Tk.put]
     refine Tk.y 9 (v:=.int .i64 (ka:Int)) rfl ?_ ?_
     ·intro wS hSw
      have q:=(HNB.out.below HG.out hSw).at 1 (.int .i64 (ka:Int)) hA1.out
      first | (go_simp;done) | (go_simp;with_reducible rfl)
     try simp only [Tk.put]
     refine Tk.x 10 rfl ?_
     try simp only [Tk.put]
     refine Tk.y 11 (v:=.agg #[.int .i64 c.1,.int .i64 c.2.1,.int .i64 c.2.2]) rfl ?_ ?_
     ·intro wS hSw
      obtain⟨q0,q1,q2⟩:=HCB.out wS hSw
      first | (go_simp;done) | (go_simp;with_reducible rfl)
     try simp only [Tk.put]
     refine Tk.s 12 rfl (fun Kq hK=>?_)
     go_simp
     go_at_call 12
     refine (CN.out _).mono ?_
     rintro e W2 ⟨rfl,hb⟩
     have hS2:=hHeld.trans (hb.mono hHeld.size)
     clear hHeld hb
     dsimp only
     refine hK.out _ _ hS2 (fun hHeld=>?_)
     clear hK Kq hS2
     try simp only [Tk.put]
     refine Tk.x 13 rfl ?_
     try simp only [Tk.put]
     refine Tk.x 14 rfl ?_
     try simp only [Tk.put]
     refine wpAnyH_done (by kernel_rfl) ?_ _
     go_wp2_with fail
     go_roundw
     case rel=>exact⟨k+1,by omega,by go_num,by rw [hcn],hid (HW3.out.trans (hHeld.mono HW3.out.size))⟩
     case measure=>simp [intOf];omega
   ·obtain rfl:k=m:=by omega
    obtain⟨a,ha1,ha2⟩:=tvV_at (L:=L) (k:=k) HLN.out (by have:=HM.out;omega)
    have hout:outT b.X t0 b.n=a:=by unfold outT;rw [HL.out,HM.out];exact ha2
    have hsh:zae a.1 a.2.1 a.2.2=true:=shL_right (outS_ok HS9.out).1 (outS_ok HS9.out).2 a (by rw [HL.out];exact List.mem_of_getElem? ha1)
    obtain⟨y1,y2⟩:=za5 hsh
    have hbd:=costN_bd b.X L k
    have hblk:blkZ b.X t0 b.n b.ex cl=costN b.X L k+(if b.ex then clZ cl * (elT a+1) else 0):=by
     unfold blkZ;rw [HL.out,HM.out];simp only [ha2]
    have hr:=HCE.out k a ha1
    have g0:=(HW.out.cell (p:=⟨bl,ol+k * 3,none⟩) HBL.out).trans (hr 0 _ rfl)
    have g1:=(HW.out.cell (p:=⟨bl,ol+k * 3+1,none⟩) HBL.out).trans (hr 1 _ rfl)
    have g2:=(HW.out.cell (p:=⟨bl,ol+k * 3+2,none⟩) HBL.out).trans (hr 2 _ rfl)
    have e0:(n9:Int) - 1=(k:Int):=by have:=HN9.out;have:=HM.out;omega
    have e1:IntKind.i64.wrap ((n9:Int) - 1)=(k:Int):=by rw [e0];exact IntWalk.i64_in _ (by have:=HM.out;omega)
    have i0:(0:Int)≤(k:Int):=by omega
    have i1:(k:Int) < (n9:Int):=by have:=HN9.out;have:=HM.out;omega
    have HOUT:=hid hout
    have HBLK:=hid hblk
    have CE:=hid (fun wx:World=>zah a.1 a.2.1 a.2.2 (elT a) rfl wx)
    have HFW:=hid (HF.out.below (B':=w2.heap.size) (by have:=HSZ.out;omega) HW.out)
    have HBW:=hid (HB2.out.trans (HW.out.mono HB2.out.size))
    have hlw:w.heap.size+2 < wr.heap.size:=Nat.lt_of_lt_of_le HSZ.out HW.out.size
    have HLW:=hid hlw
    generalize elT a=y at *
    generalize hso:costN b.X L k=so at *
    have k8:(k:Int)≤8:=by have:=HM.out;omega
    clear ha1 ha2 hout hsh hblk hr HCE hlw
    cases hex:b.ex with
    | false =>
      rw [hex] at k1
      have hl0:w.heap.size < wr.heap.size:=by have:=HLW.out;omega
      have hl1:w.heap.size+2 < wr.heap.size:=HLW.out
      have hz:blkZ b.X t0 b.n b.ex cl=so:=by rw [HBLK.out,hex];simp
      have HZ:=hid hz
      clear hz hbd
      go_upto_region 15 with fail
      obtain⟨⟨z0,z1,z2⟩,z4,z5,z6⟩:=(HFW.out.below (B':=wr.heap.size) HLW.out ((Below.refl _ _).alloc (le_refl _) (.cells #[.int .i64 a.1,.int .i64 a.2.1,.int .i64 a.2.2] 30)))
      have ta:=TriAt.new a 30 wr
      have HBX:=hid (HBW.out.alloc HBW.out.size (.cells #[.int .i64 a.1,.int .i64 a.2.1,.int .i64 a.2.2] 30))
      have u1:wr.heap.size≠w.heap.size+2:=by have:=HLW.out;omega
      generalize wr.alloc (.cells #[.int .i64 a.1,.int .i64 a.2.1,.int .i64 a.2.2] 30)=W5 at z0 z1 z2 z4 z5 z6 ta HBX ⊢
      obtain⟨t0',t1',t2'⟩:=ta
      go_wp2_with fail
      go_region
      all_goals
       go_wp2_with fail
       refine bodyPost_ret (results_tct rfl _ _ (w.heap.size+2) 0 [.int .i64 a.1,.int .i64 a.2.1,.int .i64 a.2.2] _ rfl (Kit.zaj (by go_cell) (by go_cell) (by go_cell)) Tryd.underlying30 rfl (by kernel_rfl)) rfl ?_
       exact⟨.inr ⟨HS9.out,by rw [HOUT.out,hex.symm,HZ.out];rfl⟩,by have hbw:=HBX.out;go_grown⟩
    | true =>
      rw [hex] at k1
      have hl0:w.heap.size < wr.heap.size:=by have:=HLW.out;omega
      have hl1:w.heap.size+2 < wr.heap.size:=HLW.out
      obtain⟨mx,hmx⟩:∃ mx,(if cl < 0 then 0 else cl)=mx:=⟨_,rfl⟩
      obtain⟨q,hq⟩:∃ q,(if 16 < mx then 16 else mx)=q:=⟨_,rfl⟩
      have hqc:clZ cl=q:=by rw [← hq, ← hmx];unfold clZ;split <;> split <;> omega
      have hqb:=clZ_bd cl
      rw [hqc] at hqb
      have hz:blkZ b.X t0 b.n b.ex cl=so+q * (y+1):=by rw [HBLK.out,hex,hqc];simp
      have HZ:=hid hz
      have hm1:0≤q * (y+1)∧q * (y+1)≤16 * 1025:=⟨Int.mul_nonneg (by omega) (by omega),Int.mul_le_mul hqb.2 (by omega) (by omega) (by omega)⟩
      have v1:IntKind.i64.wrap (y+1)=y+1:=IntWalk.i64_in _ (by omega)
      have v2:IntKind.i64.wrap (q * (y+1))=q * (y+1):=IntWalk.i64_in _ (by omega)
      have v3:IntKind.i64.wrap (so+q * (y+1))=so+q * (y+1):=IntWalk.i64_in _ (by omega)
      clear hz hbd hqb hqc hm1 y1 y2
      go_wp2_with fail
      go_at_call 21
      with_reducible refine (CE.out _).mono ?_
      rintro e w5 ⟨rfl,hb5⟩
      have hal:Below wr.heap.size wr (wr.alloc (.cells #[.int .i64 a.1,.int .i64 a.2.1,.int .i64 a.2.2] 30)):=(Below.refl _ _).alloc (le_refl _) _
      have hb6:=hal.trans (hb5.mono hal.size)
      obtain⟨⟨z0,z1,z2⟩,z4,z5,z6⟩:=HFW.out.below (B':=wr.heap.size) HLW.out hb6
      obtain⟨t0',t1',t2'⟩:=(TriAt.new a 30 wr).below (Nat.lt_of_lt_of_le (by simp) (le_refl (wr.alloc (.cells #[.int .i64 a.1,.int .i64 a.2.1,.int .i64 a.2.2] 30)).heap.size)) hb5
      have HBX:=hid (HBW.out.trans (hb6.mono HBW.out.size))
      have u1:wr.heap.size≠w.heap.size+2:=by have:=HLW.out;omega
      clear hb5 hb6 hal g0 g1 g2 k0 k1
      go_wp2_with fail
      go_region
      all_goals
       go_wp2_with fail
       refine bodyPost_ret (results_tct rfl _ _ (w.heap.size+2) 0 [.int .i64 a.1,.int .i64 a.2.1,.int .i64 a.2.2] _ rfl (Kit.zaj (by go_cell) (by go_cell) (by go_cell)) Tryd.underlying30 rfl (by kernel_rfl)) rfl ?_
       exact⟨.inr ⟨HS9.out,by rw [HOUT.out,hex.symm,HZ.out];rfl⟩,by have hbw:=HBX.out;go_grown⟩
end CCost
end
end Go.Proofs.YtjhlkmnpfibgaaaDoor
