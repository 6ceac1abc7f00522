/- -/
import Derived.Test.YtjhlkmnpfibgaaaDoorGT47
open Go.Lib (hid)
open Nat (le_refl lt_of_succ_lt lt_succ_self)
set_option linter.unusedVariables false
set_option linter.unusedSimpArgs false
set_option maxRecDepth 100000
set_option maxHeartbeats 16000000
namespace Go.Proofs.YtjhlkmnpfibgaaaDoor
namespace CConv
end CConv
namespace CDense
end CDense
namespace CSat
end CSat
namespace CTensor
end CTensor
open Go Go.ChangeShapes Go.WideShapes Go.ChangeAt Go.RowKit Go.Deep
section
namespace CCost
open Plain CSat CFix CShape CTensor CConv CKind CGraph CDense CBund
theorem own_cell {w:World} {base g n c:Nat} {e:TypeId} {xs:List Value} (h:w.ownsRow base e 1 (.slice (some ⟨g,0,none⟩) n c) n xs) {j:Nat} {u:Value} (hj:xs[j]?=some u):w.cell? ⟨g,j,none⟩=some u:=by
 obtain⟨A,c',he, -, -,hr⟩:=Kit.zbw h
 cases he
 obtain⟨ad,e2, -,hc⟩:=hr j u hj
 cases e2
 rw [Go.WideShapes.add_plain,Nat.zero_add] at hc
 exact hc
theorem own_heap {w w':World} {base s n:Nat} {e:TypeId} {v:Value} {xs:List Value} (h:w.ownsRow base e s v n xs) (hk:∀ g,v.ownBlock=some g→w'.heap[g]?=w.heap[g]?):w'.ownsRow base e s v n xs:=by
 refine⟨h.1,?_⟩
 rcases h.2 with h0 | ⟨g,cap,cur,rfl,h2,hh,rest⟩
 ·exact .inl h0
 ·exact .inr ⟨g,cap,cur,rfl,h2,by rw [hk g rfl];exact hh,rest⟩
structure KeptS (TB:Nat) (ro:Option Nat) (w w':World):Prop where
 size:w.heap.size≤w'.heap.size
 block:∀ k,k < w.heap.size→k≠TB→some k≠ro→w'.heap[k]?=w.heap[k]?
theorem KeptS.cell {TB b j:Nat} {ro:Option Nat} {w w':World} (h:KeptS TB ro w w') (h1:b < w.heap.size) (h2:b≠TB) (h3:some b≠ro):w'.cell? ⟨b,j,none⟩=w.cell? ⟨b,j,none⟩:=World.cell?_of_block (h.block b h1 h2 h3)
theorem KeptS.frozen {TB b j:Nat} {ro:Option Nat} {w w':World} (h:KeptS TB ro w w') (h1:b < w.heap.size) (h2:b≠TB) (h3:some b≠ro):w'.frozen? ⟨b,j,none⟩=w.frozen? ⟨b,j,none⟩:=World.frozen?_of_block (h.block b h1 h2 h3)
theorem KeptS.of_below {TB:Nat} {ro:Option Nat} {w w':World} (h:Below w.heap.size w w'):KeptS TB ro w w':=⟨h.size,fun k hk _ _=>h.block k hk⟩
theorem KeptS.trans {TB:Nat} {ro:Option Nat} {a b c:World} (h:KeptS TB ro a b) (k:KeptS TB ro b c):KeptS TB ro a c:=⟨Nat.le_trans h.size k.size,fun q hq h1 h2=>(k.block q (Nat.lt_of_lt_of_le hq h.size) h1 h2).trans (h.block q hq h1 h2)⟩
theorem KeptS.grown {TB:Nat} {ro:Option Nat} {w w':World} (h:w.grownBy w' ro):KeptS TB ro w w':=⟨h.size,fun k hk _ hr=>h.block k hk hr⟩
theorem KeptS.set {TB j:Nat} {ro:Option Nat} (w:World) (v:Value):KeptS TB ro w (w.setCell ⟨TB,j,none⟩ v):=⟨by rw [World.size_setCell];exact le_refl _,fun k hk h1 _=>Below.heap_setCell _ _ _ k (fun e=>h1 (by rw [e]))⟩
def AddPost (TB RB n i k:Nat) (vs:List Value) (v6:Value) (F:Nat→Int) (cc z:Int) (o:Tri) (w:World) (e:Ending) (w':World):Prop :=
 (z≠0∧e=.returned (.tuple #[.agg #[.int .i64 0,.int .i64 0,.int .i64 0],.int .i64 z])∧Below w.heap.size w w') ∨
 (z=0∧e=.returned (.tuple #[.agg #[.int .i64 o.1,.int .i64 o.2.1,.int .i64 o.2.2],.int .i64 0])∧∃ A c,w'.ownsRow TB 60 1 (.slice (some ⟨TB,0,none⟩) n n) n (vs.set i (.slice A (k+1) c))∧w'.ownsRow RB 3 1 (.slice A (k+1) c) (k+1) (rowI F k ++ [.int .i64 cc])∧Below TB w w'∧KeptS TB v6.ownBlock w w')
theorem cadd_to (u:Bu) (bk:Bk) (hfb:bk.n≤12) (ti o:Tri) (cc z:Int) (hcc:cZ bk.X ti bk.n bk.ex u.cl=cc) (hoo:oT bk.X ti bk.n=o) (hzz:outZ bk.X ti bk.n=z) (BU TB BT RB n i k:Nat) (hTB:TB < BT) (hRB:BT < RB) (hi:i < n) (hn4:n≤4) (hk8:k≤8) (A6:Option Addr) (c6:Nat) (vs:List Value) (F:Nat→Int) (w:World)
  (hT:zav w) (hX:∀ j,j < bk.n→(bk.X j).Small) (hA:NodesAt w TB bk.A bk.n bk.X) (hBU:BU < TB) (hcl:w.cell? ⟨BU,3,none⟩=some (.int .i64 u.cl)) (hBT:w.cell? ⟨BT,0,none⟩=some (.slice (some ⟨TB,0,none⟩) n n)) (hTBs:RB≤w.heap.size)
  (hvs:vs[i]?=some (.slice A6 k c6)) (hrows:w.ownsRow TB 60 1 (.slice (some ⟨TB,0,none⟩) n n) n vs) (hrow:w.ownsRow RB 3 1 (.slice A6 k c6) k (rowI F k)) :
  Calls Tryd.prog 26 #[.int .i64 (i:Int),.agg bk.val.toArray,.agg #[.int .i64 ti.1,.int .i64 ti.2.1,.int .i64 ti.2.2],.pointer (some ⟨BU,0,none⟩),.pointer (some ⟨BT,0,none⟩)] w (AddPost TB RB n i k vs (.slice A6 k c6) F cc z o w):=by
 have hb1:=(Below.refl w.heap.size w).alloc (le_refl _) (.cells bk.val.toArray 28)
 have b3:Below (w.heap.size+2) ((w.alloc (.cells bk.val.toArray 28)).alloc (.cells #[.int .i64 ti.1,.int .i64 ti.2.1,.int .i64 ti.2.2] 30)) (((w.alloc (.cells bk.val.toArray 28)).alloc (.cells #[.int .i64 ti.1,.int .i64 ti.2.1,.int .i64 ti.2.2] 30)).alloc (.cells #[.int .i64 0,.int .i64 0,.int .i64 0] 30)):=(Below.refl _ _).alloc (by simp) _
 have b2:Below (w.heap.size+1) (w.alloc (.cells bk.val.toArray 28)) (((w.alloc (.cells bk.val.toArray 28)).alloc (.cells #[.int .i64 ti.1,.int .i64 ti.2.1,.int .i64 ti.2.2] 30)).alloc (.cells #[.int .i64 0,.int .i64 0,.int .i64 0] 30)):=((Below.refl _ _).alloc (by simp) _).trans (b3.mono (by omega))
 have HB0:=hid (hb1.trans (b2.mono (by omega)))
 have HK:=hid ((BkAt.new bk 28 w).below (lt_succ_self _) b2)
 have q2:=TriAt.new ti 30 (w.alloc (.cells bk.val.toArray 28))
 have q3:=zbt.new 30 ((w.alloc (.cells bk.val.toArray 28)).alloc (.cells #[.int .i64 ti.1,.int .i64 ti.2.1,.int .i64 ti.2.2] 30))
 simp only [World.size_alloc] at q2 q3
 have HTI:=hid (q2.below (lt_succ_self _) b3)
 have HF3:=hid q3
 have HSZ:Hid (w.heap.size+3≤(((w.alloc (.cells bk.val.toArray 28)).alloc (.cells #[.int .i64 ti.1,.int .i64 ti.2.1,.int .i64 ti.2.2] 30)).alloc (.cells #[.int .i64 0,.int .i64 0,.int .i64 0] 30)).heap.size):=hid (by simp)
 have HT:=hid hT
 have HNA:=hid hA
 have CB:Hid (∀ wx,zav wx→NodesAt wx wx.heap.size bk.A bk.n bk.X→Calls Tryd.prog 8 #[.agg bk.val.toArray,.agg #[.int .i64 ti.1,.int .i64 ti.2.1,.int .i64 ti.2.2],.int .i64 u.cl] wx fun e w'=>e=.returned (.tuple #[.int .i64 cc,.int .i64 z])∧Below wx.heap.size wx w') :=
  hid (fun wx hT hA=>(cblock_to bk ti u.cl (by omega) wx hT hX hA).mono fun e w' h=>by have h:=cst_view h;rw [hcc,hzz] at h;exact h)
 have CO:Hid (∀ wx,zav wx→NodesAt wx wx.heap.size bk.A bk.n bk.X→Calls Tryd.prog 9 #[.agg bk.val.toArray,.agg #[.int .i64 ti.1,.int .i64 ti.2.1,.int .i64 ti.2.2]] wx fun e w'=>e=.returned (.tuple #[.agg #[.int .i64 o.1,.int .i64 o.2.1,.int .i64 o.2.2],.int .i64 z])∧Below wx.heap.size wx w') :=
  hid (fun wx hT hA=>(out_to bk ti (by omega) wx hT hX hA).mono fun e w' h=>by have h:=out_view h;rw [hoo,hzz] at h;exact h)
 obtain⟨i1,hj0,hj1,hj2,hj3⟩:=info_parts info_int8c
 have HROWS:=hid hrows
 have HROW:=hid hrow
 have HVS:=hid hvs
 have HCL:=hid hcl
 have HBT:=hid hBT
 have HTS:=hid hTBs
 have HBU:=hid hBU
 have HK8:=hid hk8
 have HI4:=hid (And.intro hi hn4)
 have i5:(0:Int)≤(i:Int):=by omega
 have i6:(i:Int) < (n:Int):=by omega
 clear hb1 b2 b3 q2 q3 hT hA hX hcc hoo hzz hrows hrow hvs hcl hBT hTBs hBU hk8 hi hn4
 go_enter Tryd.func26,Tryd.ntmps26
 go_upto_region 1 with fail
 generalize ((w.alloc (.cells bk.val.toArray 28)).alloc (.cells #[.int .i64 ti.1,.int .i64 ti.2.1,.int .i64 ti.2.2] 30)).alloc (.cells #[.int .i64 0,.int .i64 0,.int .i64 0] 30)=W0 at HB0 HK HTI HF3 HSZ ⊢
 obtain⟨k0,k1,k2,k3,k4⟩:=HK.out
 obtain⟨a0,a1,a2⟩:=HTI.out
 have y3:W0.cell? ⟨BU,3,none⟩=some (.int .i64 u.cl):=(HB0.out.cell (p:=⟨BU,3,none⟩) (by show BU < w.heap.size;have:=HBU.out;have:=HTS.out;omega)).trans HCL.out
 go_upto_region 2 with (go_at_call 8;(refine (CB.out _ (HT.out.grown HB0.out) (((HNA.out.below (HB0.out.mono (by have:=HTS.out;omega))).more (by have:=HTS.out;have:=HB0.out.size;omega)))).mono ?_);rintro e w1 ⟨rfl,hb⟩;have HC1:=hid hb;clear hb)
 have HB1:=hid (HB0.out.trans (HC1.out.mono HB0.out.size))
 replace HK:=hid (HK.out.below (by have:=HSZ.out;omega) HC1.out)
 replace HTI:=hid (HTI.out.below (by have:=HSZ.out;omega) HC1.out)
 replace HF3:=hid (HF3.out.below (by have:=HSZ.out;omega) HC1.out)
 replace HSZ:=hid (Nat.le_trans HSZ.out HC1.out.size)
 clear k0 k1 k2 k3 k4 a0 a1 a2 y3 CB HC1
 by_cases hz0:z=0
 ·subst hz0
  go_upto_region 4 with fail
  have HOW1:=hid (Kit.own_below HROWS.out HB1.out)
  have HRW1:=hid (Kit.own_below HROW.out HB1.out)
  have HS4:Hid (RB≤w1.heap.size):=hid (by have:=HTS.out;have:=HB1.out.size;omega)
  have HTC:Hid (w1.cell? ⟨BT,0,none⟩=some (.slice (some ⟨TB,0,none⟩) n n)):=hid ((HB1.out.cell (p:=⟨BT,0,none⟩) (by show BT < w.heap.size;have:=HTS.out;omega)).trans HBT.out)
  refine wp_region_held_drew (S:=fun wx=>wx.cell? ⟨BT,0,none⟩=some (.slice (some ⟨TB,0,none⟩) n n)) (by kernel_rfl) HTC.out (fun hHeld=>?_)
  have HOD:=hid (Kit.own_below HOW1.out (Below.refl w1.heap.size w1).drew)
  have HRD:=hid (Kit.own_below HRW1.out (Below.refl w1.heap.size w1).drew)
  have HSD:Hid (RB≤w1.drew.heap.size):=hid HS4.out
  have HSW:Hid (w.heap.size+3≤w1.drew.heap.size):=hid HSZ.out
  have HKD:Hid (KeptS TB (Value.slice A6 k c6).ownBlock w1 w1.drew):=hid (KeptS.of_below (Below.refl w1.heap.size w1).drew)
  have HBD:Hid (Below TB w1 w1.drew):=hid (Below.refl _ _).drew
  clear HOW1 HRW1 HTC
  generalize w1.drew=W1 at hHeld HOD HRD HSD HSW HKD HBD ⊢
  refine Tk.y 0 (v:=.slice (some ⟨TB,0,none⟩) n n) rfl ?_ ?_
  ·intro wS hSw
   first | (go_simp;done) | (go_simp;with_reducible rfl)
  try simp only [Tk.put]
  refine Tk.x 1 rfl ?_
  try simp only [Tk.put]
  refine Tk.y 2 (v:=.slice (some ⟨TB,0,none⟩) n n) rfl ?_ ?_
  ·intro wS hSw
   first | (go_simp;done) | (go_simp;with_reducible rfl)
  try simp only [Tk.put]
  refine Tk.x 3 rfl ?_
  try simp only [Tk.put]
  refine Tk.x 4 rfl ?_
  try simp only [Tk.put]
  refine Tk.x 6 rfl ?_
  try simp only [Tk.put]
  refine wpAnyH_ready (rs:=[5,7]) (by kernel_rfl) (by simp) ?_
  refine Tk.c rfl (fun Kq hK=>?_) (Tk.c rfl (fun Kq hK=>?_) AllReadyH.nil)
  ·skip
   have hc5:W1.cell? ⟨TB,i,none⟩=some (.slice A6 k c6):=own_cell HOD.out HVS.out
   go_simp
   have hS2:=hHeld
   clear hHeld hc5
   refine hK.out _ _ hS2 (fun hHeld=>?_)
   clear hK Kq hS2
   try simp only [Tk.put]
   refine Tk.s 7 rfl (fun Kq hK=>?_)
   go_simp
   have hS2:(W1.alloc (.cells #[.int .i64 cc] 3)).cell? ⟨BT,0,none⟩=some (.slice (some ⟨TB,0,none⟩) n n):=(((Below.refl W1.heap.size W1).alloc (le_refl _) (.cells #[.int .i64 cc] 3)).cell (p:=⟨BT,0,none⟩) (by show BT < W1.heap.size;have:=HSD.out;omega)).trans hHeld
   have hal:Below W1.heap.size W1 (W1.alloc (.cells #[.int .i64 cc] 3)):=(Below.refl _ _).alloc (le_refl _) _
   replace HOD:=hid (Kit.own_below HOD.out hal)
   replace HRD:=hid (Kit.own_below HRD.out hal)
   replace HKD:=hid (HKD.out.trans (KeptS.of_below hal))
   replace HBD:=hid (HBD.out.trans (hal.mono (by have:=HSD.out;omega)))
   have HNW:Hid (Kit.Rd (W1.alloc (.cells #[.int .i64 cc] 3)) (W1.heap.size+1) (some ⟨W1.heap.size,0,none⟩) [.int .i64 cc]):=hid (Kit.Rd.new _ _ _ (lt_succ_self _))
   replace HSD:=hid (Nat.le_trans HSD.out hal.size)
   replace HSW:=hid (Nat.le_trans HSW.out hal.size)
   clear hal hHeld
   generalize W1.alloc (.cells #[.int .i64 cc] 3)=W2 at hS2 HOD HRD HKD HBD HNW HSD HSW ⊢
   refine hK.out _ _ hS2 (fun hHeld=>?_)
   clear hK Kq hS2
   try simp only [Tk.put]
   refine Tk.s 8 rfl (fun Kq hK=>?_)
   refine Kit.step_append_rd _ rfl (.tmp 29) (.tmp 31) _ rfl RB 3 i1 (.int .i64 0) 1 8 Tryd.underlying60 hj0 hj1 hj2 hj3 rfl (by decide) _ k (rowI F k) rfl HRD.out _ _ 1 1 [.int .i64 cc] rfl rfl HNW.out (Kit.zbs .i64 [cc]) (by have:=HK8.out;unfold maxLen;omega) (by have:=HK8.out;omega) HSD.out ?_
   intro v5 w5 hown5 hg5 hat5
   obtain⟨A5,c5,rfl, -, -, -⟩:=Kit.zbw hown5
   have HAT:Hid (∀ g,(Value.slice A5 (k+1) c5).ownBlock=some g→g≠w.heap.size+2):=hid (fun g hg=>by rcases hat5 with h | h <;> rw [hg] at h;have:=za7 HROW.out g h.symm;omega;have:=HSW.out;cases h;omega)
   clear hat5
   have hne:some (BT)≠(Value.slice A6 k c6).ownBlock:=fun e=>by have:=Kit.zan HRD.out (BT) e.symm;omega
   have hS2:w5.cell? ⟨BT,0,none⟩=some (.slice (some ⟨TB,0,none⟩) n n):=(World.cell?_of_block (a:=⟨BT,0,none⟩) (hg5.block (BT) (by have:=HSD.out;omega) hne)).trans hHeld
   have HO5:=hid (HOD.out.kept hg5 (zbp HOD.out HRD.out (by decide)))
   have HR5:=hid hown5
   replace HBD:=hid (HBD.out.trans ((Below.refl TB _).grown hg5 (by have:=HSD.out;omega) (fun q hq=>by have:=Kit.zan HRD.out q hq;omega)))
   replace HKD:=hid (HKD.out.trans (KeptS.grown hg5))
   replace HSD:=hid (Nat.le_trans HSD.out hg5.size)
   clear hown5 hg5 hHeld HOD HRD HNW hne
   dsimp only
   refine hK.out _ _ hS2 (fun hHeld=>?_)
   clear hK Kq hS2
   try simp only [Tk.put]
   refine Tk.x 9 rfl ?_
   try simp only [Tk.put]
   have hf5:=HO5.out.frozenAt i
   have hc5:∃ q,w5.cell? ⟨TB,i,none⟩=some q:=⟨_,own_cell HO5.out HVS.out⟩
   obtain⟨q5,hc5⟩:=hc5
   refine Tk.s 10 rfl (fun Kq hK=>?_)
   go_simp
   have hS2:(w5.setCell ⟨TB,i,none⟩ (.slice A5 (k+1) c5)).cell? ⟨BT,0,none⟩=some (.slice (some ⟨TB,0,none⟩) n n):=(World.cell?_setCell_other _ _ _ _ (fun e=>by injection e;omega)).trans hHeld
   have HO6:=hid ((HO5.out.stored i (.slice A5 (k+1) c5)).1)
   have HR6:Hid ((w5.setCell ⟨TB,i,none⟩ (.slice A5 (k+1) c5)).ownsRow RB 3 1 (.slice A5 (k+1) c5) (k+1) (rowI F k ++ [.int .i64 cc])):=hid (HR5.out.kept (HO5.out.stored i (.slice A5 (k+1) c5)).2 (.inr (fun e=>by have:=Kit.zan HR5.out TB e;omega)))
   have HB6:Hid (Below TB w1 (w5.setCell ⟨TB,i,none⟩ (.slice A5 (k+1) c5))):=hid (HBD.out.setCell (p:=⟨TB,i,none⟩) (le_refl _) _)
   have HK6:Hid (KeptS TB (Value.slice A6 k c6).ownBlock w1 (w5.setCell ⟨TB,i,none⟩ (.slice A5 (k+1) c5))):=hid (HKD.out.trans (KeptS.set w5 _))
   clear hHeld hf5 hc5 HO5 HR5 HBD HKD
   generalize w5.setCell ⟨TB,i,none⟩ (.slice A5 (k+1) c5)=W6 at hS2 HO6 HR6 HB6 HK6 ⊢
   refine hK.out _ _ hS2 (fun hHeld=>?_)
   clear hK Kq hS2
   try simp only [Tk.put]
   refine wpAnyH_done (by kernel_rfl) ?_ _
   clear hHeld
   have HNE:Hid (∀ q,w.heap.size≤q→q≠TB∧some q≠(Value.slice A6 k c6).ownBlock):=hid (fun q hq=>⟨by have:=HTS.out;omega,fun e=>by have:=za7 HROW.out q e.symm;omega⟩)
   have HK9:Hid (BkAt w.heap.size bk W6):=hid (by
    obtain⟨h1,h2⟩:=HNE.out w.heap.size (le_refl _)
    obtain⟨p0,p1,p2,p3,p4⟩:=HK.out
    have hl:w.heap.size < w1.heap.size:=by have:=HSZ.out;omega
    exact⟨(HK6.out.cell hl h1 h2).trans p0,(HK6.out.cell hl h1 h2).trans p1,(HK6.out.cell hl h1 h2).trans p2,(HK6.out.cell hl h1 h2).trans p3,(HK6.out.cell hl h1 h2).trans p4⟩)
   have HT9:Hid (TriAt (w.heap.size+1) ti W6):=hid (by
    obtain⟨h1,h2⟩:=HNE.out (w.heap.size+1) (by omega)
    obtain⟨p0,p1,p2⟩:=HTI.out
    have hl:w.heap.size+1 < w1.heap.size:=by have:=HSZ.out;omega
    exact⟨(HK6.out.cell hl h1 h2).trans p0,(HK6.out.cell hl h1 h2).trans p1,(HK6.out.cell hl h1 h2).trans p2⟩)
   have HF9:Hid (zbt (w.heap.size+2) W6):=hid (by
    obtain⟨h1,h2⟩:=HNE.out (w.heap.size+2) (by omega)
    obtain⟨⟨p0,p1,p2⟩,p3,p4,p5⟩:=HF3.out
    have hl:w.heap.size+2 < w1.heap.size:=by have:=HSZ.out;omega
    exact⟨⟨(HK6.out.cell hl h1 h2).trans p0,(HK6.out.cell hl h1 h2).trans p1,(HK6.out.cell hl h1 h2).trans p2⟩,(HK6.out.frozen hl h1 h2).trans p3,(HK6.out.frozen hl h1 h2).trans p4,(HK6.out.frozen hl h1 h2).trans p5⟩)
   have HKW:Hid (KeptS TB (Value.slice A6 k c6).ownBlock w W6):=hid ((KeptS.of_below HB1.out).trans HK6.out)
   have HBW:Hid (Below TB w W6):=hid ((HB1.out.mono (by have:=HTS.out;omega)).trans HB6.out)
   have HS6:Hid (w.heap.size+3≤W6.heap.size):=hid (Nat.le_trans HSZ.out HK6.out.size)
   have HN6:Hid (NodesAt W6 W6.heap.size bk.A bk.n bk.X):=hid ((HNA.out.below HBW.out).more (by have:=HTS.out;have:=HS6.out;omega))
   clear HNE HK6 HB6 HK HTI HF3 HB1
   obtain⟨k0,k1,k2,k3,k4⟩:=HK9.out
   obtain⟨a0,a1,a2⟩:=HT9.out
   go_wp2_with (go_at_call 9;(refine (CO.out _ (HT.out.below HBW.out (by have:=HBU.out;omega)) HN6.out).mono ?_);rintro e w9 ⟨rfl,hb⟩;(have HB9:=hid hb);clear hb k0 k1 k2 k3 k4 a0 a1 a2;obtain⟨⟨z0,z1,z2⟩,z4,z5,z6⟩:=HF9.out.below (B':=W6.heap.size) (by have:=HS6.out;omega) HB9.out)
   refine bodyPost_ret (Kit.zab rfl _ _ (w.heap.size+2) 0 [.int .i64 o.1,.int .i64 o.2.1,.int .i64 o.2.2] _ rfl (Kit.zaj (by go_cell) (by go_cell) (by go_cell)) Tryd.underlying30 rfl (by kernel_rfl)) rfl ?_
   have hs6:=HS6.out
   have hbe:Below (w.heap.size+2) W6 (((w9.setCell ⟨w.heap.size+2,0,none⟩ (.int .i64 o.1)).setCell ⟨w.heap.size+2,1,none⟩ (.int .i64 o.2.1)).setCell ⟨w.heap.size+2,2,none⟩ (.int .i64 o.2.2)):=(((HB9.out.mono (show w.heap.size+2≤W6.heap.size by omega)).setCell (p:=⟨w.heap.size+2,0,none⟩) (le_refl _) _).setCell (p:=⟨w.heap.size+2,1,none⟩) (le_refl _) _).setCell (p:=⟨w.heap.size+2,2,none⟩) (le_refl _) _
   have hkk:∀ q,q < W6.heap.size→q≠w.heap.size+2→(((w9.setCell ⟨w.heap.size+2,0,none⟩ (.int .i64 o.1)).setCell ⟨w.heap.size+2,1,none⟩ (.int .i64 o.2.1)).setCell ⟨w.heap.size+2,2,none⟩ (.int .i64 o.2.2)).heap[q]?=W6.heap[q]?:=fun q hq hne=>by
    rw [Below.heap_setCell _ _ _ q (fun e=>hne (by rw [e])),Below.heap_setCell _ _ _ q (fun e=>hne (by rw [e])),Below.heap_setCell _ _ _ q (fun e=>hne (by rw [e]))]
    exact HB9.out.block q hq
   refine .inr ⟨rfl,rfl,A5,c5,own_heap HO6.out (fun g hg=>hkk g (za7 HO6.out g hg) (by cases hg;show TB≠w.heap.size+2;have:=HTS.out;omega)),own_heap HR6.out (fun g hg=>hkk g (za7 HR6.out g hg) (HAT.out g hg)),HBW.out.trans (hbe.mono (by have:=HTS.out;omega)),Nat.le_trans HKW.out.size hbe.size,fun q hq h1 h2=>(hbe.block q (by omega)).trans (HKW.out.block q hq h1 h2)⟩
  ·skip
   go_simp
   have hS2:(W1.alloc (.cells #[.int .i64 cc] 3)).cell? ⟨BT,0,none⟩=some (.slice (some ⟨TB,0,none⟩) n n):=(((Below.refl W1.heap.size W1).alloc (le_refl _) (.cells #[.int .i64 cc] 3)).cell (p:=⟨BT,0,none⟩) (by show BT < W1.heap.size;have:=HSD.out;omega)).trans hHeld
   have hal:Below W1.heap.size W1 (W1.alloc (.cells #[.int .i64 cc] 3)):=(Below.refl _ _).alloc (le_refl _) _
   replace HOD:=hid (Kit.own_below HOD.out hal)
   replace HRD:=hid (Kit.own_below HRD.out hal)
   replace HKD:=hid (HKD.out.trans (KeptS.of_below hal))
   replace HBD:=hid (HBD.out.trans (hal.mono (by have:=HSD.out;omega)))
   have HNW:Hid (Kit.Rd (W1.alloc (.cells #[.int .i64 cc] 3)) (W1.heap.size+1) (some ⟨W1.heap.size,0,none⟩) [.int .i64 cc]):=hid (Kit.Rd.new _ _ _ (lt_succ_self _))
   replace HSD:=hid (Nat.le_trans HSD.out hal.size)
   replace HSW:=hid (Nat.le_trans HSW.out hal.size)
   clear hal hHeld
   generalize W1.alloc (.cells #[.int .i64 cc] 3)=W2 at hS2 HOD HRD HKD HBD HNW HSD HSW ⊢
   refine hK.out _ _ hS2 (fun hHeld=>?_)
   clear hK Kq hS2
   try simp only [Tk.put]
   refine Tk.s 5 rfl (fun Kq hK=>?_)
   have hc5:W2.cell? ⟨TB,i,none⟩=some (.slice A6 k c6):=own_cell HOD.out HVS.out
   go_simp
   have hS2:=hHeld
   clear hHeld hc5
   refine hK.out _ _ hS2 (fun hHeld=>?_)
   clear hK Kq hS2
   try simp only [Tk.put]
   refine Tk.s 8 rfl (fun Kq hK=>?_)
   refine Kit.step_append_rd _ rfl (.tmp 29) (.tmp 31) _ rfl RB 3 i1 (.int .i64 0) 1 8 Tryd.underlying60 hj0 hj1 hj2 hj3 rfl (by decide) _ k (rowI F k) rfl HRD.out _ _ 1 1 [.int .i64 cc] rfl rfl HNW.out (Kit.zbs .i64 [cc]) (by have:=HK8.out;unfold maxLen;omega) (by have:=HK8.out;omega) HSD.out ?_
   intro v5 w5 hown5 hg5 hat5
   obtain⟨A5,c5,rfl, -, -, -⟩:=Kit.zbw hown5
   have HAT:Hid (∀ g,(Value.slice A5 (k+1) c5).ownBlock=some g→g≠w.heap.size+2):=hid (fun g hg=>by rcases hat5 with h | h <;> rw [hg] at h;have:=za7 HROW.out g h.symm;omega;have:=HSW.out;cases h;omega)
   clear hat5
   have hne:some (BT)≠(Value.slice A6 k c6).ownBlock:=fun e=>by have:=Kit.zan HRD.out (BT) e.symm;omega
   have hS2:w5.cell? ⟨BT,0,none⟩=some (.slice (some ⟨TB,0,none⟩) n n):=(World.cell?_of_block (a:=⟨BT,0,none⟩) (hg5.block (BT) (by have:=HSD.out;omega) hne)).trans hHeld
   have HO5:=hid (HOD.out.kept hg5 (zbp HOD.out HRD.out (by decide)))
   have HR5:=hid hown5
   replace HBD:=hid (HBD.out.trans ((Below.refl TB _).grown hg5 (by have:=HSD.out;omega) (fun q hq=>by have:=Kit.zan HRD.out q hq;omega)))
   replace HKD:=hid (HKD.out.trans (KeptS.grown hg5))
   replace HSD:=hid (Nat.le_trans HSD.out hg5.size)
   clear hown5 hg5 hHeld HOD HRD HNW hne
   dsimp only
   refine hK.out _ _ hS2 (fun hHeld=>?_)
   clear hK Kq hS2
   try simp only [Tk.put]
   refine Tk.x 9 rfl ?_
   try simp only [Tk.put]
   have hf5:=HO5.out.frozenAt i
   have hc5:∃ q,w5.cell? ⟨TB,i,none⟩=some q:=⟨_,own_cell HO5.out HVS.out⟩
   obtain⟨q5,hc5⟩:=hc5
   refine Tk.s 10 rfl (fun Kq hK=>?_)
   go_simp
   have hS2:(w5.setCell ⟨TB,i,none⟩ (.slice A5 (k+1) c5)).cell? ⟨BT,0,none⟩=some (.slice (some ⟨TB,0,none⟩) n n):=(World.cell?_setCell_other _ _ _ _ (fun e=>by injection e;omega)).trans hHeld
   have HO6:=hid ((HO5.out.stored i (.slice A5 (k+1) c5)).1)
   have HR6:Hid ((w5.setCell ⟨TB,i,none⟩ (.slice A5 (k+1) c5)).ownsRow RB 3 1 (.slice A5 (k+1) c5) (k+1) (rowI F k ++ [.int .i64 cc])):=hid (HR5.out.kept (HO5.out.stored i (.slice A5 (k+1) c5)).2 (.inr (fun e=>by have:=Kit.zan HR5.out TB e;omega)))
   have HB6:Hid (Below TB w1 (w5.setCell ⟨TB,i,none⟩ (.slice A5 (k+1) c5))):=hid (HBD.out.setCell (p:=⟨TB,i,none⟩) (le_refl _) _)
   have HK6:Hid (KeptS TB (Value.slice A6 k c6).ownBlock w1 (w5.setCell ⟨TB,i,none⟩ (.slice A5 (k+1) c5))):=hid (HKD.out.trans (KeptS.set w5 _))
   clear hHeld hf5 hc5 HO5 HR5 HBD HKD
   generalize w5.setCell ⟨TB,i,none⟩ (.slice A5 (k+1) c5)=W6 at hS2 HO6 HR6 HB6 HK6 ⊢
   refine hK.out _ _ hS2 (fun hHeld=>?_)
   clear hK Kq hS2
   try simp only [Tk.put]
   refine wpAnyH_done (by kernel_rfl) ?_ _
   clear hHeld
   have HNE:Hid (∀ q,w.heap.size≤q→q≠TB∧some q≠(Value.slice A6 k c6).ownBlock):=hid (fun q hq=>⟨by have:=HTS.out;omega,fun e=>by have:=za7 HROW.out q e.symm;omega⟩)
   have HK9:Hid (BkAt w.heap.size bk W6):=hid (by
    obtain⟨h1,h2⟩:=HNE.out w.heap.size (le_refl _)
    obtain⟨p0,p1,p2,p3,p4⟩:=HK.out
    have hl:w.heap.size < w1.heap.size:=by have:=HSZ.out;omega
    exact⟨(HK6.out.cell hl h1 h2).trans p0,(HK6.out.cell hl h1 h2).trans p1,(HK6.out.cell hl h1 h2).trans p2,(HK6.out.cell hl h1 h2).trans p3,(HK6.out.cell hl h1 h2).trans p4⟩)
   have HT9:Hid (TriAt (w.heap.size+1) ti W6):=hid (by
    obtain⟨h1,h2⟩:=HNE.out (w.heap.size+1) (by omega)
    obtain⟨p0,p1,p2⟩:=HTI.out
    have hl:w.heap.size+1 < w1.heap.size:=by have:=HSZ.out;omega
    exact⟨(HK6.out.cell hl h1 h2).trans p0,(HK6.out.cell hl h1 h2).trans p1,(HK6.out.cell hl h1 h2).trans p2⟩)
   have HF9:Hid (zbt (w.heap.size+2) W6):=hid (by
    obtain⟨h1,h2⟩:=HNE.out (w.heap.size+2) (by omega)
    obtain⟨⟨p0,p1,p2⟩,p3,p4,p5⟩:=HF3.out
    have hl:w.heap.size+2 < w1.heap.size:=by have:=HSZ.out;omega
    exact⟨⟨(HK6.out.cell hl h1 h2).trans p0,(HK6.out.cell hl h1 h2).trans p1,(HK6.out.cell hl h1 h2).trans p2⟩,(HK6.out.frozen hl h1 h2).trans p3,(HK6.out.frozen hl h1 h2).trans p4,(HK6.out.frozen hl h1 h2).trans p5⟩)
   have HKW:Hid (KeptS TB (Value.slice A6 k c6).ownBlock w W6):=hid ((KeptS.of_below HB1.out).trans HK6.out)
   have HBW:Hid (Below TB w W6):=hid ((HB1.out.mono (by have:=HTS.out;omega)).trans HB6.out)
   have HS6:Hid (w.heap.size+3≤W6.heap.size):=hid (Nat.le_trans HSZ.out HK6.out.size)
   have HN6:Hid (NodesAt W6 W6.heap.size bk.A bk.n bk.X):=hid ((HNA.out.below HBW.out).more (by have:=HTS.out;have:=HS6.out;omega))
   clear HNE HK6 HB6 HK HTI HF3 HB1
   obtain⟨k0,k1,k2,k3,k4⟩:=HK9.out
   obtain⟨a0,a1,a2⟩:=HT9.out
   go_wp2_with (go_at_call 9;(refine (CO.out _ (HT.out.below HBW.out (by have:=HBU.out;omega)) HN6.out).mono ?_);rintro e w9 ⟨rfl,hb⟩;(have HB9:=hid hb);clear hb k0 k1 k2 k3 k4 a0 a1 a2;obtain⟨⟨z0,z1,z2⟩,z4,z5,z6⟩:=HF9.out.below (B':=W6.heap.size) (by have:=HS6.out;omega) HB9.out)
   refine bodyPost_ret (Kit.zab rfl _ _ (w.heap.size+2) 0 [.int .i64 o.1,.int .i64 o.2.1,.int .i64 o.2.2] _ rfl (Kit.zaj (by go_cell) (by go_cell) (by go_cell)) Tryd.underlying30 rfl (by kernel_rfl)) rfl ?_
   have hs6:=HS6.out
   have hbe:Below (w.heap.size+2) W6 (((w9.setCell ⟨w.heap.size+2,0,none⟩ (.int .i64 o.1)).setCell ⟨w.heap.size+2,1,none⟩ (.int .i64 o.2.1)).setCell ⟨w.heap.size+2,2,none⟩ (.int .i64 o.2.2)):=(((HB9.out.mono (show w.heap.size+2≤W6.heap.size by omega)).setCell (p:=⟨w.heap.size+2,0,none⟩) (le_refl _) _).setCell (p:=⟨w.heap.size+2,1,none⟩) (le_refl _) _).setCell (p:=⟨w.heap.size+2,2,none⟩) (le_refl _) _
   have hkk:∀ q,q < W6.heap.size→q≠w.heap.size+2→(((w9.setCell ⟨w.heap.size+2,0,none⟩ (.int .i64 o.1)).setCell ⟨w.heap.size+2,1,none⟩ (.int .i64 o.2.1)).setCell ⟨w.heap.size+2,2,none⟩ (.int .i64 o.2.2)).heap[q]?=W6.heap[q]?:=fun q hq hne=>by
    rw [Below.heap_setCell _ _ _ q (fun e=>hne (by rw [e])),Below.heap_setCell _ _ _ q (fun e=>hne (by rw [e])),Below.heap_setCell _ _ _ q (fun e=>hne (by rw [e]))]
    exact HB9.out.block q hq
   refine .inr ⟨rfl,rfl,A5,c5,own_heap HO6.out (fun g hg=>hkk g (za7 HO6.out g hg) (by cases hg;show TB≠w.heap.size+2;have:=HTS.out;omega)),own_heap HR6.out (fun g hg=>hkk g (za7 HR6.out g hg) (HAT.out g hg)),HBW.out.trans (hbe.mono (by have:=HTS.out;omega)),Nat.le_trans HKW.out.size hbe.size,fun q hq h1 h2=>(hbe.block q (by omega)).trans (HKW.out.block q hq h1 h2)⟩
 ·have hz2:(z != 0)=true:=by simpa using hz0
  obtain⟨⟨z0,z1,z2⟩,z4,z5,z6⟩:=HF3.out
  have HZ:=hid hz0
  clear hz0
  go_wp2_with fail
  refine bodyPost_ret (Kit.zab rfl _ _ (w.heap.size+2) 0 [.int .i64 0,.int .i64 0,.int .i64 0] _ rfl (Kit.zaj (by go_cell) (by go_cell) (by go_cell)) Tryd.underlying30 rfl (by kernel_rfl)) rfl ?_
  exact .inl ⟨HZ.out,rfl,((HB1.out.setCell (p:=⟨w.heap.size+2,0,none⟩) (Nat.le_add_right _ _) _).setCell (p:=⟨w.heap.size+2,1,none⟩) (Nat.le_add_right _ _) _).setCell (p:=⟨w.heap.size+2,2,none⟩) (Nat.le_add_right _ _) _⟩
end CCost
end
end Go.Proofs.YtjhlkmnpfibgaaaDoor
