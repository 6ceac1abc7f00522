/- -/
import Derived.RangeFuncBox
import Derived.Test.YtfgdfignoakkaaaGreatDoorGBT39
open Go.Lib (hid)
open Nat (le_refl lt_of_succ_lt lt_succ_self)
set_option linter.unusedVariables false
set_option linter.unusedSimpArgs false
set_option maxRecDepth 100000
set_option maxHeartbeats 16000000
namespace Go.Proofs.YtfgdfignoakkaaaGreatDoor
namespace CConv
end CConv
namespace CDense
end CDense
namespace CFix
end CFix
namespace CGraph
end CGraph
namespace CKind
end CKind
namespace CSat
end CSat
namespace CShape
end CShape
namespace CTensor
end CTensor
namespace Kit
end Kit
open Go Go.ChangeShapes Go.WideShapes Go.ChangeAt Go.RowKit Go.Deep
section
namespace CCrc
open Go Go.ChangeShapes Go.WideShapes Go.ChangeAt Go.RowKit
open CrcNum
theorem rd_newf (w:World) (cs:List Value) (T:TypeId) (fz:Nat × Nat) {B:Nat} (hB:w.heap.size < B):Kit.Rd (w.alloc (.cells cs.toArray T fz)) B (some ⟨w.heap.size,0,none⟩) cs:=fun j u hu=>by
 refine⟨_,rfl,hB,?_⟩
 have e:(⟨w.heap.size,0,none⟩:Addr).add j=⟨w.heap.size,j,none⟩:=by
  unfold Addr.add;split
  ·rename_i h;subst h;rfl
  ·simp
 rw [e]
 have hb:(w.alloc (.cells cs.toArray T fz)).heap[w.heap.size]?=some (.cells cs.toArray T fz):=heap_alloc_new w _
 unfold World.cell?
 rw [hb]
 simpa using hu
theorem of_n (A:Option Addr) (zs:List Int) (n c:Nat) (hn:zs.length=n) (hl:n≤9223372036854775807) (hz:U8s zs) (w:World) (hT:za5 w) {B:Nat} (hr:Kit.Rd w B A (zs.map (.int .u8))) :
  Calls Tryz.prog 32 #[.slice A n c] w fun e w'=>e=.returned (.int .u32 (toI (crcOf zs)))∧w=w':=by
 subst hn;exact of A zs c hl hz w hT hr
theorem u8_bd {a:Int} (h:(Lit.int .u8 a).wf=true):0≤a∧a≤255:=by simpa [Lit.wf,IntKind.min,IntKind.max,IntKind.signed,IntKind.bits] using h
theorem u16_bd {a:Int} (h:(Lit.int .u16 a).wf=true):0≤a∧a≤65535:=by simpa [Lit.wf,IntKind.min,IntKind.max,IntKind.signed,IntKind.bits] using h
end CCrc
end
section
namespace CCost
open Plain CSat CFix CShape CTensor CConv CKind CGraph CDense CBund
/-! ### what a block costs, in one form -/
def BkAt (B:Nat) (b:Bk) (w:World):Prop:=w.cell? ⟨B,0,none⟩=some (.slice b.A b.n b.c)∧w.cell? ⟨B,1,none⟩=some (.bool b.ex)∧w.cell? ⟨B,2,none⟩=some (.slice b.hd.WA b.hd.nW b.hd.cW)∧w.cell? ⟨B,3,none⟩=some (.slice b.hd.BA b.hd.nB b.hd.cB)∧w.cell? ⟨B,4,none⟩=some (.int .i32 b.hd.D)
theorem BkAt.new (b:Bk) (T:TypeId) (w:World):BkAt w.heap.size b (w.alloc (.cells b.val.toArray T)):=⟨Kit.zab _ _ _ _,Kit.zab _ _ _ _,Kit.zab _ _ _ _,Kit.zab _ _ _ _,Kit.zab _ _ _ _⟩
theorem BkAt.below {B B':Nat} {b:Bk} {w w':World} (h:BkAt B b w) (hB:B < B') (hb:Below B' w w'):BkAt B b w' :=
 ⟨(hb.cell (p:=⟨B,0,none⟩) hB).trans h.1,(hb.cell (p:=⟨B,1,none⟩) hB).trans h.2.1,(hb.cell (p:=⟨B,2,none⟩) hB).trans h.2.2.1,(hb.cell (p:=⟨B,3,none⟩) hB).trans h.2.2.2.1,(hb.cell (p:=⟨B,4,none⟩) hB).trans h.2.2.2.2⟩
def inT (m:Md) (t0:Tri):Nat→Tri
 | 0=>t0
 | k+1=>outT (m.K k).X (inT m t0 k) (m.K k).n
def mdT0 (u:Bu):Tri:=(u.H,u.W,u.C)
def InAt (B:Nat) (t:Tri) (w:World):Prop:=TriAt B t w∧w.frozen? ⟨B,0,none⟩=false∧w.frozen? ⟨B,1,none⟩=false∧w.frozen? ⟨B,2,none⟩=false
theorem InAt.new (t:Tri) (T:TypeId) (w:World):InAt w.heap.size t (w.alloc (.cells #[.int .i64 t.1,.int .i64 t.2.1,.int .i64 t.2.2] T)):=⟨TriAt.new t T w,World.frozen?_alloc_at _ _ _ _ rfl,World.frozen?_alloc_at _ _ _ _ rfl,World.frozen?_alloc_at _ _ _ _ rfl⟩
theorem InAt.below {B B':Nat} {t:Tri} {w w':World} (h:InAt B t w) (hB:B < B') (hb:Below B' w w'):InAt B t w' :=
 ⟨h.1.below hB hb,(hb.frozen (p:=⟨B,0,none⟩) hB).trans h.2.1,(hb.frozen (p:=⟨B,1,none⟩) hB).trans h.2.2.1,(hb.frozen (p:=⟨B,2,none⟩) hB).trans h.2.2.2⟩
theorem InAt.set {B:Nat} {t:Tri} {w:World} (h:InAt B t w) (s:Tri):InAt B s (((w.setCell ⟨B,0,none⟩ (.int .i64 s.1)).setCell ⟨B,1,none⟩ (.int .i64 s.2.1)).setCell ⟨B,2,none⟩ (.int .i64 s.2.2)):=by
 obtain⟨⟨h0,h1,h2⟩,f0,f1,f2⟩:=h
 exact⟨⟨by go_cell,by go_cell,by go_cell⟩,by go_cell,by go_cell,by go_cell⟩
def UAt (B:Nat) (u:Bu) (w:World):Prop:=w.cell? ⟨B,0,none⟩=some (.int .i64 u.H)∧w.cell? ⟨B,1,none⟩=some (.int .i64 u.W)∧w.cell? ⟨B,2,none⟩=some (.int .i64 u.C)∧w.cell? ⟨B,3,none⟩=some (.int .i64 u.cl)∧w.cell? ⟨B,4,none⟩=some (.slice u.A u.n u.c)
theorem UAt.new (u:Bu) (T:TypeId) (w:World):UAt w.heap.size u (w.alloc (.cells u.val.toArray T)):=⟨Kit.zab _ _ _ _,Kit.zab _ _ _ _,Kit.zab _ _ _ _,Kit.zab _ _ _ _,Kit.zab _ _ _ _⟩
theorem UAt.below {B B':Nat} {u:Bu} {w w':World} (h:UAt B u w) (hB:B < B') (hb:Below B' w w'):UAt B u w' :=
 ⟨(hb.cell (p:=⟨B,0,none⟩) hB).trans h.1,(hb.cell (p:=⟨B,1,none⟩) hB).trans h.2.1,(hb.cell (p:=⟨B,2,none⟩) hB).trans h.2.2.1,(hb.cell (p:=⟨B,3,none⟩) hB).trans h.2.2.2.1,(hb.cell (p:=⟨B,4,none⟩) hB).trans h.2.2.2.2⟩
theorem blk_cells {w:World} {B:Nat} {m:Md} (h:MdOk w B m) {k:Nat} (hk:k < m.n):∃ bb ob,m.A=some ⟨bb,ob,none⟩∧bb < B∧w.cell? ⟨bb,ob+k * 5,none⟩=some (.slice (m.K k).A (m.K k).n (m.K k).c)∧w.cell? ⟨bb,ob+k * 5+1,none⟩=some (.bool (m.K k).ex)∧w.cell? ⟨bb,ob+k * 5+2,none⟩=some (.slice (m.K k).hd.WA (m.K k).hd.nW (m.K k).hd.cW)∧w.cell? ⟨bb,ob+k * 5+3,none⟩=some (.slice (m.K k).hd.BA (m.K k).hd.nB (m.K k).hd.cB)∧w.cell? ⟨bb,ob+k * 5+4,none⟩=some (.int .i32 (m.K k).hd.D):=by
 obtain⟨bb,ob,e,hb,hr⟩:=h.blocks k hk
 exact⟨bb,ob,e,hb,hr 0 _ rfl,hr 1 _ rfl,hr 2 _ rfl,hr 3 _ rfl,hr 4 _ rfl⟩
theorem mod_cells {w:World} {B:Nat} {u:Bu} (h:BuOk w B u) {i:Nat} (hi:i < u.n):∃ bm om,u.A=some ⟨bm,om,none⟩∧bm < B∧w.cell? ⟨bm,om+i,none⟩=some (.slice (u.M i).A (u.M i).n (u.M i).c):=by
 obtain⟨bm,om,e,hb,hr⟩:=h.models i hi
 have:=hr 0 _ rfl
 exact⟨bm,om,e,hb,by simpa using this⟩
end CCost
end
section
namespace CBunM
open Kit Plain CSat CShape CTensor CConv CKind CGraph CBund
def UVal (H W C cl:Int) (A:Option Addr) (n c:Nat):List Value:=[.int .i64 H,.int .i64 W,.int .i64 C,.int .i64 cl,.slice A n c]
theorem sbun_yes {m1 m2:Bool} {l1 h1 l2 h2:Nat} (x y:Bu) (p:PU) (hf:p.few) (w:World) (hx:BuIn m1 w l1 h1 x p) (hy:BuIn m2 w l2 h2 y p) (g1:h1≤w.heap.size) (g2:h2≤w.heap.size) :
  Calls Tryz.prog 14 #[.agg x.val.toArray,.agg y.val.toArray] w fun e w'=>e=.returned (.bool true)∧Below w.heap.size w w':=by
 obtain⟨H,W,C,cl,A,n,c,X⟩:=x
 obtain⟨H',W',C',cl',A',n',c',X'⟩:=y
 obtain⟨⟨r1,r2,r3,r4⟩,e1,_,hN,hE⟩:=hx
 obtain⟨⟨s1,s2,s3,s4⟩,f1,_,hN',hE'⟩:=hy
 dsimp only at r1 r2 r3 r4 s1 s2 s3 s4 e1 f1 hN hE hN' hE'
 obtain rfl:H=H':=r1.trans s1.symm
 obtain rfl:W=W':=r2.trans s2.symm
 obtain rfl:C=C':=r3.trans s3.symm
 obtain rfl:cl=cl':=r4.trans s4.symm
 obtain rfl:n=n':=e1.trans f1.symm
 obtain⟨q1,q2⟩:=hf
 obtain⟨W0,hW0⟩:∃ W0,W0=(w.alloc (.cells (UVal H W C cl A n c).toArray 26)).alloc (.cells (UVal H W C cl A' n c').toArray 26):=⟨_,rfl⟩
 have hsz0:W0.heap.size=w.heap.size+2:=by rw [hW0];simp
 have hb0:Below w.heap.size w W0:=by rw [hW0];exact ((Below.refl _ w).alloc (le_refl _) _).alloc (by simp) _
 have hbx:CBox 5 w.heap.size (UVal H W C cl A n c) W0:=by
  rw [hW0]
  exact (CBox.new (UVal H W C cl A n c) 26 w).below (B:=w.heap.size+1) (lt_succ_self _) ((Below.refl _ _).alloc (by simp) _)
 have hby:CBox 5 (w.heap.size+1) (UVal H W C cl A' n c') W0:=by
  rw [hW0]
  have:=CBox.new (UVal H W C cl A' n c') 26 (w.alloc (.cells (UVal H W C cl A n c).toArray 26))
  rwa [World.size_alloc] at this
 have hcells:∀ wS,Below W0.heap.size W0 wS→wS.cell? ⟨w.heap.size,4,none⟩=some (.slice A n c)∧wS.cell? ⟨w.heap.size+1,4,none⟩=some (.slice A' n c'):=fun wS h =>
  ⟨(hbx.below (by omega) h).at 4 _ rfl,(hby.below (by omega) h).at 4 _ rfl⟩
 have a0:W0.cell? ⟨w.heap.size,0,none⟩=some (.int .i64 H):=hbx.at 0 _ rfl
 have a1:W0.cell? ⟨w.heap.size,1,none⟩=some (.int .i64 W):=hbx.at 1 _ rfl
 have a2:W0.cell? ⟨w.heap.size,2,none⟩=some (.int .i64 C):=hbx.at 2 _ rfl
 have a3:W0.cell? ⟨w.heap.size,3,none⟩=some (.int .i64 cl):=hbx.at 3 _ rfl
 have a4:W0.cell? ⟨w.heap.size,4,none⟩=some (.slice A n c):=hbx.at 4 _ rfl
 have d0:W0.cell? ⟨w.heap.size+1,0,none⟩=some (.int .i64 H):=hby.at 0 _ rfl
 have d1:W0.cell? ⟨w.heap.size+1,1,none⟩=some (.int .i64 W):=hby.at 1 _ rfl
 have d2:W0.cell? ⟨w.heap.size+1,2,none⟩=some (.int .i64 C):=hby.at 2 _ rfl
 have d3:W0.cell? ⟨w.heap.size+1,3,none⟩=some (.int .i64 cl):=hby.at 3 _ rfl
 have d4:W0.cell? ⟨w.heap.size+1,4,none⟩=some (.slice A' n c'):=hby.at 4 _ rfl
 have q30:=fun w:World=>eqShape H W C H W C w
 have g30:=Tryz.eqGuardType23
 have HSZ0:=hid hsz0
 have HB0:=hid hb0
 have HC:=hid hcells
 have HN:=hid hN
 have HN':=hid hN'
 have HE:=hid hE
 have HE':=hid hE'
 have HQ:=hid q2
 have hn4:n≤4:=by rw [e1];exact q1
 have HNP:=hid e1
 clear hbx hby hcells hsz0 hb0 hN hN' hE hE' q1 q2 e1 f1 r1 r2 r3 r4 s1 s2 s3 s4
 go_enter Tryz.func14,Tryz.ntmps14
 go_upto_region 1 with fail
 simp only [UVal] at hW0
 simp only [Bu.val]
 rw [← hW0]
 clear hW0
 go_wp2_with fail
 clear a1 a2 a3 a4 d1 d2 d3 d4 q30 g30
 go_loopw [5] (fun v wr=>∃ i:Nat,i≤n∧v=.int .i64 i∧Hid (Below W0.heap.size W0 wr)) (fun v _=>n - (intOf v).toNat)
 case atStart=>exact⟨0,Nat.zero_le _,rfl,hid (Below.refl _ _)⟩
 case round =>
  obtain⟨i,hii,rfl,HB⟩:=hrel
  have hc:=HC.out wr HB.out
  obtain⟨a0,d0⟩:=hc
  have HBW:=hid (HB0.out.trans (HB.out.mono (by have:=HSZ0.out;omega)))
  by_cases hlt:i < n
  ·have k0:(0:Int)≤(i:Int):=by omega
   have k1:(i:Int) < (n:Int):=by omega
   have hk1:Kept l1 h1 w wr:=Kept.of_below HBW.out g1
   have hk2:Kept l2 h2 w wr:=Kept.of_below HBW.out g2
   obtain⟨ga,oa,rfl,u1,u2,hra,_⟩:=(HN.out.keep hk1) i hlt
   obtain⟨gb,ob,rfl,v1,v2,hrb,_⟩:=(HN'.out.keep hk2) i hlt
   simp only [Nat.mul_one] at hra hrb
   have hr:∀ wS,Below wr.heap.size wr wS→wS.rangeAt ga (oa+i) (X i).val∧wS.rangeAt gb (ob+i) (X' i).val:=fun wS h =>
    ⟨fun q v hq=>(h.cell (p:=⟨ga,_,none⟩) (Nat.lt_of_lt_of_le u2 (Nat.le_trans g1 HBW.out.size))).trans (hra q v hq),fun q v hq=>(h.cell (p:=⟨gb,_,none⟩) (Nat.lt_of_lt_of_le v2 (Nat.le_trans g2 HBW.out.size))).trans (hrb q v hq)⟩
   have HR:=hid hr
   have HCW:Hid (∀ wS,Below wr.heap.size wr wS→wS.cell? ⟨w.heap.size,4,none⟩=some (.slice (some ⟨ga,oa,none⟩) n c)∧wS.cell? ⟨w.heap.size+1,4,none⟩=some (.slice (some ⟨gb,ob,none⟩) n c')):=hid (fun wS h=>HC.out wS (HB.out.trans (h.mono HB.out.size)))
   have HCL:Hid (∀ wS,Below wr.heap.size wr wS→Calls Tryz.prog 30 #[.agg (X i).val.toArray,.agg (X' i).val.toArray] wS fun e w'=>e=.returned (.bool true)∧Below wS.heap.size wS w'):=hid (fun wS h =>
    smod_yes (X i) (X' i) (p.M i) (HQ.out i (by rw [← HNP.out];exact hlt)) wS (((HE.out i hlt).keep hk1).keep (Kept.of_below h (Nat.le_trans g1 HBW.out.size))) (((HE'.out i hlt).keep hk2).keep (Kept.of_below h (Nat.le_trans g2 HBW.out.size))) (Nat.le_trans (Nat.le_trans g1 HBW.out.size) h.size) (Nat.le_trans (Nat.le_trans g2 HBW.out.size) h.size))
   clear hk1 hk2 hra hrb hr u1 u2 v1 v2
   go_upto_region 6 with fail
   refine wp_region_held_drew (S:=fun wS=>Below wr.heap.size wr wS) (by kernel_rfl) (Below.refl _ _).drew (fun hHeld=>?_)
   generalize hw3:wr.drew=w3 at hHeld
   clear hw3
   refine Tk.x 0 rfl ?_
   try simp only [Tk.put]
   refine Tk.y 1 (v:=.slice (some ⟨ga,oa,none⟩) n c) rfl ?_ ?_
   ·intro wS hSw
    obtain⟨q0,q1⟩:=HCW.out wS hSw
    first | (go_simp;done) | (go_simp;with_reducible rfl)
   try simp only [Tk.put]
   refine Tk.x 2 rfl ?_
   try simp only [Tk.put]
   refine Tk.x 3 rfl ?_
   try simp only [Tk.put]
   refine Tk.t 4 (v:=.agg (X i).val.toArray) rfl (yieldsIf_load_mid (by rfl) 42 _ rfl ga (oa+i) (by rfl) (X i).val _ (fun wS h=>(HR.out wS h).1) Tryz.underlying42 rfl (by kernel_rfl)) (by assumption) ?_
   try simp only [Tk.put]
   refine Tk.x 5 rfl ?_
   try simp only [Tk.put]
   refine Tk.y 6 (v:=.slice (some ⟨gb,ob,none⟩) n c') rfl ?_ ?_
   ·intro wS hSw
    obtain⟨q0,q1⟩:=HCW.out wS hSw
    first | (go_simp;done) | (go_simp;with_reducible rfl)
   try simp only [Tk.put]
   refine Tk.x 7 rfl ?_
   try simp only [Tk.put]
   refine Tk.x 8 rfl ?_
   try simp only [Tk.put]
   refine Tk.t 9 (v:=.agg (X' i).val.toArray) rfl (yieldsIf_load_mid (by rfl) 42 _ rfl gb (ob+i) (by rfl) (X' i).val _ (fun wS h=>(HR.out wS h).2) Tryz.underlying42 rfl (by kernel_rfl)) (by assumption) ?_
   try simp only [Tk.put]
   refine Tk.s 10 rfl (fun Kq hK=>?_)
   go_simp
   go_at_call 30
   refine (HCL.out _ hHeld).mono ?_
   rintro e w4 ⟨rfl,hb⟩
   have hS2:=hHeld.trans (hb.mono hHeld.size)
   clear hHeld hb
   dsimp only
   refine hK.out _ _ hS2 (fun hHeld=>?_)
   clear hK Kq hS2
   try simp only [Tk.put]
   refine Tk.x 11 rfl ?_
   try simp only [Tk.put]
   refine wpAnyH_done (by kernel_rfl) ?_ _
   have HH9:=hid hHeld
   clear hHeld a0 d0
   go_wp2_with fail
   go_roundw
   case rel=>exact⟨i+1,by omega,by go_num,hid (HB.out.trans (HH9.out.mono HB.out.size))⟩
   case measure=>simp [intOf];omega
  ·obtain rfl:i=n:=by omega
   go_wp2_with fail
   go_ret
   exact⟨rfl,HBW.out⟩
end CBunM
end
end Go.Proofs.YtfgdfignoakkaaaGreatDoor
