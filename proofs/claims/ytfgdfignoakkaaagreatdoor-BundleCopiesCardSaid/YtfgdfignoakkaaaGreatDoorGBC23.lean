/- -/
import Derived.Test.YtfgdfignoakkaaaGreatDoorGBC22
open Go.Lib (hid)
open Nat (le_refl lt_of_succ_lt lt_succ_self)
set_option linter.unusedVariables false
set_option linter.unusedSimpArgs false
set_option maxRecDepth 100000
set_option maxHeartbeats 16000000
namespace Go.Proofs.YtfgdfignoakkaaaGreatDoor
namespace CConv
end CConv
namespace CGraph
end CGraph
namespace CKind
end CKind
namespace CSat
end CSat
namespace CShape
end CShape
namespace CTensor
end CTensor
namespace Kit
end Kit
namespace Plain
end Plain
open Go Go.ChangeShapes Go.WideShapes Go.ChangeAt Go.RowKit Go.Deep
section
namespace CBunM
open Kit Plain CSat CShape CTensor CConv CKind CGraph CBund
def CBox (s b:Nat) (xs:List Value) (w:World):Prop:=w.rangeAt b 0 xs∧w.there b 0 s
theorem CBox.new (xs:List Value) (T:TypeId) (w:World):CBox xs.length w.heap.size xs (w.alloc (.cells xs.toArray T)):=by
 refine⟨fun j v hj=>?_,fun j hj=>?_⟩
 ·rw [Nat.zero_add,Kit.zae]
  simpa using hj
 ·rw [Nat.zero_add]
  constructor
  ·rw [Kit.zae]
   simp [hj]
  ·unfold World.frozen?;rw [heap_alloc_new];rfl
theorem CBox.keep {s b:Nat} {xs:List Value} {w w':World} (h:CBox s b xs w) (hk:Kept b (b+1) w w'):CBox s b xs w' :=
 ⟨fun j v hj=>(hk _ _ (le_refl _) (lt_succ_self _)).1.trans (h.1 j v hj),fun j hj=>⟨by rw [(hk _ _ (le_refl _) (lt_succ_self _)).1];exact (h.2 j hj).1,by rw [(hk _ _ (le_refl _) (lt_succ_self _)).2];exact (h.2 j hj).2⟩⟩
theorem CBox.below {s b B:Nat} {xs:List Value} {w w':World} (h:CBox s b xs w) (hB:b < B) (hb:Below B w w'):CBox s b xs w':=h.keep (Kept.of_below hb hB)
theorem CBox.at {s b:Nat} {xs:List Value} {w:World} (h:CBox s b xs w) (i:Nat) (v:Value) (hi:xs[i]?=some v):w.cell? ⟨b,i,none⟩=some v:=by
 have:=h.1 i v hi
 rwa [Nat.zero_add] at this
theorem CBox.fr {s b:Nat} {xs:List Value} {w:World} (h:CBox s b xs w) (i:Nat) (hi:i < s):w.frozen? ⟨b,i,none⟩=false:=by
 have:=(h.2 i hi).2
 rwa [Nat.zero_add] at this
theorem CBox.set {s b:Nat} {xs:List Value} {w:World} (h:CBox s b xs w) (i:Nat) (v:Value) (hi:i < s):CBox s b (xs.set i v) (w.setCell ⟨b,i,none⟩ v):=by
 have hc:=(h.2 i hi).1
 rw [Nat.zero_add] at hc
 refine⟨fun j u hj=>?_,fun j hj=>⟨?_,?_⟩⟩
 ·rw [Nat.zero_add]
  rw [List.getElem?_set] at hj
  by_cases e:i=j
  ·subst e
   rw [if_pos rfl] at hj
   split at hj
   ·cases hj
    exact World.cell?_setCell_same' _ _ _ hc
   ·cases hj
  ·rw [if_neg e] at hj
   rw [World.cell?_setCell_other _ _ _ _ (fun hh=>e (by injection hh))]
   have:=h.1 j u hj
   rwa [Nat.zero_add] at this
 ·rw [Nat.zero_add]
  by_cases e:i=j
  ·subst e
   rw [World.cell?_setCell_same' _ _ _ hc];rfl
  ·rw [World.cell?_setCell_other _ _ _ _ (fun hh=>e (by injection hh))]
   have:=(h.2 j hj).1
   rwa [Nat.zero_add] at this
 ·rw [World.frozen?_setCell];exact (h.2 j hj).2
theorem uinfo_sz:(Tryz.prog.info? 26).map (·.size)=some 5:=by kernel_rfl
theorem bu_all (x:Bu):x.val.toArray.all (·.oneCell')=true:=by simp [Bu.val,Value.oneCell']
theorem bu_store {ops:Array Oper} {rest:List Oper} {op:Oper} {a:Act} {w:World} {Q:Exit→Act→World→Prop} (hgd:op.guard=none) (x y:Operand) (ho:op.op=.store 26 x y)
  (b:Nat) (us:List Value) (v:Bu) (hx:a.eval x=.pointer (some ⟨b,0,none⟩)) (hy:a.eval y=.agg v.val.toArray) (hb:CBox 5 b us w)
  (h:∀ w',CBox 5 b v.val w'→Below b w w'→(∀ k,k≠b→w'.heap[k]?=w.heap[k]?)→w'.heap.size=w.heap.size→wpList Tryz.prog ops Q rest (a.put op.dst undef) w'):wpList Tryz.prog ops Q (op :: rest) a w:=by
 refine wpList_store_mid hgd 26 x y ho b 0 v.val.toArray hx hy hb.2 uinfo_sz (bu_all v) ?_
 have go:∀ (vs:List Value) (o:Nat) (w:World),Below b w (w.setCells b o vs)∧(∀ k,k≠b→(w.setCells b o vs).heap[k]?=w.heap[k]?)∧(w.setCells b o vs).heap.size=w.heap.size:=by
  intro vs
  induction vs with
  | nil=>intro o w;exact⟨Below.refl _ _,fun _ _=>rfl,rfl⟩
  | cons v vs ih=>intro o w;exact⟨((Below.refl b w).setCell (p:=⟨b,o,none⟩) (le_refl _) v).trans (ih (o+1) _).1,fun k hk=>((ih (o+1) (w.setCell ⟨b,o,none⟩ v)).2.1 k hk).trans (Below.heap_setCell w ⟨b,o,none⟩ v k hk),(ih (o+1) (w.setCell ⟨b,o,none⟩ v)).2.2.trans (by simp [World.setCell])⟩
 exact h _ ⟨World.rangeAt_setCells_same _ _ _ _ hb.2,World.there_setCells hb.2 _ _ _⟩ (go _ _ _).1 (go _ _ _).2.1 (go _ _ _).2.2
theorem bu_load {ops:Array Oper} {rest:List Oper} {op:Oper} {a:Act} {w:World} {Q:Exit→Act→World→Prop} (hgd:op.guard=none) (x:Operand) (ho:op.op=.load 26 x)
  (b:Nat) (u:Bu) (hx:a.eval x=.pointer (some ⟨b,0,none⟩)) (hb:w.rangeAt b 0 u.val)
  (h:wpList Tryz.prog ops Q rest (a.put op.dst (.agg u.val.toArray)) w):wpList Tryz.prog ops Q (op :: rest) a w :=
 wpList_load_mid hgd 26 x ho b 0 hx u.val _ hb Tryz.underlying26 rfl (by kernel_rfl) h
def mdK (x:Md) (A:Option Addr) (c:Nat) (K:Nat→Bk):Md := { x with A:=A,c:=c,K:=K }
theorem mdK_val (x:Md) (A:Option Addr) (c:Nat) (K:Nat→Bk):x.val.set 0 (.slice A x.n c)=(mdK x A c K).val:=rfl
def BuOwn (w:World) (p:PU) (e:Ending) (w':World):Prop :=
 ∃ u,e=.returned (.agg u.val.toArray)∧BuIn true w' w.heap.size w'.heap.size u p∧Below w.heap.size w w'
theorem ccopyU_to (u:Bu) (p:PU) (hf:p.few) {m:Bool} {lo hi:Nat} (w:World) (hw:hi≤w.heap.size) (hU:BuIn m w lo hi u p) :
  Calls Tryz.prog 17 #[.agg u.val.toArray] w (BuOwn w p):=by
 obtain⟨W0,hW0⟩:∃ W0,W0=(w.alloc (.cells u.val.toArray 26)).alloc (.cells #[.int .i64 0,.int .i64 0,.int .i64 0,.int .i64 0,.slice none 0 0] 26):=⟨_,rfl⟩
 have hsz0:W0.heap.size=w.heap.size+2:=by rw [hW0];simp
 have hb0:Below w.heap.size w W0:=by rw [hW0];exact ((Below.refl _ w).alloc (le_refl _) _).alloc (by simp) _
 have hbx:CBox 5 w.heap.size u.val W0:=by
  rw [hW0]
  exact (CBox.new u.val 26 w).below (B:=w.heap.size+1) (lt_succ_self _) ((Below.refl _ _).alloc (by simp) _)
 have hbr:CBox 5 (w.heap.size+1) [.int .i64 0,.int .i64 0,.int .i64 0,.int .i64 0,.slice none 0 0] W0:=by
  rw [hW0]
  have:=CBox.new [.int .i64 0,.int .i64 0,.int .i64 0,.int .i64 0,.slice none 0 0] 26 (w.alloc (.cells u.val.toArray 26))
  simpa using this
 have HSZ0:=hid hsz0
 have HB0:=hid hb0
 have HBX:=hid hbx
 have HBR:=hid hbr
 have HU:=hid hU
 have HF:=hid hf
 have hn4:u.n≤4:=by rw [hU.n];exact hf.1
 have HN4:=hid hn4
 obtain⟨n,hn⟩:∃ n,u.n=n:=⟨_,rfl⟩
 have HN:=hid hn
 have c4:W0.cell? ⟨w.heap.size,4,none⟩=some (.slice u.A n u.c):=by rw [← hn];exact hbx.at 4 _ rfl
 have z4:W0.frozen? ⟨w.heap.size,4,none⟩=false:=hbx.fr 4 (by decide)
 have hux:MdsX m W0 lo hi u.A n u.M:=by rw [← hn];exact hU.models.keep (Kept.of_below hb0 hw)
 have CL:=hid (bclone_m u.A (flatE Md.val u.M n) n u.c (flatE_len (s:=1) (val:=Md.val) (fun _=>rfl) u.M n) (by omega) (flatE_mem md_ones u.M n) W0 (B:=hi) (by omega) (zab.rdx (s:=1) (val:=Md.val) (fun _=>rfl) (by decide) hux).rd)
 clear hsz0 hb0 hbx hbr hU hf hn4 hn hux
 go_enter Tryz.func17,Tryz.ntmps17
 go_upto_region 1 with fail
 rw [← hW0]
 clear hW0
 have hsc:∀ (x:World) (h:Below W0.heap.size W0 x),x.cell? ⟨w.heap.size,4,none⟩=some (.slice u.A n u.c)∧x.frozen? ⟨w.heap.size,4,none⟩=false:=fun x h =>
  ⟨(h.cell (p:=⟨w.heap.size,4,none⟩) (by have:=HSZ0.out;show w.heap.size < _;omega)).trans c4,(h.frozen (p:=⟨w.heap.size,4,none⟩) (by have:=HSZ0.out;show w.heap.size < _;omega)).trans z4⟩
 have HSC:=hid hsc
 clear hsc
 go_upto_region 2 with (first
  | (go_at_call 35
     refine CL.out.mono ?_
     rintro e w1 ⟨A1,c1,rfl,h1,h2,h3,h4⟩
     have HX1:=hid (zab.of_rdx (s:=1) (val:=Md.val) (fun _=>rfl) (by decide) h3)
     have HB1:=hid h4
     have HC1:=hid (And.intro h1 h2)
     obtain⟨d4,y4⟩:=HSC.out _ h4
     clear h1 h2 h3 h4 c4 z4))
 generalize hw2:w1.setCell ⟨w.heap.size,4,none⟩ (.slice A1 n c1)=w2
 have hsz:=HSZ0.out
 have s01:W0.heap.size≤w1.heap.size:=HB1.out.size
 have s12:w2.heap.size=w1.heap.size:=by rw [← hw2];simp [World.setCell]
 have HX2:Hid (MdsX true w2 W0.heap.size w1.heap.size A1 n u.M):=hid (by rw [← hw2];exact HX1.out.keep (Kept.setCell _ (Or.inl (by omega))))
 have HB2:Hid (Below w.heap.size w w2):=hid (by rw [← hw2];exact (HB0.out.trans (HB1.out.mono HB0.out.size)).setCell (p:=⟨w.heap.size,4,none⟩) (le_refl _) _)
 have HBX2:Hid (CBox 5 w.heap.size [.int .i64 u.H,.int .i64 u.W,.int .i64 u.C,.int .i64 u.cl,.slice A1 n c1] w2):=hid (by
  have h1:=HBX.out.below (B:=W0.heap.size) (by omega) HB1.out
  rw [← hw2]
  exact h1.set 4 _ (by decide))
 have HBR2:Hid (CBox 5 (w.heap.size+1) [.int .i64 0,.int .i64 0,.int .i64 0,.int .i64 0,.slice none 0 0] w2):=hid (by
  have h1:=HBR.out.below (B:=W0.heap.size) (by omega) HB1.out
  rw [← hw2]
  exact h1.keep (Kept.setCell _ (Or.inl (by omega))))
 have S12:=hid s12
 have S01:=hid s01
 clear hw2 s12 s01 hsz d4 y4
 have e4:w2.cell? ⟨w.heap.size,4,none⟩=some (.slice A1 n c1):=HBX2.out.at 4 _ rfl
 go_wp2_with fail
 clear e4
 go_loopw [12] (fun v wr=>∃ i:Nat,i≤n∧v=.int .i64 i∧Hid (∃ Y,MdsX true wr W0.heap.size w1.heap.size A1 n Y∧(∀ j,i≤j→j < n→Y j=u.M j)∧(∀ j,j < i→MdIn true wr w1.heap.size wr.heap.size (Y j) (p.M j)))∧Hid (Below W0.heap.size w2 wr)∧Hid (w1.heap.size≤wr.heap.size)) (fun v _=>n - (intOf v).toNat)
 case atStart=>exact⟨0,Nat.zero_le _,rfl,hid ⟨u.M,HX2.out,fun j _ _=>rfl,fun j hj=>by omega⟩,hid (Below.refl _ _),hid (by rw [S12.out];exact le_refl _)⟩
 case round =>
  obtain⟨i,hii,rfl,HY,HB,HZ⟩:=hrel
  have hbox:∀ wS,Below W0.heap.size w2 wS→CBox 5 w.heap.size [.int .i64 u.H,.int .i64 u.W,.int .i64 u.C,.int .i64 u.cl,.slice A1 n c1] wS:=fun wS h=>HBX2.out.below (B:=W0.heap.size) (by have:=HSZ0.out;omega) h
  have HBOX:=hid hbox
  clear hbox
  by_cases hlt:i < n
  ·obtain⟨Y,hY1,hY2,hY3⟩:=HY.out
   obtain⟨g,o,rfl,hg1,hg2,hra,hfz⟩:=hY1 i hlt
   have hyi:=hY2 i (le_refl _) hlt
   have hiu:i < u.n:=by have:=HN.out;omega
   have HNi:=hid (HU.out.each i hiu)
   have hsz:=HF.out.2 i (by rw [← HU.out.n];exact hiu)
   rw [hyi] at hra
   have k0:(0:Int)≤(i:Int):=by omega
   have k1:(i:Int) < (n:Int):=by omega
   have HYI:=hid hyi
   have HY1:=hid hY1
   have HY2:=hid hY2
   have HY3:=hid hY3
   have HG:=hid (And.intro hg1 hg2)
   have HSI:=hid hsz
   generalize hx:u.M i=x at HNi hra HYI
   generalize hp:p.M i=pi at HNi HSI
   have HXI:=hid hx
   have HPI:=hid hp
   have m0:wr.cell? ⟨g,o+i,none⟩=some (.slice x.A x.n x.c):=by
    have:=hra 0 _ rfl
    simpa using this
   have hbw:Below w.heap.size w wr:=HB2.out.trans (HB.out.mono (by have:=HSZ0.out;omega))
   have HBW:=hid hbw
   have HGE:=HZ
   clear hra hfz hyi hY1 hY2 hY3 hg1 hg2 hsz hx hp HY hiu hbw
   have cB:∀ wx,Below wr.heap.size wr wx→Calls Tryz.prog 36 #[.slice x.A x.n x.c] wx (BksOwn wx x.n pi.K):=fun wx hb =>
    have hk:Kept lo hi w wx:=Kept.of_below (HBW.out.trans (hb.mono HBW.out.size)) hw
    ccopyB_to x.A x.K pi.K x.n x.c (by have:=HNi.out.n;have:=HSI.out.1;omega) wx (by have:=hb.size;have:=HBW.out.size;omega) (HNi.out.blocks.keep hk) (fun j hj=>(HNi.out.each j hj).keep hk) (fun j hj=>HSI.out.2 j (by have:=HNi.out.n;omega))
   have CB:=hid cB
   clear cB
   go_upto_region 5 with fail
   generalize hw3:wr.alloc (.cells #[.slice x.A x.n x.c] 42)=w3
   have hh3:Below wr.heap.size wr w3:=by rw [← hw3];exact (Below.refl _ _).alloc (le_refl _) _
   have hs3:w3.heap.size=wr.heap.size+1:=by rw [← hw3];simp
   have hc3:w3.cell? ⟨wr.heap.size,0,none⟩=some (.slice x.A x.n x.c):=by
    rw [← hw3]
    exact Kit.zae _ _ _ _
   have HH3:=hid hh3
   have HS3:=hid hs3
   have hwr:Below W0.heap.size w2 w3:=HB.out.trans (hh3.mono (by have:=HZ.out;have:=S01.out;omega))
   have bw:Hid (∀ wS,Below w3.heap.size w3 wS→wS.cell? ⟨w.heap.size,4,none⟩=some (.slice (some ⟨g,o,none⟩) n c1)∧wS.cell? ⟨wr.heap.size,0,none⟩=some (.slice x.A x.n x.c)):=hid (fun wS h =>
    ⟨(HBOX.out wS (hwr.trans (h.mono (by have:=HZ.out;have:=S01.out;omega)))).at 4 _ rfl,(h.cell (p:=⟨wr.heap.size,0,none⟩) (by show wr.heap.size < _;omega)).trans hc3⟩)
   clear hw3 hh3 hs3 hc3 hwr m0
   refine wp_region_held_drew (S:=fun wS=>wS.cell? ⟨w.heap.size,4,none⟩=some (.slice (some ⟨g,o,none⟩) n c1)∧wS.cell? ⟨wr.heap.size,0,none⟩=some (.slice x.A x.n x.c)) (by kernel_rfl) (bw.out _ (Below.refl _ _).drew) (fun hHeld=>?_)
   generalize hw4:w3.drew=w4 at hHeld
   have HH4:Hid (Below w3.heap.size w3 w4):=hid (by rw [← hw4];exact (Below.refl _ _).drew)
   clear hw4
   refine Tk.x 0 rfl ?_
   try simp only [Tk.put]
   refine Tk.x 2 rfl ?_
   try simp only [Tk.put]
   refine Tk.x 3 rfl ?_
   try simp only [Tk.put]
   refine Tk.y 1 (v:=.slice (some ⟨g,o,none⟩) n c1) rfl ?_ ?_
   ·intro wS hSw
    obtain⟨q9,q10⟩:=hSw
    first | (go_simp;done) | (go_simp;with_reducible rfl)
   try simp only [Tk.put]
   refine Tk.y 4 (v:=.slice x.A x.n x.c) rfl ?_ ?_
   ·intro wS hSw
    obtain⟨q9,q10⟩:=hSw
    first | (go_simp;done) | (go_simp;with_reducible rfl)
   try simp only [Tk.put]
   refine Tk.s 5 rfl (fun Kq hK=>?_)
   go_simp
   go_at_call 36
   refine (CB.out _ (HH3.out.trans (HH4.out.mono HH3.out.size))).mono ?_
   rintro e w5 ⟨A5,c5,Y5,rfl,p1,p2,p3,p4,p5⟩
   have h35:=HH4.out.trans (p5.mono HH4.out.size)
   have hS2:=bw.out _ h35
   have HC5:=hid (And.intro p1 p2)
   have HN5:=hid p3
   have HE5:=hid p4
   have HB5:=hid p5
   have H35:=hid h35
   clear p1 p2 p3 p4 p5 h35 hHeld
   dsimp only
   refine hK.out _ _ hS2 (fun hHeld=>?_)
   clear hK Kq hS2
   try simp only [Tk.put]
   have hge:w1.heap.size≤wr.heap.size:=HGE.out
   have hwr5:Below wr.heap.size wr w5:=HH3.out.trans (H35.out.mono HH3.out.size)
   have hY5:=HY1.out.keep (Kept.of_below hwr5 hge)
   obtain⟨g',o',e',_,_,hra5,hfz5⟩:=hY5 i hlt
   simp only [Option.some.injEq,Addr.mk.injEq] at e'
   obtain⟨rfl,rfl,_⟩:=e'
   rw [HYI.out] at hra5
   have u0:w5.cell? ⟨g,o+i,none⟩=some (.slice x.A x.n x.c):=by
    have:=hra5 0 _ rfl
    simpa using this
   have z0:w5.frozen? ⟨g,o+i,none⟩=false:=by
    have:=hfz5 rfl 0 (by decide)
    simpa using this
   have hgl:g < w1.heap.size:=HG.out.2
   have hgl2:W0.heap.size≤g:=HG.out.1
   have hsw:=HSZ0.out
   have HY5:=hid hY5
   have HWR5:=hid hwr5
   clear hra5 hfz5 hY5 hwr5
   refine Tk.x 6 rfl ?_
   try simp only [Tk.put]
   refine Tk.x 7 rfl ?_
   try simp only [Tk.put]
   refine Tk.s 8 rfl (fun Kq hK=>?_)
   go_simp
   have hS7:(w5.setCell ⟨g,o+i,none⟩ (.slice A5 x.n c5)).cell? ⟨w.heap.size,4,none⟩=some (.slice (some ⟨g,o,none⟩) n c1)∧(w5.setCell ⟨g,o+i,none⟩ (.slice A5 x.n c5)).cell? ⟨wr.heap.size,0,none⟩=some (.slice x.A x.n x.c):=⟨(World.cell?_setCell_other _ _ _ _ (fun hh=>by injection hh with h1 h2;omega)).trans hHeld.1,(World.cell?_setCell_other _ _ _ _ (fun hh=>by injection hh with h1 h2;omega)).trans hHeld.2⟩
   generalize hw6:w5.setCell ⟨g,o+i,none⟩ (.slice A5 x.n c5)=w6 at hS7 ⊢
   have HE6:=hid hw6
   clear hHeld hw6 u0 z0
   refine hK.out _ _ hS7 (fun hHeld=>?_)
   clear hK Kq hS7 hHeld
   try simp only [Tk.put]
   refine wpAnyH_done (by kernel_rfl) ?_ _
   have hstep:(∃ Y',MdsX true w6 W0.heap.size w1.heap.size (some ⟨g,o,none⟩) n Y'∧(∀ j,i+1≤j→j < n→Y' j=u.M j)∧(∀ j,j < i+1→MdIn true w6 w1.heap.size w6.heap.size (Y' j) (p.M j)))∧Below W0.heap.size w2 w6∧w1.heap.size≤w6.heap.size:=by
    have e6:=HE6.out
    have s6:w6.heap.size=w5.heap.size:=by rw [← e6];simp [World.setCell]
    have s5:wr.heap.size≤w5.heap.size:=HWR5.out.size
    have s4:w4.heap.size≤w5.heap.size:=HB5.out.size
    have s34:w3.heap.size≤w4.heap.size:=HH4.out.size
    have s3:=HS3.out
    have n6:MdsX true w6 W0.heap.size w1.heap.size (some ⟨g,o,none⟩) n (fun j=>if j=i then mdK (Y i) A5 c5 Y5 else Y j):=by
     have h0:=zab.set (s:=1) (val:=Md.val) (fun _=>rfl) HY5.out (i:=i) (q:=0) hlt (by decide) (.slice A5 x.n c5) (mdK (Y i) A5 c5 Y5) (by rw [HYI.out];exact mdK_val _ _ _ _)
     rw [show o+i * 1+0=o+i by omega,e6] at h0
     exact h0
    have k56:∀ {l h:Nat},w1.heap.size≤l→Kept l h w5 w6:=fun hl=>by
     rw [← e6]
     exact Kept.setCell _ (Or.inl (by omega))
    refine⟨⟨_,n6,fun j h1 h2=>?_,fun j hj=>?_⟩,?_,?_⟩
    ·try dsimp only
     rw [if_neg (by omega)]
     exact HY2.out j (by omega) h2
    ·try dsimp only
     by_cases e:j=i
     ·subst e
      rw [if_pos rfl,HYI.out,HPI.out]
      exact {
       n:=HNi.out.n
       cap:=HC5.out
       blocks:=(HN5.out.keep (k56 (by omega))).more (by omega) (by omega)
       each:=fun q hq=>((HE5.out q hq).keep (k56 (by omega))).more (by omega) (by omega) }
     ·rw [if_neg e]
      exact (((HY3.out j (by omega)).keep (Kept.of_below HWR5.out (le_refl _))).keep (k56 (le_refl _))).more (le_refl _) (by omega)
    ·rw [← e6]
     exact (HB.out.trans (HWR5.out.mono (by have:=S01.out;omega))).setCell (p:=⟨g,o+i,none⟩) HG.out.1 _
    ·omega
   obtain⟨hs1,hs2,hs3⟩:=hstep
   have HS1:=hid hs1
   have HS2:=hid hs2
   have HS3:=hid hs3
   clear hs1 hs2 hs3
   have hn4:n≤4:=by have:=HN4.out;have:=HN.out;omega
   go_wp2_with fail
   go_roundw
   case rel=>exact⟨i+1,by omega,by go_num,HS1,HS2,HS3⟩
   case measure=>simp [intOf];omega
  ·obtain rfl:i=n:=by omega
   obtain⟨Y,h1,h2,h3⟩:=HY.out
   have HBOXr:=hid (HBOX.out wr HB.out)
   have HBRr:=hid (HBR2.out.below (B:=W0.heap.size) (by have:=HSZ0.out;omega) HB.out)
   have hres:BuIn true wr W0.heap.size wr.heap.size ⟨u.H,u.W,u.C,u.cl,A1,i,c1,Y⟩ p := {
    nums:=HU.out.nums
    n:=by rw [← HU.out.n];exact HN.out.symm
    cap:=HC1.out
    models:=h1.more (le_refl _) HZ.out
    each:=fun j hj=>(h3 j hj).more S01.out (le_refl _) }
   have HRES:=hid hres
   clear h1 h2 h3 hres HY
   go_wp2_with (first
    | (refine bu_load rfl _ rfl w.heap.size ⟨u.H,u.W,u.C,u.cl,A1,i,c1,Y⟩ rfl HBOXr.out.1 ?_)
    | (refine bu_store rfl _ _ rfl (w.heap.size+1) [.int .i64 0,.int .i64 0,.int .i64 0,.int .i64 0,.slice none 0 0] ⟨u.H,u.W,u.C,u.cl,A1,i,c1,Y⟩ rfl rfl HBRr.out ?_
       intro w9 g1 g2 g3 g4
       have HG1:=hid g1
       have HG2:=hid g2
       have HG3:=hid g3
       have HG4:=hid g4
       clear g1 g2 g3 g4))
   refine bodyPost_ret (Kit.results_c rfl _ _ (w.heap.size+1) 0 [.int .i64 u.H,.int .i64 u.W,.int .i64 u.C,.int .i64 u.cl,.slice A1 i c1] _ rfl HG1.out.1 Tryz.underlying26 rfl (by kernel_rfl)) rfl ?_
   have hk9:Below w.heap.size w w9:=((HB2.out.trans (HB.out.mono (by have:=HSZ0.out;omega))).trans (HG2.out.mono (Nat.le_succ _)))
   refine⟨⟨u.H,u.W,u.C,u.cl,A1,i,c1,Y⟩,rfl,?_,hk9⟩
   have hk:Kept W0.heap.size wr.heap.size wr w9:=fun b o h1 h2=>⟨World.cell?_of_block (HG3.out b (by have:=HSZ0.out;omega)),World.frozen?_of_block (HG3.out b (by have:=HSZ0.out;omega))⟩
   exact (HRES.out.keep hk).more (by have:=HSZ0.out;omega) (by rw [HG4.out];exact le_refl _)
end CBunM
end
end Go.Proofs.YtfgdfignoakkaaaGreatDoor
