/- -/
import Derived.Test.YtfgdfignoakkaaaGreatDoorGBC21
open Go.Lib (hid)
open Nat (le_refl lt_of_succ_lt lt_succ_self)
set_option linter.unusedVariables false
set_option linter.unusedSimpArgs false
set_option maxRecDepth 100000
set_option maxHeartbeats 16000000
namespace Go.Proofs.YtfgdfignoakkaaaGreatDoor
namespace CConv
end CConv
namespace CGraph
end CGraph
namespace CKind
end CKind
namespace CSat
end CSat
namespace CShape
end CShape
namespace CTensor
end CTensor
namespace Kit
end Kit
namespace Plain
end Plain
open Go Go.ChangeShapes Go.WideShapes Go.ChangeAt Go.RowKit Go.Deep
section
namespace CBunM
open Kit Plain CSat CShape CTensor CConv CKind CGraph CBund
def BkBox (b:Nat) (x:Bk) (w:World):Prop:=w.rangeAt b 0 x.val∧w.there b 0 5
theorem BkBox.new (x:Bk) (T:TypeId) (w:World):BkBox w.heap.size x (w.alloc (.cells x.val.toArray T)):=by
 refine⟨fun j v hj=>?_,fun j hj=>?_⟩
 ·rw [Nat.zero_add,Kit.zae]
  simpa using hj
 ·rw [Nat.zero_add]
  constructor
  ·rw [Kit.zae]
   have:j < x.val.length:=hj
   simp [this]
  ·unfold World.frozen?;rw [heap_alloc_new];rfl
theorem BkBox.below {b B:Nat} {x:Bk} {w w':World} (h:BkBox b x w) (hB:b < B) (hb:Below B w w'):BkBox b x w' :=
 ⟨fun j v hj=>(hb.cell (p:=⟨b,0+j,none⟩) hB).trans (h.1 j v hj),fun j hj=>⟨by rw [hb.cell (p:=⟨b,0+j,none⟩) hB];exact (h.2 j hj).1,by rw [hb.frozen (p:=⟨b,0+j,none⟩) hB];exact (h.2 j hj).2⟩⟩
theorem BkBox.at {b:Nat} {x:Bk} {w:World} (h:BkBox b x w) (i:Nat) (v:Value) (hi:x.val[i]?=some v):w.cell? ⟨b,i,none⟩=some v:=by
 have:=h.1 i v hi
 rwa [Nat.zero_add] at this
theorem binfo_sz:(Tryz.prog.info? 49).map (·.size)=some 5:=by kernel_rfl
theorem bk_all (x:Bk):x.val.toArray.all (·.oneCell')=true:=by simp [Bk.val,Value.oneCell']
theorem bk_store {ops:Array Oper} {rest:List Oper} {op:Oper} {a:Act} {w:World} {Q:Exit→Act→World→Prop} (hgd:op.guard=none) (x y:Operand) (ho:op.op=.store 49 x y)
  (b:Nat) (u v:Bk) (hx:a.eval x=.pointer (some ⟨b,0,none⟩)) (hy:a.eval y=.agg v.val.toArray) (hb:BkBox b u w)
  (h:∀ w',BkBox b v w'→Below b w w'→w'.heap.size=w.heap.size→wpList Tryz.prog ops Q rest (a.put op.dst undef) w'):wpList Tryz.prog ops Q (op :: rest) a w:=by
 refine wpList_store_mid hgd 49 x y ho b 0 v.val.toArray hx hy hb.2 binfo_sz (bk_all v) ?_
 have go:∀ (vs:List Value) (o:Nat) (w:World),Below b w (w.setCells b o vs)∧(w.setCells b o vs).heap.size=w.heap.size:=by
  intro vs
  induction vs with
  | nil=>intro o w;exact⟨Below.refl _ _,rfl⟩
  | cons v vs ih=>intro o w;exact⟨((Below.refl b w).setCell (p:=⟨b,o,none⟩) (le_refl _) v).trans (ih (o+1) _).1,(ih (o+1) (w.setCell ⟨b,o,none⟩ v)).2.trans (by simp [World.setCell])⟩
 exact h _ ⟨World.rangeAt_setCells_same _ _ _ _ hb.2,World.there_setCells hb.2 _ _ _⟩ (go _ _ _).1 (go _ _ _).2
theorem bk_load_mid {ops:Array Oper} {rest:List Oper} {op:Oper} {a:Act} {w:World} {Q:Exit→Act→World→Prop} (hgd:op.guard=none) (x:Operand) (ho:op.op=.load 49 x)
  (b o:Nat) (u:Bk) (hx:a.eval x=.pointer (some ⟨b,o,none⟩)) (hb:w.rangeAt b o u.val)
  (h:wpList Tryz.prog ops Q rest (a.put op.dst (.agg u.val.toArray)) w):wpList Tryz.prog ops Q (op :: rest) a w :=
 wpList_load_mid hgd 49 x ho b o hx u.val _ hb Tryz.underlying49 rfl (by kernel_rfl) h
def bkN (x:Bk) (A:Option Addr) (c:Nat) (X:Nat→Nd):Bk := { x with A:=A,c:=c,X:=X }
def bkW (x:Bk) (A:Option Addr) (c:Nat):Bk := { x with hd := { x.hd with WA:=A,cW:=c } }
def bkB (x:Bk) (A:Option Addr) (c:Nat):Bk := { x with hd := { x.hd with BA:=A,cB:=c } }
theorem bkN_val (x:Bk) (A:Option Addr) (c:Nat) (X:Nat→Nd):x.val.set 0 (.slice A x.n c)=(bkN x A c X).val:=rfl
theorem bkW_val (x:Bk) (A:Option Addr) (c:Nat):x.val.set 2 (.slice A x.hd.nW c)=(bkW x A c).val:=rfl
theorem bkB_val (x:Bk) (A:Option Addr) (c:Nat):x.val.set 3 (.slice A x.hd.nB c)=(bkB x A c).val:=rfl
def BksOwn (w:World) (n:Nat) (p:Nat→PB) (e:Ending) (w':World):Prop :=
 ∃ A c Y,e=.returned (.slice A n c)∧n≤c∧c≤maxLen∧BksX true w' w.heap.size w'.heap.size A n Y∧(∀ j,j < n→BkIn true w' w.heap.size w'.heap.size (Y j) (p j))∧Below w.heap.size w w'
theorem ccopyB_to (A:Option Addr) (X:Nat→Bk) (p:Nat→PB) (n c:Nat) (hn:n≤1000) {m:Bool} {lo hi:Nat} (w:World) (hw:hi≤w.heap.size) (hA:BksX m w lo hi A n X) (hE:∀ j,j < n→BkIn m w lo hi (X j) (p j)) (hS:∀ j,j < n→(p j).few) :
  Calls Tryz.prog 36 #[.slice A n c] w (BksOwn w n p):=by
 have HE:=hid hE
 have HS:=hid hS
 have HA:=hid hA
 have CL:=hid (bclone_b A (flatE Bk.val X n) n c (flatE_len (s:=5) (val:=Bk.val) (fun _=>rfl) X n) hn (flatE_mem bk_ones X n) w hw (zab.rdx (s:=5) (val:=Bk.val) (fun _=>rfl) (by decide) hA).rd)
 clear hE hS hA
 go_enter Tryz.func36,Tryz.ntmps36
 go_wp2_with (first
  | (go_at_call 58
     refine CL.out.mono ?_
     rintro e w1 ⟨A1,c1,rfl,h1,h2,h3,h4⟩
     have HX1:=hid (zab.of_rdx (s:=5) (val:=Bk.val) (fun _=>rfl) (by decide) h3)
     have HB1:=hid h4
     have HC1:=hid (And.intro h1 h2)
     clear h1 h2 h3 h4))
 go_loopw [10] (fun u wr=>∃ i:Nat,i≤n∧u=.int .i64 i∧Hid (∃ Y,BksX true wr w.heap.size w1.heap.size A1 n Y∧(∀ j,i≤j→j < n→Y j=X j)∧(∀ j,j < i→BkIn true wr w1.heap.size wr.heap.size (Y j) (p j)))∧Hid (Below w.heap.size w wr)∧Hid (w1.heap.size≤wr.heap.size)) (fun u _=>n - (intOf u).toNat)
 case atStart=>exact⟨0,Nat.zero_le _,rfl,hid ⟨X,HX1.out,fun j _ _=>rfl,fun j hj=>by omega⟩,HB1,hid (le_refl _)⟩
 case round =>
  obtain⟨i,hii,rfl,HY,HB,HZ⟩:=hrel
  by_cases hlt:i < n
  ·obtain⟨Y,hY1,hY2,hY3⟩:=HY.out
   obtain⟨g,o,rfl,hg1,hg2,hra,hfz⟩:=hY1 i hlt
   have hyi:=hY2 i (le_refl _) hlt
   have HNi:=hid (HE.out i hlt)
   have hsz:=HS.out i hlt
   rw [hyi] at hra
   have k0:(0:Int)≤(i:Int):=by omega
   have k1:(i:Int) < (n:Int):=by omega
   have HRA:=hid hra
   have HYI:=hid hyi
   have HY1:=hid hY1
   have HY2:=hid hY2
   have HY3:=hid hY3
   have HG:=hid (And.intro hg1 hg2)
   have HSI:=hid hsz
   have hi9:w.heap.size≤wr.heap.size:=HB.out.size
   have HI9:=hid hi9
   have HGE:=HZ
   generalize hx:X i=x at HNi HRA HYI
   generalize hp:p i=pi at HNi HSI
   have HXI:=hid hx
   have HPI:=hid hp
   clear hra hfz hyi hY1 hY2 hY3 hg1 hg2 hsz hi9 hx hp HY
   have cN:∀ wx,Below wr.heap.size wr wx→Calls Tryz.prog 59 #[.slice x.A x.n x.c] wx (NdsOwn wx x.n pi.N):=fun wx hb =>
    have hk:Kept lo hi w wx:=Kept.of_below (HB.out.trans (hb.mono HI9.out)) hw
    ccopyN_to x.A x.X pi.N x.n x.c (by have:=HNi.out.n;have:=HSI.out.1;omega) wx (by have:=hb.size;have:=HI9.out;omega) (HNi.out.nodes.keep hk) (fun j hj=>(HNi.out.each j hj).keep hk) (fun j hj=>by have:=HSI.out.2.1 j (by have:=HNi.out.n;omega);omega)
   have c8:∀ wx,Below wr.heap.size wr wx→Calls Tryz.prog 60 #[.slice x.hd.WA x.hd.nW x.hd.cW] wx (OwnX wx x.hd.nW (pi.W.map (.int .i8))):=fun wx hb =>
    bclone_8 x.hd.WA _ x.hd.nW x.hd.cW (by rw [List.length_map,HNi.out.lw.len,Nat.mul_one]) (by have:=HNi.out.lw.len;have:=HSI.out.2.2.1;omega) (Kit.zai .i8 _) wx (B:=hi) (by have:=hb.size;have:=HI9.out;omega) ((HNi.out.lw.rd.rd.below (HB.out.mono hw)).below (hb.mono (by have:=HI9.out;omega)))
   have c32:∀ wx,Below wr.heap.size wr wx→Calls Tryz.prog 61 #[.slice x.hd.BA x.hd.nB x.hd.cB] wx (OwnX wx x.hd.nB (pi.Bs.map (.int .i32))):=fun wx hb =>
    bclone_32 x.hd.BA _ x.hd.nB x.hd.cB (by rw [List.length_map,HNi.out.lb.len,Nat.mul_one]) (by have:=HNi.out.lb.len;have:=HSI.out.2.2.2;omega) (Kit.zai .i32 _) wx (B:=hi) (by have:=hb.size;have:=HI9.out;omega) ((HNi.out.lb.rd.rd.below (HB.out.mono hw)).below (hb.mono (by have:=HI9.out;omega)))
   have CN:=hid cN
   have C8:=hid c8
   have C32:=hid c32
   clear cN c8 c32
   go_upto_region 6 with (first
    | (refine bk_load_mid rfl _ rfl g (o+i * 5) x rfl HRA.out ?_)
    | (refine bk_store rfl _ _ rfl wr.heap.size bk0 x rfl rfl (BkBox.new bk0 _ wr) ?_
       intro w2 hbx hbl hs2
       have HBX:=hid hbx
       have HH:=hid (show Below wr.heap.size wr w2 from ((Below.refl _ _).alloc (le_refl _) _).trans hbl)
       have HSX:=hid (show wr.heap.size+1≤w2.heap.size from by rw [hs2];simp)
       have q0:w2.cell? ⟨wr.heap.size,0,none⟩=some (.slice x.A x.n x.c):=hbx.at 0 _ rfl
       clear hbx hbl hs2)
    | (go_at_call 59
       refine (CN.out _ HH.out).mono ?_
       rintro e w4 ⟨A4,c4,Y4,rfl,p1,p2,p3,p4,p5⟩
       have HC4:=hid (And.intro p1 p2)
       have HN4:=hid p3
       have HE4:=hid p4
       have HB4:=hid p5
       have HW4:=hid (HH.out.trans (p5.mono HH.out.size))
       have HY4:=hid (HY1.out.keep (Kept.of_below HW4.out HGE.out))
       obtain⟨g',o',e',_,_,hra4,hfz4⟩:=HY4.out i hlt
       simp only [Option.some.injEq,Addr.mk.injEq] at e'
       obtain⟨rfl,rfl,_⟩:=e'
       rw [HYI.out] at hra4
       have u0:w4.cell? ⟨g,o+i * 5,none⟩=some (.slice x.A x.n x.c):=hra4 0 _ rfl
       have z0:w4.frozen? ⟨g,o+i * 5,none⟩=false:=hfz4 rfl 0 (by decide)
       clear p1 p2 p3 p4 p5 hra4 hfz4 q0))
   generalize hw5:w4.setCell ⟨g,o+i * 5,none⟩ (.slice A4 x.n c4)=w5
   have HE5:=hid hw5
   have hgl:g < w1.heap.size:=HG.out.2
   have hge:w1.heap.size≤wr.heap.size:=HGE.out
   have s24:w2.heap.size≤w4.heap.size:=HB4.out.size
   have s45:w5.heap.size=w4.heap.size:=by rw [← hw5];simp [World.setCell]
   have sx:=HSX.out
   have S24:=hid s24
   have S45:=hid s45
   have HBX5:Hid (BkBox wr.heap.size x w5):=hid (by
    have h4:=HBX.out.below (by omega) HB4.out
    have hk:Kept wr.heap.size (wr.heap.size+1) w4 w5:=by rw [← hw5];exact Kept.setCell _ (Or.inl (by omega))
    exact⟨fun j v hj=>(hk _ _ (le_refl _) (lt_succ_self _)).1.trans (h4.1 j v hj),fun j hj=>⟨by rw [(hk _ _ (le_refl _) (lt_succ_self _)).1];exact (h4.2 j hj).1,by rw [(hk _ _ (le_refl _) (lt_succ_self _)).2];exact (h4.2 j hj).2⟩⟩)
   have HY5:Hid (BksX true w5 w.heap.size w1.heap.size (some ⟨g,o,none⟩) n (fun j=>if j=i then bkN (Y i) A4 c4 Y4 else Y j)):=hid (by
    rw [← hw5]
    exact zab.set (s:=5) (val:=Bk.val) (fun _=>rfl) HY4.out (i:=i) (q:=0) hlt (by decide) (.slice A4 x.n c4) (bkN (Y i) A4 c4 Y4) (by rw [HYI.out];exact bkN_val _ _ _ _))
   have HX5:Hid (wr.heap.size < w5.heap.size):=hid (by omega)
   clear hw5 hgl hge s24 s45 sx u0 z0
   have bw:Hid (∀ wS,Below w5.heap.size w5 wS→wS.cell? ⟨wr.heap.size,2,none⟩=some (.slice x.hd.WA x.hd.nW x.hd.cW)∧wS.cell? ⟨wr.heap.size,3,none⟩=some (.slice x.hd.BA x.hd.nB x.hd.cB)):=hid (fun wS h=>by
    have hb:=HBX5.out.below HX5.out h
    exact⟨hb.at 2 _ rfl,hb.at 3 _ rfl⟩)
   have C8b:Hid (∀ wx,Below w5.heap.size w5 wx→Calls Tryz.prog 60 #[.slice x.hd.WA x.hd.nW x.hd.cW] wx (OwnX wx x.hd.nW (pi.W.map (.int .i8)))):=hid (fun wx hb=>by
    have hlr:RdX m w5 lo hi x.hd.WA (pi.W.map (.int .i8)):=by
     rw [← HE5.out]
     exact (HNi.out.lw.rd.keep (Kept.of_below (HB.out.trans (HW4.out.mono HI9.out)) hw)).keep (Kept.setCell _ (Or.inr (by have:=HG.out.1;omega)))
    exact bclone_8 x.hd.WA _ x.hd.nW x.hd.cW (by rw [List.length_map,HNi.out.lw.len,Nat.mul_one]) (by have:=HNi.out.lw.len;have:=HSI.out.2.2.1;omega) (Kit.zai .i8 _) wx (B:=hi) (by have:=hb.size;have:=HI9.out;have:=HX5.out;omega) (hlr.rd.below (hb.mono (by have:=HI9.out;have:=HX5.out;omega))))
   have C32b:Hid (∀ wx,Below w5.heap.size w5 wx→Calls Tryz.prog 61 #[.slice x.hd.BA x.hd.nB x.hd.cB] wx (OwnX wx x.hd.nB (pi.Bs.map (.int .i32)))):=hid (fun wx hb=>by
    have hlr:RdX m w5 lo hi x.hd.BA (pi.Bs.map (.int .i32)):=by
     rw [← HE5.out]
     exact (HNi.out.lb.rd.keep (Kept.of_below (HB.out.trans (HW4.out.mono HI9.out)) hw)).keep (Kept.setCell _ (Or.inr (by have:=HG.out.1;omega)))
    exact bclone_32 x.hd.BA _ x.hd.nB x.hd.cB (by rw [List.length_map,HNi.out.lb.len,Nat.mul_one]) (by have:=HNi.out.lb.len;have:=HSI.out.2.2.2;omega) (Kit.zai .i32 _) wx (B:=hi) (by have:=hb.size;have:=HI9.out;have:=HX5.out;omega) (hlr.rd.below (hb.mono (by have:=HI9.out;have:=HX5.out;omega))))
   refine wp_region_held_drew (S:=fun wS=>wS.cell? ⟨wr.heap.size,2,none⟩=some (.slice x.hd.WA x.hd.nW x.hd.cW)∧wS.cell? ⟨wr.heap.size,3,none⟩=some (.slice x.hd.BA x.hd.nB x.hd.cB)) (by kernel_rfl) (bw.out _ (Below.refl _ _).drew) (fun hHeld=>?_)
   generalize hw6:w5.drew=w6 at hHeld
   have HH6:Hid (Below w5.heap.size w5 w6):=hid (by rw [← hw6];exact (Below.refl _ _).drew)
   clear hw6
   refine Tk.x 0 rfl ?_
   try simp only [Tk.put]
   refine Tk.x 1 rfl ?_
   try simp only [Tk.put]
   refine Tk.x 2 rfl ?_
   try simp only [Tk.put]
   refine Tk.x 3 rfl ?_
   try simp only [Tk.put]
   refine Tk.x 4 rfl ?_
   try simp only [Tk.put]
   refine Tk.x 5 rfl ?_
   try simp only [Tk.put]
   refine Tk.x 8 rfl ?_
   try simp only [Tk.put]
   refine Tk.x 9 rfl ?_
   try simp only [Tk.put]
   refine Tk.y 6 (v:=.slice x.hd.WA x.hd.nW x.hd.cW) rfl ?_ ?_
   ·intro wS hSw
    obtain⟨q9,q10⟩:=hSw
    first | (go_simp;done) | (go_simp;with_reducible rfl)
   try simp only [Tk.put]
   refine Tk.y 10 (v:=.slice x.hd.BA x.hd.nB x.hd.cB) rfl ?_ ?_
   ·intro wS hSw
    obtain⟨q9,q10⟩:=hSw
    first | (go_simp;done) | (go_simp;with_reducible rfl)
   try simp only [Tk.put]
   refine Tk.s 7 rfl (fun Kq hK=>?_)
   go_simp
   go_at_call 60
   refine (C8b.out _ HH6.out).mono ?_
   rintro e w7 ⟨A7,c7,rfl,p1,p2,p3,p4⟩
   have h57:=HH6.out.trans (p4.mono HH6.out.size)
   have hS2:=bw.out _ h57
   have HB7:=hid p4
   have HR7:=hid p3
   have HC7:=hid (And.intro p1 p2)
   have H57:=hid h57
   clear p1 p2 p3 p4 h57 hHeld
   dsimp only
   refine hK.out _ _ hS2 (fun hHeld=>?_)
   clear hK Kq hS2
   try simp only [Tk.put]
   refine Tk.s 11 rfl (fun Kq hK=>?_)
   go_simp
   go_at_call 61
   refine (C32b.out _ H57.out).mono ?_
   rintro e w8 ⟨A8,c8,rfl,p1,p2,p3,p4⟩
   have h58:=H57.out.trans (p4.mono H57.out.size)
   have hS2:=bw.out _ h58
   have HB8:=hid p4
   have HR8:=hid p3
   have HC8:=hid (And.intro p1 p2)
   have H58:=hid h58
   clear p1 p2 p3 p4 h58 hHeld
   dsimp only
   refine hK.out _ _ hS2 (fun hHeld=>?_)
   clear hK Kq hS2
   try simp only [Tk.put]
   have hge:w1.heap.size≤wr.heap.size:=HGE.out
   have hx5:wr.heap.size < w5.heap.size:=HX5.out
   have hY8:=HY5.out.keep (Kept.of_below H58.out (by omega))
   obtain⟨g',o',e',_,_,hra8,hfz8⟩:=hY8 i hlt
   simp only [Option.some.injEq,Addr.mk.injEq] at e'
   obtain⟨rfl,rfl,_⟩:=e'
   dsimp only at hra8
   rw [if_pos rfl,HYI.out] at hra8
   have u2:w8.cell? ⟨g,o+i * 5+2,none⟩=some (.slice x.hd.WA x.hd.nW x.hd.cW):=hra8 2 _ rfl
   have z2:w8.frozen? ⟨g,o+i * 5+2,none⟩=false:=hfz8 rfl 2 (by decide)
   have u3:w8.cell? ⟨g,o+i * 5+3,none⟩=some (.slice x.hd.BA x.hd.nB x.hd.cB):=hra8 3 _ rfl
   have z3:w8.frozen? ⟨g,o+i * 5+3,none⟩=false:=hfz8 rfl 3 (by decide)
   have hgl:g < w1.heap.size:=HG.out.2
   have HY8:=hid hY8
   clear hra8 hfz8 hY8
   refine Tk.x 12 rfl ?_
   try simp only [Tk.put]
   refine Tk.x 13 rfl ?_
   try simp only [Tk.put]
   refine Tk.x 14 rfl ?_
   try simp only [Tk.put]
   refine Tk.s 15 rfl (fun Kq hK=>?_)
   go_simp
   have hne:¬ wr.heap.size=g:=by omega
   have hne2:¬ g=wr.heap.size:=by omega
   have u3b:(w8.setCell ⟨g,o+i * 5+2,none⟩ (.slice A7 x.hd.nW c7)).cell? ⟨g,o+i * 5+3,none⟩=some (.slice x.hd.BA x.hd.nB x.hd.cB):=(World.cell?_setCell_other _ _ _ _ (fun hh=>by injection hh with h1 h2;omega)).trans u3
   have z3b:(w8.setCell ⟨g,o+i * 5+2,none⟩ (.slice A7 x.hd.nW c7)).frozen? ⟨g,o+i * 5+3,none⟩=false:=(World.frozen?_setCell _ _ _ _).trans z3
   have hS7:(w8.setCell ⟨g,o+i * 5+2,none⟩ (.slice A7 x.hd.nW c7)).cell? ⟨wr.heap.size,2,none⟩=some (.slice x.hd.WA x.hd.nW x.hd.cW)∧(w8.setCell ⟨g,o+i * 5+2,none⟩ (.slice A7 x.hd.nW c7)).cell? ⟨wr.heap.size,3,none⟩=some (.slice x.hd.BA x.hd.nB x.hd.cB):=⟨(World.cell?_setCell_other _ _ _ _ (fun hh=>by injection hh with h1 h2;omega)).trans hHeld.1,(World.cell?_setCell_other _ _ _ _ (fun hh=>by injection hh with h1 h2;omega)).trans hHeld.2⟩
   generalize hw9:w8.setCell ⟨g,o+i * 5+2,none⟩ (.slice A7 x.hd.nW c7)=w9 at u3b z3b hS7 ⊢
   have HE9:=hid hw9
   clear hHeld u2 z2 u3 z3 hw9
   refine hK.out _ _ hS7 (fun hHeld=>?_)
   clear hK Kq hS7
   try simp only [Tk.put]
   refine Tk.x 16 rfl ?_
   try simp only [Tk.put]
   refine Tk.x 17 rfl ?_
   try simp only [Tk.put]
   refine Tk.x 18 rfl ?_
   try simp only [Tk.put]
   refine Tk.s 19 rfl (fun Kq hK=>?_)
   go_simp
   have hS7:(w9.setCell ⟨g,o+i * 5+3,none⟩ (.slice A8 x.hd.nB c8)).cell? ⟨wr.heap.size,2,none⟩=some (.slice x.hd.WA x.hd.nW x.hd.cW)∧(w9.setCell ⟨g,o+i * 5+3,none⟩ (.slice A8 x.hd.nB c8)).cell? ⟨wr.heap.size,3,none⟩=some (.slice x.hd.BA x.hd.nB x.hd.cB):=⟨(World.cell?_setCell_other _ _ _ _ (fun hh=>by injection hh with h1 h2;omega)).trans hHeld.1,(World.cell?_setCell_other _ _ _ _ (fun hh=>by injection hh with h1 h2;omega)).trans hHeld.2⟩
   generalize hw10:w9.setCell ⟨g,o+i * 5+3,none⟩ (.slice A8 x.hd.nB c8)=w10 at hS7 ⊢
   have HE10:=hid hw10
   clear hHeld hw10 u3b z3b
   refine hK.out _ _ hS7 (fun hHeld=>?_)
   clear hK Kq hS7 hHeld
   try simp only [Tk.put]
   refine wpAnyH_done (by kernel_rfl) ?_ _
   have hstep:(∃ Y',BksX true w10 w.heap.size w1.heap.size (some ⟨g,o,none⟩) n Y'∧(∀ j,i+1≤j→j < n→Y' j=X j)∧(∀ j,j < i+1→BkIn true w10 w1.heap.size w10.heap.size (Y' j) (p j)))∧Below w.heap.size w w10∧w1.heap.size≤w10.heap.size:=by
    have e5:=HE5.out
    have e9:=HE9.out
    have e10:=HE10.out
    have s9:w9.heap.size=w8.heap.size:=by rw [← e9];simp [World.setCell]
    have s10:w10.heap.size=w8.heap.size:=by rw [← e10];simp [World.setCell];exact s9
    have s78:w7.heap.size≤w8.heap.size:=HB8.out.size
    have s67:w6.heap.size≤w7.heap.size:=HB7.out.size
    have s56:w5.heap.size≤w6.heap.size:=HH6.out.size
    have s45:=S45.out
    have s24:=S24.out
    have sx:=HSX.out
    have n9:BksX true w9 w.heap.size w1.heap.size (some ⟨g,o,none⟩) n (fun j=>if j=i then bkW (bkN (Y i) A4 c4 Y4) A7 c7 else (if j=i then bkN (Y i) A4 c4 Y4 else Y j)):=by
     rw [← e9]
     refine zab.set (s:=5) (val:=Bk.val) (fun _=>rfl) HY8.out hlt (by decide) _ _ ?_
     try dsimp only
     rw [if_pos rfl,HYI.out]
     exact bkW_val _ _ _
    have n10:BksX true w10 w.heap.size w1.heap.size (some ⟨g,o,none⟩) n (fun j=>if j=i then bkB (bkW (bkN (Y i) A4 c4 Y4) A7 c7) A8 c8 else (if j=i then bkW (bkN (Y i) A4 c4 Y4) A7 c7 else (if j=i then bkN (Y i) A4 c4 Y4 else Y j))):=by
     rw [← e10]
     refine zab.set (s:=5) (val:=Bk.val) (fun _=>rfl) n9 hlt (by decide) _ _ ?_
     try dsimp only
     rw [if_pos rfl,HYI.out]
     exact bkB_val _ _ _
    have k810:∀ {l h:Nat},w1.heap.size≤l→Kept l h w8 w10:=fun hl=>by
     rw [← e10, ← e9]
     exact (Kept.setCell _ (Or.inl (by omega))).trans (Kept.setCell _ (Or.inl (by omega)))
    have k45:∀ {l h:Nat},w1.heap.size≤l→Kept l h w4 w5:=fun hl=>by
     rw [← e5]
     exact Kept.setCell _ (Or.inl (by omega))
    have k48:∀ {l h:Nat},w1.heap.size≤l→h≤w5.heap.size→Kept l h w4 w8:=fun hl hh=>(k45 hl).trans (Kept.of_below H58.out hh)
    refine⟨⟨_,n10,fun j h1 h2=>?_,fun j hj=>?_⟩,?_,?_⟩
    ·try dsimp only
     rw [if_neg (by omega),if_neg (by omega),if_neg (by omega)]
     exact HY2.out j (by omega) h2
    ·try dsimp only
     by_cases e:j=i
     ·subst e
      rw [if_pos rfl,HYI.out,HPI.out]
      have kN:∀ {l:Nat},w1.heap.size≤l→Kept l w4.heap.size w4 w10:=fun hl=>(k48 hl (by omega)).trans (k810 hl)
      exact {
       n:=HNi.out.n
       ex:=HNi.out.ex
       D:=HNi.out.D
       cap:=HC4.out
       nodes:=(HN4.out.keep (kN (by omega))).more (by omega) (by omega)
       each:=fun q hq=>((HE4.out q hq).keep (kN (by omega))).more (by omega) (by omega)
       lw:=⟨HNi.out.lw.len,HC7.out,((HR7.out.keep (Kept.of_below HB8.out (le_refl _))).keep (k810 (by omega))).more (by omega) (by omega)⟩
       lb:=⟨HNi.out.lb.len,HC8.out,(HR8.out.keep (k810 (by omega))).more (by omega) (by omega)⟩ }
     ·rw [if_neg e,if_neg e,if_neg e]
      exact ((((HY3.out j (by omega)).keep (Kept.of_below HW4.out (le_refl _))).keep (k48 (le_refl _) (by omega))).keep (k810 (le_refl _))).more (le_refl _) (by omega)
    ·rw [← e10, ← e9]
     have h4:Below w.heap.size w w4:=HB.out.trans (HW4.out.mono HI9.out)
     have h5:Below w.heap.size w w5:=by
      rw [← e5]
      exact h4.setCell (p:=⟨g,o+i * 5,none⟩) HG.out.1 _
     have h8:=h5.trans (H58.out.mono h5.size)
     exact (h8.setCell (p:=⟨g,o+i * 5+2,none⟩) HG.out.1 _).setCell (p:=⟨g,o+i * 5+3,none⟩) HG.out.1 _
    ·omega
   obtain⟨hs1,hs2,hs3⟩:=hstep
   have HS1:=hid hs1
   have HS2:=hid hs2
   have HS3:=hid hs3
   clear hs1 hs2 hs3
   go_wp2_with fail
   go_roundw
   case rel=>exact⟨i+1,by omega,by go_num,HS1,HS2,HS3⟩
   case measure=>simp [intOf];omega
  ·obtain rfl:i=n:=by omega
   go_wp2_with fail
   go_ret
   obtain⟨Y,h1,h2,h3⟩:=HY.out
   exact⟨A1,c1,Y,rfl,HC1.out.1,HC1.out.2,h1.more (le_refl _) HZ.out,fun j hj=>(h3 j hj).more HB1.out.size (le_refl _),HB.out⟩
end CBunM
end
end Go.Proofs.YtfgdfignoakkaaaGreatDoor
