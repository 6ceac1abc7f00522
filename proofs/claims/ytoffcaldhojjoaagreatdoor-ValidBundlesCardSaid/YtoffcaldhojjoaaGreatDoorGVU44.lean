/- -/
import Derived.RangeFuncBox
import Derived.Test.YtoffcaldhojjoaaGreatDoorGVU43
open Go.Lib (hid)
open Nat (le_refl lt_of_succ_lt lt_succ_self)
set_option linter.unusedVariables false
set_option linter.unusedSimpArgs false
set_option maxRecDepth 100000
set_option maxHeartbeats 16000000
namespace Go.Proofs.YtoffcaldhojjoaaGreatDoor
namespace CConv
end CConv
namespace CDense
end CDense
namespace CFix
end CFix
namespace CGraph
end CGraph
namespace CKind
end CKind
namespace CSat
end CSat
namespace CSpan
end CSpan
namespace CTensor
end CTensor
open Go Go.ChangeShapes Go.WideShapes Go.ChangeAt Go.RowKit Go.Deep
section
namespace CCost
open Plain CSat CFix CShape CTensor CConv CKind CGraph CDense CBund
def inT (m:Md) (t0:Tri):Nat→Tri
 | 0=>t0
 | k+1=>outT (m.K k).X (inT m t0 k) (m.K k).n
def mdT0 (u:Bu):Tri:=(u.H,u.W,u.C)
def InAt (B:Nat) (t:Tri) (w:World):Prop:=TriAt B t w∧w.frozen? ⟨B,0,none⟩=false∧w.frozen? ⟨B,1,none⟩=false∧w.frozen? ⟨B,2,none⟩=false
theorem InAt.new (t:Tri) (T:TypeId) (w:World):InAt w.heap.size t (w.alloc (.cells #[.int .i64 t.1,.int .i64 t.2.1,.int .i64 t.2.2] T)):=⟨TriAt.new t T w,World.frozen?_alloc_at _ _ _ _ rfl,World.frozen?_alloc_at _ _ _ _ rfl,World.frozen?_alloc_at _ _ _ _ rfl⟩
theorem InAt.below {B B':Nat} {t:Tri} {w w':World} (h:InAt B t w) (hB:B < B') (hb:Below B' w w'):InAt B t w' :=
 ⟨h.1.below hB hb,(hb.frozen (p:=⟨B,0,none⟩) hB).trans h.2.1,(hb.frozen (p:=⟨B,1,none⟩) hB).trans h.2.2.1,(hb.frozen (p:=⟨B,2,none⟩) hB).trans h.2.2.2⟩
theorem InAt.set {B:Nat} {t:Tri} {w:World} (h:InAt B t w) (s:Tri):InAt B s (((w.setCell ⟨B,0,none⟩ (.int .i64 s.1)).setCell ⟨B,1,none⟩ (.int .i64 s.2.1)).setCell ⟨B,2,none⟩ (.int .i64 s.2.2)):=by
 obtain⟨⟨h0,h1,h2⟩,f0,f1,f2⟩:=h
 exact⟨⟨by go_cell,by go_cell,by go_cell⟩,by go_cell,by go_cell,by go_cell⟩
def UAt (B:Nat) (u:Bu) (w:World):Prop:=w.cell? ⟨B,0,none⟩=some (.int .i64 u.H)∧w.cell? ⟨B,1,none⟩=some (.int .i64 u.W)∧w.cell? ⟨B,2,none⟩=some (.int .i64 u.C)∧w.cell? ⟨B,3,none⟩=some (.int .i64 u.cl)∧w.cell? ⟨B,4,none⟩=some (.slice u.A u.n u.c)
theorem UAt.new (u:Bu) (T:TypeId) (w:World):UAt w.heap.size u (w.alloc (.cells u.val.toArray T)):=⟨Kit.zal _ _ _ _,Kit.zal _ _ _ _,Kit.zal _ _ _ _,Kit.zal _ _ _ _,Kit.zal _ _ _ _⟩
theorem UAt.below {B B':Nat} {u:Bu} {w w':World} (h:UAt B u w) (hB:B < B') (hb:Below B' w w'):UAt B u w' :=
 ⟨(hb.cell (p:=⟨B,0,none⟩) hB).trans h.1,(hb.cell (p:=⟨B,1,none⟩) hB).trans h.2.1,(hb.cell (p:=⟨B,2,none⟩) hB).trans h.2.2.1,(hb.cell (p:=⟨B,3,none⟩) hB).trans h.2.2.2.1,(hb.cell (p:=⟨B,4,none⟩) hB).trans h.2.2.2.2⟩
theorem blk_cells {w:World} {B:Nat} {m:Md} (h:MdOk w B m) {k:Nat} (hk:k < m.n):∃ bb ob,m.A=some ⟨bb,ob,none⟩∧bb < B∧w.cell? ⟨bb,ob+k * 5,none⟩=some (.slice (m.K k).A (m.K k).n (m.K k).c)∧w.cell? ⟨bb,ob+k * 5+1,none⟩=some (.bool (m.K k).ex)∧w.cell? ⟨bb,ob+k * 5+2,none⟩=some (.slice (m.K k).hd.WA (m.K k).hd.nW (m.K k).hd.cW)∧w.cell? ⟨bb,ob+k * 5+3,none⟩=some (.slice (m.K k).hd.BA (m.K k).hd.nB (m.K k).hd.cB)∧w.cell? ⟨bb,ob+k * 5+4,none⟩=some (.int .i32 (m.K k).hd.D):=by
 obtain⟨bb,ob,e,hb,hr⟩:=h.blocks k hk
 exact⟨bb,ob,e,hb,hr 0 _ rfl,hr 1 _ rfl,hr 2 _ rfl,hr 3 _ rfl,hr 4 _ rfl⟩
theorem mod_cells {w:World} {B:Nat} {u:Bu} (h:BuOk w B u) {i:Nat} (hi:i < u.n):∃ bm om,u.A=some ⟨bm,om,none⟩∧bm < B∧w.cell? ⟨bm,om+i,none⟩=some (.slice (u.M i).A (u.M i).n (u.M i).c):=by
 obtain⟨bm,om,e,hb,hr⟩:=h.models i hi
 have:=hr 0 _ rfl
 exact⟨bm,om,e,hb,by simpa using this⟩
end CCost
end
section
namespace CGuard
open Plain CSat CFix CShape CTensor CConv CSpan CKind CGraph CJoin
def FcPost (Y:Nat→NdW) (r0:Rch) (n:Nat) (w:World) (e:Ending) (w':World):Prop :=
 ((∃ k z,outG Y r0 n=some (k,z)∧e=.returned (.tuple #[.slice none 0 0,.int .i64 k,.int .i64 z])) ∨
   (outG Y r0 n=none∧∃ v,e=.returned (.tuple #[v,.int .i64 (n:Int),.int .i64 0])∧w'.ownsRow w.heap.size 82 2 v (n+1) (rvV (rcL Y r0 n))))∧Below w.heap.size w w'
theorem info_c2:(Tryz.prog.info? 82).map (fun i=>(i.zero,i.size,i.bytes))=some (some (.agg #[.int .i8 0,.int .i8 0]),2,2):=by kernel_rfl
theorem own_newC (w:World) (base:Nat) (hb:base≤w.heap.size) (t:Rch):(w.alloc (.cells #[.int .i8 t.1,.int .i8 t.2] 82)).ownsRow base 82 2 (.slice (some ⟨w.heap.size,0,none⟩) 1 1) 1 (rvV [t]) :=
 ⟨rfl,.inr ⟨w.heap.size,1,_,rfl,hb,heap_alloc_new w _,le_refl _,by unfold maxLen;omega,rfl,rfl⟩⟩
theorem cflow_to (Y:Nat→NdW) (r0:Rch) (h0:RBd r0) (n c:Nat) (hn:n≤50) (A:Option Addr) (w:World) (hT:zan w) (hX:∀ j,j < n→(Y j).1.Small) (hA:NodesAt w w.heap.size A n fun j=>(Y j).1)
  (hY:∀ j,j < n→NdL w w.heap.size (Y j).1 (Y j).2.1 (Y j).2.2∧(Y j).1.nW≤20000∧(Y j).1.nB≤20000) :
  Calls Tryz.prog 28 #[.slice A n c,.agg #[.int .i8 r0.1,.int .i8 r0.2]] w (FcPost Y r0 n w):=by
 obtain⟨q0,q1⟩:=zce r0.1 r0.2 82 w
 have HB0:=hid ((Below.refl w.heap.size w).alloc (le_refl _) (.cells #[.int .i8 r0.1,.int .i8 r0.2] 82))
 have HS0:Hid (w.heap.size < (w.alloc (.cells #[.int .i8 r0.1,.int .i8 r0.2] 82)).heap.size):=hid (by simp)
 have HA:=hid hA
 have HY:=hid hY
 have HT:=hid hT
 have HX:=hid hX
 have HR0:=hid h0
 obtain⟨i0,hi0,hi1,hi2,hi3⟩:=info_parts info_c2
 have hout:outG Y r0 n=if n=0 then some (-1,12) else if 8 < n then some (-1,4) else if r0.2 < r0.1 then some (-1,2) else (zbu Y r0 n).map fun r=>((r.1:Int),r.2):=rfl
 have HOUT:=hid hout
 clear hA hY hout h0 hT hX
 go_enter Tryz.func28,Tryz.ntmps28
 go_upto_region 1 with fail
 generalize w.alloc (.cells #[.int .i8 r0.1,.int .i8 r0.2] 82)=W0 at q0 q1 HB0 HS0 ⊢
 by_cases h0:n=0
 ·subst h0
  go_wp2_with fail
  go_ret3
  exact⟨.inl ⟨-1,12,by rw [HOUT.out];rfl,rfl⟩,HB0.out⟩
 ·have h1:((n:Int) == 0)=false:=by simp;omega
  have h1b:¬ (n:Int)=0:=by omega
  by_cases h2:8 < n
  ·have h3:(n:Int) > 8:=by omega
   have ho:outG Y r0 n=some (-1,4):=by rw [HOUT.out];simp [h0,h2]
   have HO:=hid ho
   clear h0 h2 ho HOUT
   go_wp2_with fail
   go_ret3
   exact⟨.inl ⟨-1,4,HO.out,rfl⟩,HB0.out⟩
  ·have h3:¬ (n:Int) > 8:=by omega
   by_cases h4:r0.2 < r0.1
   ·have ho:outG Y r0 n=some (-1,2):=by rw [HOUT.out];simp [h0,h2,h4]
    have HO:=hid ho
    have CE:=hid (fun w:World=>zbx r0.1 r0.2 w)
    rw [show decide (r0.2 < r0.1)=true by simp [h4]] at CE
    clear h0 h2 h4 ho HOUT
    go_wp2_with (go_at_call 45;(with_reducible refine (CE.out _).mono ?_);rintro e w1 ⟨rfl,hb⟩;have HB1:=hid (HB0.out.trans (hb.mono HB0.out.size));clear hb)
    go_ret3
    exact⟨.inl ⟨-1,2,HO.out,rfl⟩,HB1.out⟩
   ·have ho:outG Y r0 n=(zbu Y r0 n).map fun r=>((r.1:Int),r.2):=by rw [HOUT.out];simp [h0,h2,h4]
    have HO9:=hid ho
    have CE:=hid (fun w:World=>zbx r0.1 r0.2 w)
    rw [show decide (r0.2 < r0.1)=false by simp;omega] at CE
    clear h0 h2 h4 ho HOUT
    go_wp2_with (go_at_call 45;(with_reducible refine (CE.out _).mono ?_);rintro e w1 ⟨rfl,hb⟩;(have HB1:=hid (HB0.out.trans (hb.mono HB0.out.size)));(have h7:=(hb.cell (p:=⟨w.heap.size,0,none⟩) HS0.out).trans q0);(have h8:=(hb.cell (p:=⟨w.heap.size,1,none⟩) HS0.out).trans q1);clear hb q0 q1 HB0 HS0)
    have HO0:=hid (own_newC w1 w.heap.size HB1.out.size r0)
    have HBS:=hid (HB1.out.alloc HB1.out.size (.cells #[.int .i8 r0.1,.int .i8 r0.2] 82))
    generalize w1.alloc (.cells #[.int .i8 r0.1,.int .i8 r0.2] 82)=WS at HO0 HBS ⊢
    clear h7 h8 HB1 CE
    go_loopw [7,27] (fun v u wr=>∃ k:Nat,k≤n∧u=.int .i64 k∧Hid (zbu Y r0 k=none)∧Hid (wr.ownsRow w.heap.size 82 2 v (k+1) (rvV (rcL Y r0 k)))∧Hid (Below w.heap.size w wr)) (fun _ u _=>n - (intOf u).toNat)
    case atStart=>exact⟨0,Nat.zero_le _,rfl,hid rfl,HO0,HBS⟩
    case round =>
     obtain⟨k,hk,rfl,hst,HO,HB⟩:=hrel
     clear HO0 HBS
     by_cases hlt:k < n
     ·obtain⟨Av,cv,rfl, -, -,hrd⟩:=Kit.own_rd HO.out
      obtain⟨ba,oa,rfl,hba,hra⟩:=(HA.out.below HB.out) k hlt
      have k0:(0:Int)≤(k:Int):=by omega
      have k1:(k:Int) < (n:Int):=by omega
      have hlen:=rcL_len Y r0 k
      have hall:=rcL_bd Y r0 HR0.out k (fun j hj=>⟨_,_,(HY.out j (by omega)).1.ok⟩)
      obtain⟨hyl,hyw,hyb⟩:=HY.out k hlt
      have hys:=HX.out k hlt
      obtain⟨y,hy⟩:∃ y,Y k=y:=⟨_,rfl⟩
      rw [hy] at hyl hyw hyb hys
      simp only [hy] at hra
      obtain⟨x,ws,bs⟩:=y
      simp only [] at hyl hyw hyb hra hys
      obtain⟨L,hL⟩:∃ L,rcL Y r0 k=L:=⟨_,rfl⟩
      rw [hL] at hlen hall hrd HO
      have HRA:=hid hra
      have HYK:=hid hy
      have HLL:=hid hL
      have HRD:=hid hrd
      have hend:stopG (x,ws,bs) L≠0→outG Y r0 n=some ((k:Int),stopG (x,ws,bs) L):=by
       intro h
       have:=stopGA_end (Y:=Y) (r0:=r0) hlt hst.out (by rw [hy,hL];exact h)
       rw [hy,hL] at this
       rw [HO9.out,this];rfl
      have hgo:stopG (x,ws,bs) L=0→zbu Y r0 (k+1)=none:=fun h=>stopGA_go hst.out (by rw [hy,hL];exact h)
      have hst2:stopG (x,ws,bs) L=(nxZ (x,ws,bs) L).2.2:=by
       unfold stopG nxZ
       cases zbp (x,ws,bs).1 L.length <;> simp
      have hnx:stopG (x,ws,bs) L=0→nextR (x,ws,bs) L=((nxZ (x,ws,bs) L).1,(nxZ (x,ws,bs) L).2.1):=by
       intro h
       unfold nextR nxZ
       unfold stopG at h
       cases ht:zbp (x,ws,bs).1 L.length with
       | false=>rw [ht] at h;simp at h
       | true=>simp
      have CN:Hid (∀ wx,Below w.heap.size w wx→Kit.Rd wx wx.heap.size Av (rvV L)→Calls Tryz.prog 46 #[.slice Av (k+1) cv,.agg x.val] wx fun e w'=>e=.returned (.tuple #[.agg #[.int .i8 (nxZ (x,ws,bs) L).1,.int .i8 (nxZ (x,ws,bs) L).2.1],.int .i64 (nxZ (x,ws,bs) L).2.2])∧Below wx.heap.size wx w') :=
       hid (fun wx hb hr=>cnext_to (w:=wx) (x,ws,bs) L (k+1) hlen (by omega) hall Av cv (HT.out.grown hb) hys hr (NdL.belowG hyl hb) hyw hyb)
      obtain⟨ra,hra2⟩:∃ ra,(nxZ (x,ws,bs) L).1=ra:=⟨_,rfl⟩
      obtain⟨rb,hrb2⟩:∃ rb,(nxZ (x,ws,bs) L).2.1=rb:=⟨_,rfl⟩
      obtain⟨z,hz⟩:∃ z,(nxZ (x,ws,bs) L).2.2=z:=⟨_,rfl⟩
      rw [hra2,hrb2,hz] at CN
      rw [hra2,hrb2] at hnx
      rw [hst2,hz] at hend hgo hnx
      have HEND:=hid hend
      have HGO:=hid hgo
      have HNX0:=hid hnx
      obtain⟨m,hm⟩:∃ m,k+1=m:=⟨_,rfl⟩
      have HMK:=hid hm
      have hmi:((k+1:Nat):Int)=(m:Int):=by rw [hm]
      rw [hm] at CN HO
      try rw [hm]
      clear hrd hra hba hy hL hyl hyw hyb hys hend hgo hnx hst2 hra2 hrb2 hz hlen hall hm
      go_upto_region 12 with (first
       | (refine zbm rfl _ rfl ba (oa+k * 19) x rfl HRA.out ?_)
       | (refine za2 rfl _ _ rfl wr.heap.size nd0 x rfl rfl (NdBox.new nd0 _ wr) ?_
          intro w2 hbx hbl hsz1
          have HNX:=hid hbx.1
          have hh:Below wr.heap.size wr w2:=((Below.refl _ _).alloc (le_refl _) _).trans hbl
          have HH:=hid hh
          have HB2:=hid (HB.out.trans (hh.mono HB.out.size))
          have HRD2:=hid ((HRD.out.below hh).more hh.size)
          clear hbx hbl hsz1 hh)
       | (refine zac rfl _ rfl wr.heap.size x rfl HNX.out ?_)
       | (go_at_call 46
          refine (CN.out _ HB2.out HRD2.out).mono ?_
          rintro e w3 ⟨rfl,hb⟩
          have HB3:=hid (HB2.out.trans (hb.mono HB2.out.size))
          have HH3:=hid (HH.out.trans (hb.mono HH.out.size))
          clear hb HNX))
      have HO3:=hid (Kit.own_below HO.out (HH3.out.alloc HH3.out.size (.cells #[.int .i8 ra,.int .i8 rb] 82)))
      have HB4:=hid (HB3.out.alloc HB3.out.size (.cells #[.int .i8 ra,.int .i8 rb] 82))
      obtain⟨q0,q1⟩:=zce ra rb 82 w3
      generalize w3.alloc (.cells #[.int .i8 ra,.int .i8 rb] 82)=W4 at HO3 HB4 q0 q1 ⊢
      clear HB2 HB3 HRD2 HH HH3
      by_cases hz0:z=0
      ·have HGO2:=hid (HGO.out hz0)
       have HNX2:=hid (HNX0.out hz0)
       clear HEND HGO HNX0
       subst hz0
       go_wp2_with (at_builtin;refine Kit.za3 _ rfl (.tmp 42) (.tmp 44) _ rfl w.heap.size 82 i0 (.agg #[.int .i8 0,.int .i8 0]) 2 2 Tryz.underlying79 hi0 hi1 hi2 hi3 rfl (by decide) _ m (rvV L) rfl (HO3.out.alloc _) _ _ 1 1 [.int .i8 ra,.int .i8 rb] rfl rfl (Kit.Rd.new _ _ _ (lt_succ_self _)) (Kit.zb6 .i8 [ra,rb]) (by have:=HMK.out;unfold maxLen;omega) (by have:=HMK.out;omega) (by have:=HB4.out.size;simp;omega) ?_;intro v5 w5 hown5 hg5 hat5;(have hB5:Below w.heap.size w w5:=(HB4.out.alloc HB4.out.size _).grown hg5 (by have:=HB4.out.size;simp;omega) (fun q hq=>Kit.zbd HO3.out q hq));(have e5:rvV L ++ [.int .i8 ra,.int .i8 rb]=rvV (rcL Y r0 (k+1)):=by rw [rcL,rvV_append,HYK.out,HLL.out,HNX2.out];rfl);rw [e5, ← HMK.out] at hown5;(have HO5:=hid hown5);(have HB5:=hid hB5);clear hown5 hg5 hat5 hB5 e5)
       go_roundw
       case rel=>exact⟨k+1,by omega,by go_num,HGO2,HO5,HB5⟩
       case measure=>simp [intOf];omega
      ·have hz2:(z != 0)=true:=by simpa using hz0
       have HE9:=hid (HEND.out hz0)
       clear HEND HGO HNX0
       go_wp2_with fail
       go_ret3
       exact⟨.inl ⟨k,z,HE9.out,rfl⟩,HB4.out⟩
     ·obtain rfl:k=n:=by omega
      have ho:outG Y r0 k=none:=by rw [HO9.out,hst.out];rfl
      have HO8:=hid ho
      clear ho
      go_wp2_with fail
      go_ret3
      exact⟨.inr ⟨HO8.out,_,rfl,HO.out⟩,HB.out⟩
theorem chead_no (WA BA:Option Addr) (nW cW nB cB:Nat) (ws bs:List Int) (hws:ws.length=nW) (hbs:bs.length=nB) (hwb:I8b ws) (hbb:∀ q, -2147483648≤bs.getD q 0∧bs.getD q 0≤2147483647) (hcw:nW≤cW) (hcb:nB≤cB) (hW2:nW≤20000) (hB2:nB≤20000) (l h:Int) (l1 : -128≤l) (l2:l≤127) (h1 : -128≤h) (h2:h≤127) (D:Int) (w:World) (hrw:Kit.Rd w w.heap.size WA (I8s ws)) (hrb:Kit.Rd w w.heap.size BA (I32v bs)) (hs:¬ (1≤nB∧nW % nB=0)) :
  Calls Tryz.prog 49 #[.agg #[.slice WA nW cW,.slice BA nB cB,.int .i32 D],.agg #[.int .i8 l,.int .i8 h]] w fun e w'=>e=.returned (.int .i64 9)∧Below w.heap.size w w':=by
 have CA:=hid (fun w:World=>call_no (.int .i64 3) (.int .i64 0) (.int .i64 0) 0 0 0 0 0 0 WA BA nW cW nB cB 0 0 0 0 0 0 0 0 l h (by by_cases h0:nB=0;exact .inl h0;exact .inr (fun e=>hs ⟨by omega,e⟩)) (by omega) (by omega) w)
 clear hrw hrb hs
 have hb1:Below w.heap.size w ((w.alloc (.cells #[.slice WA nW cW,.slice BA nB cB,.int .i32 D] 44)).alloc (.cells #[.int .i8 l,.int .i8 h] 82)):=((Below.refl _ _).alloc (le_refl _) _).alloc (by simp) _
 have HB0:=hid hb1
 clear hb1
 go_enter Tryz.func49,Tryz.ntmps49
 go_wp2_with (first
  | (go_at_call 63
     refine (CA.out _).mono ?_
     rintro e w1 ⟨A,c,rfl,hb⟩
     have HB1:=hid (HB0.out.trans (hb.mono HB0.out.size))
     clear hb))
 go_ret
 exact⟨rfl,HB1.out⟩
theorem chead_yes (WA BA:Option Addr) (nW cW nB cB:Nat) (ws bs:List Int) (hws:ws.length=nW) (hbs:bs.length=nB) (hwb:I8b ws) (hbb:∀ q, -2147483648≤bs.getD q 0∧bs.getD q 0≤2147483647) (hcw:nW≤cW) (hcb:nB≤cB) (hW2:nW≤20000) (hB2:nB≤20000) (l h:Int) (l1 : -128≤l) (l2:l≤127) (h1 : -128≤h) (h2:h≤127) (D:Int) (w:World) (hrw:Kit.Rd w w.heap.size WA (I8s ws)) (hrb:Kit.Rd w w.heap.size BA (I32v bs)) (hs:1≤nB∧nW % nB=0) (f:Bool) (hf:fitB (lsW ws bs nW nB l h 0 false) (grW ws bs nW nB l h 0 false)=f) (z:Int) (hz:(if f=true then (0:Int) else 10)=z) :
  Calls Tryz.prog 49 #[.agg #[.slice WA nW cW,.slice BA nB cB,.int .i32 D],.agg #[.int .i8 l,.int .i8 h]] w fun e w'=>e=.returned (.int .i64 z)∧Below w.heap.size w w':=by
 have CA:Hid (∀ wx,Below w.heap.size w wx→Calls Tryz.prog 63 #[.agg #[.int .i64 3,.int .i64 0,.int .i64 0,.int .i64 0,.int .i64 0,.int .i64 0,.int .i64 0,.int .i8 0,.int .i8 0,.slice WA nW cW,.slice BA nB cB,.int .i32 0,.int .i64 0,.int .i8 0,.int .i32 0,.int .i64 0,.int .i8 0,.int .i8 0,.int .i8 0],.int .i8 l,.int .i8 h] wx fun e w'=>∃ A c P Q,e=.returned (.slice A nB c)∧Hid (Kit.Rd w' w'.heap.size A (pairV P Q nB))∧Hid (holdF P Q nB=f)∧Below wx.heap.size wx w'):=hid (fun wx hb=>by
  refine (call_yes (.int .i64 3) (.int .i64 0) (.int .i64 0) 0 0 0 0 0 0 WA BA nW cW nB cB 0 0 0 0 0 0 0 0 ws bs hws hbs hwb hbb hcw hcb l h l1 l2 h1 h2 (by decide) (by decide) (nW / nB) hs.1 (za4 hs) (by omega) (by omega) false rfl wx ((hrw.below hb).more hb.size) ((hrb.below hb).more hb.size)).mono ?_
  rintro e w' ⟨v,rfl,hown,hb'⟩
  obtain⟨A,c,rfl, -, -,hrd⟩:=Kit.own_rd hown
  obtain⟨m,hm⟩:∃ m,nB=m+1:=⟨nB - 1,by omega⟩
  refine⟨A,c,_,_,rfl,hid hrd,hid ?_,hb'⟩
  rw [← hf]
  unfold lsW grW
  rw [lsR_lo,grR_hi,hm]
  exact hold_fit _ _ m)
 have n1:((nB:Int) == 0)=false:=by simp;omega
 have n2:¬ (nB:Int)=0:=by omega
 have HN:=hid hB2
 clear hrw hrb hs hf hws hbs hwb hbb
 have hb1:Below w.heap.size w ((w.alloc (.cells #[.slice WA nW cW,.slice BA nB cB,.int .i32 D] 44)).alloc (.cells #[.int .i8 l,.int .i8 h] 82)):=((Below.refl _ _).alloc (le_refl _) _).alloc (by simp) _
 have HB0:=hid hb1
 clear hb1
 go_enter Tryz.func49,Tryz.ntmps49
 go_upto_region 4 with (go_at_call 63;(refine (CA.out _ HB0.out).mono ?_);rintro e w1 ⟨A,c,P,Q,rfl,HR,HF,hb⟩;(have HB1:=hid (HB0.out.trans (hb.mono HB0.out.size)));clear hb)
 have CH:=hid (cholds_to A P Q nB c (by have:=HN.out;omega) w1 HR.out)
 rw [HF.out] at CH
 clear HR HF CA
 cases f
 ·obtain rfl:(10:Int)=z:=by simpa using hz
  go_wp2_with (go_at_call 64;(refine CH.out.mono ?_);rintro e w2 ⟨rfl,hb⟩;(have HB2:=hid (HB1.out.trans (hb.mono HB1.out.size)));clear hb)
  go_ret
  exact⟨rfl,HB2.out⟩
 ·obtain rfl:(0:Int)=z:=by simpa using hz
  go_wp2_with (go_at_call 64;(refine CH.out.mono ?_);rintro e w2 ⟨rfl,hb⟩;(have HB2:=hid (HB1.out.trans (hb.mono HB1.out.size)));clear hb)
  go_ret
  exact⟨rfl,HB2.out⟩
theorem chead_to (WA BA:Option Addr) (nW cW nB cB:Nat) (ws bs:List Int) (hws:ws.length=nW) (hbs:bs.length=nB) (hwb:I8b ws) (hbb:∀ q, -2147483648≤bs.getD q 0∧bs.getD q 0≤2147483647) (hcw:nW≤cW) (hcb:nB≤cB) (hW2:nW≤20000) (hB2:nB≤20000) (l h:Int) (l1 : -128≤l) (l2:l≤127) (h1 : -128≤h) (h2:h≤127) (D:Int) (w:World) (hrw:Kit.Rd w w.heap.size WA (I8s ws)) (hrb:Kit.Rd w w.heap.size BA (I32v bs)) :
  Calls Tryz.prog 49 #[.agg #[.slice WA nW cW,.slice BA nB cB,.int .i32 D],.agg #[.int .i8 l,.int .i8 h]] w fun e w'=>e=.returned (.int .i64 (headZ ws bs nW nB l h))∧Below w.heap.size w w':=by
 unfold headZ
 by_cases hs:1≤nB∧nW % nB=0
 ·rw [if_pos hs]
  exact chead_yes WA BA nW cW nB cB ws bs hws hbs hwb hbb hcw hcb hW2 hB2 l h l1 l2 h1 h2 D w hrw hrb hs _ rfl _ rfl
 ·rw [if_neg hs]
  exact chead_no WA BA nW cW nB cB ws bs hws hbs hwb hbb hcw hcb hW2 hB2 l h l1 l2 h1 h2 D w hrw hrb hs
end CGuard
end
end Go.Proofs.YtoffcaldhojjoaaGreatDoor
