/- -/
import Derived.Test.YtoffcaldhojjoaaGreatDoorGVU45
import Derived.Test.YtoffcaldhojjoaaGreatDoorGVU46
open Go.Lib (hid)
open Nat (le_refl lt_of_succ_lt lt_succ_self)
set_option linter.unusedVariables false
set_option linter.unusedSimpArgs false
set_option maxRecDepth 100000
set_option maxHeartbeats 16000000
namespace Go.Proofs.YtoffcaldhojjoaaGreatDoor
namespace CConv
end CConv
namespace CCost
end CCost
namespace CFix
end CFix
namespace CGraph
end CGraph
namespace CKind
end CKind
namespace CSat
end CSat
namespace CSpan
end CSpan
namespace CTensor
end CTensor
open Go Go.ChangeShapes Go.WideShapes Go.ChangeAt Go.RowKit Go.Deep
section
namespace CValid
open Plain CSat CFix CShape CTensor CConv CSpan CKind CGraph CJoin CGuard CBund CCost CVerd
structure BkRdy (w:World) (b:Bk) (s:Ls):Prop where
 nodes:NodesAt w w.heap.size b.A b.n b.X
 ls:LsOk w w.heap.size b s
 few:FewK b
theorem BkRdy.below {w w':World} {b:Bk} {s:Ls} (h:BkRdy w b s) (hb:Below w.heap.size w w'):BkRdy w' b s :=
 ⟨(h.nodes.below hb).more hb.size,(h.ls.below hb).more hb.size,h.few⟩
theorem blk_a1 {b:Bk} {s:Ls} {t0:Tri} {cl:Int} {last:Bool} {k z:Int} (h:outS b.X t0 b.n=some (k,z)):bkP b s t0 cl last=k∧bkZ b s t0 cl last=z:=by
 unfold bkP bkZ blkO;rw [h];exact⟨rfl,rfl⟩
theorem blk_a2 {b:Bk} {s:Ls} {t0:Tri} {cl:Int} {last:Bool} {k z:Int} (h:outS b.X t0 b.n=none) (h2:outG (ndw b s) rall b.n=some (k,z)):bkP b s t0 cl last=k∧bkZ b s t0 cl last=z:=by
 unfold bkP bkZ blkO;rw [h,h2];exact⟨rfl,rfl⟩
theorem blk_a3 {b:Bk} {s:Ls} {t0:Tri} {cl:Int} {last:Bool} {o:Tri} {r:Rch} (h:outS b.X t0 b.n=none) (h2:outG (ndw b s) rall b.n=none) (ho:outT b.X t0 b.n=o) (hr:outR (ndw b s) b.n=r) {ez:Int} (he:exZ b.hd b.ex s o r cl last=ez) :
  (ez≠0→bkP b s t0 cl last = -1∧bkZ b s t0 cl last=ez)∧(ez=0→bkP b s t0 cl last=b.n∧bkZ b s t0 cl last=0):=by
 subst he ho hr
 unfold bkP bkZ blkO
 rw [h,h2]
 simp only []
 refine⟨fun hz=>?_,fun hz=>?_⟩
 ·rw [if_neg hz];exact⟨rfl,rfl⟩
 ·rw [if_pos hz];exact⟨rfl,rfl⟩
def Says (P Z:Int) (w:World) (e:Ending) (w':World):Prop:=e=.returned (.tuple #[.int .i64 P,.int .i64 Z])∧Below w.heap.size w w'
def SaysI (Z:Int) (w:World) (e:Ending) (w':World):Prop:=e=.returned (.int .i64 Z)∧Below w.heap.size w w'
theorem exz_no {h:Hd} {s:Ls} {o:Tri} {r:Rch} {cl:Int} {last:Bool} (ht:(last || told h)=true):exZ h false s o r cl last=11:=by unfold exZ;rw [if_pos rfl,if_pos ht]
theorem exz_none {h:Hd} {s:Ls} {o:Tri} {r:Rch} {cl:Int} {last:Bool} (ht:(last || told h)=false):exZ h false s o r cl last=0:=by unfold exZ;rw [if_pos rfl,if_neg (by rw [ht];decide)]
theorem exz_chk {h:Hd} {s:Ls} {o:Tri} {r:Rch} {cl:Int} {last:Bool} {cz:Int} (hc:verdE o.1 o.2.1 o.2.2 h.nW h.nB h.D cl=cz) (hz:cz≠0):exZ h true s o r cl last=cz:=by
 subst hc;unfold exZ;rw [if_neg (by decide),if_pos hz]
theorem exz_head {h:Hd} {s:Ls} {o:Tri} {r:Rch} {cl:Int} {last:Bool} (hc:verdE o.1 o.2.1 o.2.2 h.nW h.nB h.D cl=0):exZ h true s o r cl last=headZ s.hw s.hb h.nW h.nB r.1 r.2:=by
 unfold exZ;rw [if_neg (by decide),if_neg (by simpa using hc)]
theorem told_w {h:Hd} (q:0 < h.nW):told h=true:=by unfold told;simp [q]
theorem told_b {h:Hd} (q:0 < h.nB):told h=true:=by unfold told;simp [q]
theorem told_d {h:Hd} (q:¬ h.D=0):told h=true:=by unfold told;simp [q]
theorem told_no {h:Hd} (q1:h.nW=0) (q2:h.nB=0) (q3:h.D=0):told h=false:=by unfold told;simp [q1,q2,q3]
theorem ls_nd {w:World} {b:Bk} {s:Ls} (h:BkRdy w b s) {wx:World} (hb:Below w.heap.size w wx):∀ j,j < b.n→NdL wx wx.heap.size (ndw b s j).1 (ndw b s j).2.1 (ndw b s j).2.2∧(ndw b s j).1.nW≤20000∧(ndw b s j).1.nB≤20000 :=
 fun j hj=>⟨((h.below hb).ls).nds j hj,by have:(b.X j).nW≤1000∧(b.X j).nB≤100:=h.few.2.1 j hj;exact Nat.le_trans this.1 (by decide),by have:(b.X j).nW≤1000∧(b.X j).nB≤100:=h.few.2.1 j hj;exact Nat.le_trans this.2 (by decide)⟩
theorem rall_bd:RBd rall:=⟨⟨by decide,by decide⟩,by decide,by decide⟩
theorem rshp_at {w:World} {b:Bk} {s:Ls} (h:BkRdy w b s) (t0:Tri) {wx:World} (hb:Below w.heap.size w wx) :
  Calls Tryz.prog 15 #[.slice b.A b.n b.c,.agg #[.int .i64 t0.1,.int .i64 t0.2.1,.int .i64 t0.2.2]] wx (ShpPost b.X t0 b.n wx) :=
 rshapes_to b.X t0 b.n b.c (by have:=h.few.1;omega) b.A wx (h.below hb).nodes
theorem rflow_at {w:World} {b:Bk} {s:Ls} (h:BkRdy w b s) {wx:World} (hb:Below w.heap.size w wx) :
  Calls Tryz.prog 19 #[.slice b.A b.n b.c,.agg #[.int .i8 (-128),.int .i8 127]] wx (FlPost (ndw b s) rall b.n wx) :=
 rflow_to (ndw b s) rall rall_bd b.n b.c (by have:=h.few.1;omega) b.A wx (h.below hb).nodes (ls_nd h hb)
theorem rhead_at {w:World} {b:Bk} {s:Ls} (h:BkRdy w b s) {r:Rch} (hr:RBd r) {wx:World} (hb:Below w.heap.size w wx) :
  Calls Tryz.prog 21 #[.agg #[.slice b.hd.WA b.hd.nW b.hd.cW,.slice b.hd.BA b.hd.nB b.hd.cB,.int .i32 b.hd.D],.agg #[.int .i8 r.1,.int .i8 r.2]] wx (SaysI (headZ s.hw s.hb b.hd.nW b.hd.nB r.1 r.2) wx) :=
 have hh:=h.below hb
 rhead_to b.hd.WA b.hd.BA b.hd.nW b.hd.cW b.hd.nB b.hd.cB s.hw s.hb hh.ls.lw.1 hh.ls.lb.1 hh.ls.lw.2.2 hh.ls.lb.2.2 hh.ls.lw.2.1 hh.ls.lb.2.1 (by have:=h.few.2.2.1;omega) (by have:=h.few.2.2.2;omega) r.1 r.2 hr.1.1 hr.1.2 hr.2.1 hr.2.2 b.hd.D wx hh.ls.rw hh.ls.rb
theorem cshp_at {w:World} {b:Bk} {s:Ls} (h:BkRdy w b s) (hT:zan w) (t0:Tri) {wx:World} (hb:Below w.heap.size w wx) :
  Calls Tryz.prog 27 #[.slice b.A b.n b.c,.agg #[.int .i64 t0.1,.int .i64 t0.2.1,.int .i64 t0.2.2]] wx (ShpPost b.X t0 b.n wx) :=
 cshapes_to b.X t0 b.n b.c (by have:=h.few.1;omega) b.A wx (hT.grown hb) (fun j hj=>node_small (h.ls.nds j hj).ok) (h.below hb).nodes
theorem cflow_at {w:World} {b:Bk} {s:Ls} (h:BkRdy w b s) (hT:zan w) {wx:World} (hb:Below w.heap.size w wx) :
  Calls Tryz.prog 28 #[.slice b.A b.n b.c,.agg #[.int .i8 (-128),.int .i8 127]] wx (FcPost (ndw b s) rall b.n wx) :=
 cflow_to (ndw b s) rall rall_bd b.n b.c (by have:=h.few.1;omega) b.A wx (hT.grown hb) (fun j hj=>node_small (h.ls.nds j hj).ok) (h.below hb).nodes (ls_nd h hb)
theorem chead_at {w:World} {b:Bk} {s:Ls} (h:BkRdy w b s) {r:Rch} (hr:RBd r) {wx:World} (hb:Below w.heap.size w wx) :
  Calls Tryz.prog 49 #[.agg #[.slice b.hd.WA b.hd.nW b.hd.cW,.slice b.hd.BA b.hd.nB b.hd.cB,.int .i32 b.hd.D],.agg #[.int .i8 r.1,.int .i8 r.2]] wx (SaysI (headZ s.hw s.hb b.hd.nW b.hd.nB r.1 r.2) wx) :=
 have hh:=h.below hb
 chead_to b.hd.WA b.hd.BA b.hd.nW b.hd.cW b.hd.nB b.hd.cB s.hw s.hb hh.ls.lw.1 hh.ls.lb.1 hh.ls.lw.2.2 hh.ls.lb.2.2 hh.ls.lw.2.1 hh.ls.lb.2.1 (by have:=h.few.2.2.1;omega) (by have:=h.few.2.2.2;omega) r.1 r.2 hr.1.1 hr.1.2 hr.2.1 hr.2.2 b.hd.D wx hh.ls.rw hh.ls.rb
theorem outR_bd {w:World} {B:Nat} {b:Bk} {s:Ls} (h:LsOk w B b s) {r:Rch} (hr:(rcL (ndw b s) rall b.n)[b.n]?=some r):RBd r :=
 rcL_bd (ndw b s) rall rall_bd b.n (fun j hj=>⟨w,B,(h.nds j hj).ok⟩) b.n r hr
theorem used_to (h:Hd) (w:World):Calls Tryz.prog 47 #[.agg #[.slice h.WA h.nW h.cW,.slice h.BA h.nB h.cB,.int .i32 h.D]] w fun e w'=>e=.returned (.bool (told h))∧Below w.heap.size w w':=by
 have HB0:=hid ((Below.refl w.heap.size w).alloc (le_refl _) (.cells #[.slice h.WA h.nW h.cW,.slice h.BA h.nB h.cB,.int .i32 h.D] 44))
 have HG:=hid (headGNew h.WA h.BA h.nW h.cW h.nB h.cB h.D 44 w)
 go_enter Tryz.func47,Tryz.ntmps47
 go_upto_region 1 with fail
 generalize w.alloc (.cells #[.slice h.WA h.nW h.cW,.slice h.BA h.nB h.cB,.int .i32 h.D] 44)=W0 at HB0 HG ⊢
 obtain⟨k0,k1,k2⟩:=HG.out
 by_cases w1:0 < h.nW
 ·have HTO:=hid (told_w w1)
  have ga:(h.nW:Int) > 0:=by omega
  have gb:decide ((0:Int) < (h.nW:Int))=true:=by simp;omega
  have gc:decide (0 < h.nW)=true:=by simp;omega
  clear w1
  go_wp2_with fail
  go_ret
  exact⟨by rw [HTO.out];first | done | rfl,HB0.out⟩
 have w0:h.nW=0:=by omega
 have ga:¬ (h.nW:Int) > 0:=by omega
 have gb:decide ((0:Int) < (h.nW:Int))=false:=by simp;omega
 have gc:decide (0 < h.nW)=false:=by simp;omega
 by_cases w2:0 < h.nB
 ·have HTO:=hid (told_b w2)
  have fa:(h.nB:Int) > 0:=by omega
  have fb:decide ((0:Int) < (h.nB:Int))=true:=by simp;omega
  have fc:decide (0 < h.nB)=true:=by simp;omega
  clear w2
  go_wp2_with fail
  go_ret
  exact⟨by rw [HTO.out];first | done | rfl,HB0.out⟩
 have w4:h.nB=0:=by omega
 have fa:¬ (h.nB:Int) > 0:=by omega
 have fb:decide ((0:Int) < (h.nB:Int))=false:=by simp;omega
 have fc:decide (0 < h.nB)=false:=by simp;omega
 by_cases w5:h.D=0
 ·have HTO:=hid (told_no w0 w4 w5)
  have d1:(h.D != 0)=false:=by simp [w5]
  go_wp2_with fail
  go_ret
  exact⟨by rw [HTO.out];first | done | rfl,HB0.out⟩
 ·have HTO:=hid (told_d w5)
  have d1:(h.D != 0)=true:=by simp [w5]
  go_wp2_with fail
  go_ret
  exact⟨by rw [HTO.out];first | done | rfl,HB0.out⟩
theorem vexit_to (b:Bk) (s:Ls) (o:Tri) (r:Rch) (hr:RBd r) (cl:Int) (last:Bool) (w:World) (h:BkRdy w b s) :
  Calls Tryz.prog 29 #[.agg b.val.toArray,.agg #[.int .i64 o.1,.int .i64 o.2.1,.int .i64 o.2.2],.agg #[.int .i8 r.1,.int .i8 r.2],.int .i64 cl,.bool last] w (SaysI (exZ b.hd b.ex s o r cl last) w):=by
 obtain⟨cz,hcz⟩:∃ cz,verdE o.1 o.2.1 o.2.2 b.hd.nW b.hd.nB b.hd.D cl=cz:=⟨_,rfl⟩
 obtain⟨hz,hhz⟩:∃ hz,headZ s.hw s.hb b.hd.nW b.hd.nB r.1 r.2=hz:=⟨_,rfl⟩
 have CU:=hid (fun (wx:World)=>used_to b.hd wx)
 have CK:=hid (fun (wx:World)=>chk_to o.1 o.2.1 o.2.2 b.hd.WA b.hd.BA b.hd.nW b.hd.cW b.hd.nB b.hd.cB b.hd.D cl cz hcz wx)
 have CH:Hid (∀ wx,Below w.heap.size w wx→Calls Tryz.prog 49 #[.agg #[.slice b.hd.WA b.hd.nW b.hd.cW,.slice b.hd.BA b.hd.nB b.hd.cB,.int .i32 b.hd.D],.agg #[.int .i8 r.1,.int .i8 r.2]] wx (SaysI hz wx)):=hid (fun wx hb=>by have q:=chead_at h hr hb;rw [hhz] at q;exact q)
 obtain⟨ez,hez⟩:∃ ez,exZ b.hd b.ex s o r cl last=ez:=⟨_,rfl⟩
 rw [hez]
 have HE1:=hid (fun (q:b.ex=false) (t:(last || told b.hd)=true)=>(show ez=11 by rw [← hez,q];exact exz_no t))
 have HE2:=hid (fun (q:b.ex=false) (t:(last || told b.hd)=false)=>(show ez=0 by rw [← hez,q];exact exz_none t))
 have HE3:=hid (fun (q:b.ex=true) (t:cz≠0)=>(show ez=cz by rw [← hez,q];exact exz_chk hcz t))
 have HE4:=hid (fun (q:b.ex=true) (t:cz=0)=>(show ez=hz by rw [← hez,q, ← hhz];exact exz_head (hcz.trans t)))
 obtain⟨td,htd⟩:∃ td,told b.hd=td:=⟨_,rfl⟩
 rw [htd] at CU HE1 HE2
 have b3:Below (w.heap.size+2) ((w.alloc (.cells b.val.toArray 46)).alloc (.cells #[.int .i64 o.1,.int .i64 o.2.1,.int .i64 o.2.2] 23)) (((w.alloc (.cells b.val.toArray 46)).alloc (.cells #[.int .i64 o.1,.int .i64 o.2.1,.int .i64 o.2.2] 23)).alloc (.cells #[.int .i8 r.1,.int .i8 r.2] 82)):=(Below.refl _ _).alloc (by simp) _
 have b2:Below (w.heap.size+1) (w.alloc (.cells b.val.toArray 46)) (((w.alloc (.cells b.val.toArray 46)).alloc (.cells #[.int .i64 o.1,.int .i64 o.2.1,.int .i64 o.2.2] 23)).alloc (.cells #[.int .i8 r.1,.int .i8 r.2] 82)):=((Below.refl _ _).alloc (by simp) _).trans (b3.mono (by omega))
 have b1:Below w.heap.size w (((w.alloc (.cells b.val.toArray 46)).alloc (.cells #[.int .i64 o.1,.int .i64 o.2.1,.int .i64 o.2.2] 23)).alloc (.cells #[.int .i8 r.1,.int .i8 r.2] 82)):=((Below.refl _ _).alloc (le_refl _) _).trans (b2.mono (by omega))
 have HB0:=hid b1
 have HK:=hid ((BkAt.new b 46 w).below (lt_succ_self _) b2)
 have q2:=TriAt.new o 23 (w.alloc (.cells b.val.toArray 46))
 have q3:=zce r.1 r.2 82 ((w.alloc (.cells b.val.toArray 46)).alloc (.cells #[.int .i64 o.1,.int .i64 o.2.1,.int .i64 o.2.2] 23))
 simp only [World.size_alloc] at q2 q3
 have HO:=hid (q2.below (lt_succ_self _) b3)
 have HR:=hid q3
 have HSZ:Hid (w.heap.size+3≤(((w.alloc (.cells b.val.toArray 46)).alloc (.cells #[.int .i64 o.1,.int .i64 o.2.1,.int .i64 o.2.2] 23)).alloc (.cells #[.int .i8 r.1,.int .i8 r.2] 82)).heap.size):=hid (by simp)
 clear b1 b2 b3 q2 q3 h hcz hhz hez htd
 go_enter Tryz.func29,Tryz.ntmps29
 go_upto_region 1 with fail
 generalize ((w.alloc (.cells b.val.toArray 46)).alloc (.cells #[.int .i64 o.1,.int .i64 o.2.1,.int .i64 o.2.2] 23)).alloc (.cells #[.int .i8 r.1,.int .i8 r.2] 82)=W0 at HK HO HR HB0 HSZ ⊢
 obtain⟨k0,k1,k2,k3,k4⟩:=HK.out
 obtain⟨o0,o1,o2⟩:=HO.out
 obtain⟨r0,r1⟩:=HR.out
 cases hex:b.ex with
 | false =>
   rw [hex] at k1
   cases last with
   | true =>
     have HE:=hid (HE1.out hex rfl)
     clear HE1 HE2 HE3 HE4 hex CU CK CH
     go_wp2_with fail
     go_ret
     exact⟨by rw [HE.out];first | done | rfl,HB0.out⟩
   | false =>
     cases td with
     | true =>
       have HE:=hid (HE1.out hex rfl)
       clear HE1 HE2 HE3 HE4 hex CK CH
       go_wp2_with (go_at_call 47;(refine (CU.out _).mono ?_);rintro e w1 ⟨rfl,hb⟩;have HB1:=hid (HB0.out.trans (hb.mono HB0.out.size));clear hb)
       go_ret
       exact⟨by rw [HE.out];first | done | rfl,HB1.out⟩
     | false =>
       have HE:=hid (HE2.out hex rfl)
       clear HE1 HE2 HE3 HE4 hex CK CH
       go_wp2_with (go_at_call 47;(refine (CU.out _).mono ?_);rintro e w1 ⟨rfl,hb⟩;have HB1:=hid (HB0.out.trans (hb.mono HB0.out.size));clear hb)
       go_ret
       exact⟨by rw [HE.out];first | done | rfl,HB1.out⟩
 | true =>
   rw [hex] at k1
   by_cases hc:cz=0
   ·have HE:=hid (HE4.out hex hc)
    clear HE1 HE2 HE3 HE4 hex CU
    subst hc
    go_wp2_with (first
     | (go_at_call 48
        refine (CK.out _).mono ?_
        rintro e w1 ⟨rfl,hb⟩
        have HB1:=hid (HB0.out.trans (hb.mono HB0.out.size))
        have HK1:=hid (HK.out.below (B':=W0.heap.size) (by have:=HSZ.out;omega) hb)
        have HR1:=hid (HR.out.below (B':=W0.heap.size) (by have:=HSZ.out;omega) hb)
        clear hb k0 k1 k2 k3 k4 o0 o1 o2 r0 r1
        obtain⟨k0,k1,k2,k3,k4⟩:=HK1.out
        obtain⟨r0,r1⟩:=HR1.out)
     | (go_at_call 49
        refine (CH.out _ HB1.out).mono ?_
        rintro e w2 ⟨rfl,hb⟩
        have HB2:=hid (HB1.out.trans (hb.mono HB1.out.size))
        clear hb))
    go_ret
    exact⟨by rw [HE.out];first | done | rfl,HB2.out⟩
   ·have hz2:(cz != 0)=true:=by simpa using hc
    have HE:=hid (HE3.out hex hc)
    clear HE1 HE2 HE3 HE4 hex CU CH hc
    go_wp2_with (go_at_call 48;(refine (CK.out _).mono ?_);rintro e w1 ⟨rfl,hb⟩;have HB1:=hid (HB0.out.trans (hb.mono HB0.out.size));clear hb)
    go_ret
    exact⟨by rw [HE.out];first | done | rfl,HB1.out⟩
theorem rblock33_to (b:Bk) (s:Ls) (t0:Tri) (cl:Int) (last:Bool) (w:World) (h:BkRdy w b s) :
  Calls Tryz.prog 14 #[.agg b.val.toArray,.agg #[.int .i64 t0.1,.int .i64 t0.2.1,.int .i64 t0.2.2],.int .i64 cl,.bool last] w (Says (bkP b s t0 cl last) (bkZ b s t0 cl last) w):=by
 have CS:=hid (fun (wx:World) (hb:Below w.heap.size w wx)=>rshp_at h t0 hb)
 have CF:=hid (fun (wx:World) (hb:Below w.heap.size w wx)=>rflow_at h hb)
 have CK:=hid (fun (o:Tri) (e:Int) (he:verdE o.1 o.2.1 o.2.2 b.hd.nW b.hd.nB b.hd.D cl=e) (wx:World)=>rchk_to o.1 o.2.1 o.2.2 b.hd.WA b.hd.BA b.hd.nW b.hd.cW b.hd.nB b.hd.cB b.hd.D cl e he wx)
 have CH:=hid (fun (r:Rch) (hr:RBd r) (wx:World) (hb:Below w.heap.size w wx)=>rhead_at h hr hb)
 have HLS:=hid h.ls
 have HA1:=hid (fun (k z:Int) (q:outS b.X t0 b.n=some (k,z))=>blk_a1 (s:=s) (cl:=cl) (last:=last) q)
 have HA2:=hid (fun (k z:Int) (q:outS b.X t0 b.n=none) (q2:outG (ndw b s) rall b.n=some (k,z))=>blk_a2 (cl:=cl) (last:=last) q q2)
 have HA3:=hid (fun (o:Tri) (r:Rch) (q:outS b.X t0 b.n=none) (q2:outG (ndw b s) rall b.n=none) (ho:outT b.X t0 b.n=o) (hr:outR (ndw b s) b.n=r) (ez:Int) (he:exZ b.hd b.ex s o r cl last=ez)=>blk_a3 q q2 ho hr he)
 generalize bkP b s t0 cl last=P at *
 generalize bkZ b s t0 cl last=Z at *
 have hb1:=(Below.refl w.heap.size w).alloc (le_refl _) (.cells b.val.toArray 46)
 have hb2:Below (w.heap.size+1) (w.alloc (.cells b.val.toArray 46)) ((w.alloc (.cells b.val.toArray 46)).alloc (.cells #[.int .i64 t0.1,.int .i64 t0.2.1,.int .i64 t0.2.2] 23)):=(Below.refl _ _).alloc (by simp) _
 have HB0:=hid (hb1.trans (hb2.mono (by omega)))
 have HK:=hid ((BkAt.new b 46 w).below (lt_succ_self _) hb2)
 have q2:=TriAt.new t0 23 (w.alloc (.cells b.val.toArray 46))
 simp only [World.size_alloc] at q2
 have HT0:=hid q2
 have HSZ:Hid (w.heap.size+1≤((w.alloc (.cells b.val.toArray 46)).alloc (.cells #[.int .i64 t0.1,.int .i64 t0.2.1,.int .i64 t0.2.2] 23)).heap.size):=hid (by simp)
 clear hb1 hb2 q2 h
 go_enter Tryz.func14,Tryz.ntmps14
 go_upto_region 1 with fail
 generalize (w.alloc (.cells b.val.toArray 46)).alloc (.cells #[.int .i64 t0.1,.int .i64 t0.2.1,.int .i64 t0.2.2] 23)=W0 at HK HT0 HB0 HSZ ⊢
 obtain⟨k0,k1,k2,k3,k4⟩:=HK.out
 obtain⟨a0,a1,a2⟩:=HT0.out
 go_wp2_with fail
 go_at_call 15
 refine (CS.out _ HB0.out).mono ?_
 rintro e w2 ⟨hres,hb⟩
 have HB2:=hid (HB0.out.trans (hb.mono HB0.out.size))
 have HK2:=hid (HK.out.below (B':=W0.heap.size) (by have:=HSZ.out;omega) hb)
 have HSZ2:=hid (Nat.le_trans HSZ.out hb.size)
 have HRES:=hid hres
 have hown0:=hid HB0.out.size
 clear hb hres a0 a1 a2 k0 k1 k2 k3 k4 HT0 HK HSZ HB0
 rcases HRES.out with ⟨k,z,hs,rfl⟩ | ⟨hs,v,rfl,hown⟩
 ·have hz:z≠0:=outS_nzC hs
  have hz1:(z != 0)=true:=by simpa using hz
  have HE:=hid (HA1.out k z hs)
  clear hs HRES hz
  go_wp2_with fail
  go_ret2
  exact⟨by rw [HE.out.1,HE.out.2];first | done | rfl,HB2.out⟩
 obtain⟨A5,c5,rfl, -, -,hrd⟩:=Kit.own_rd hown
 have HRS:=hid hrd
 have HS9:=hid hs
 clear hown hrd hs HRES
 obtain⟨k0,k1,k2,k3,k4⟩:=HK2.out
 go_wp2_with fail
 go_at_call 19
 refine (CF.out _ HB2.out).mono ?_
 rintro e w3 ⟨hres,hb⟩
 have HB3:=hid (HB2.out.trans (hb.mono HB2.out.size))
 have HK3:=hid (HK2.out.below (B':=w2.heap.size) (by have:=HSZ2.out;omega) hb)
 have HSZ3:Hid (w.heap.size < w3.heap.size):=hid (Nat.le_trans HSZ2.out hb.size)
 replace HRS:=hid ((HRS.out.below hb).more hb.size)
 have HRES:=hid hres
 clear hb hres k0 k1 k2 k3 k4 HK2 HSZ2
 rcases HRES.out with ⟨k,z,hg,rfl⟩ | ⟨hg,v,rfl,hown⟩
 ·have hz:z≠0:=outG_nz hg
  have hz1:(z != 0)=true:=by simpa using hz
  have HE:=hid (HA2.out k z HS9.out hg)
  clear hg HRES hz
  go_wp2_with fail
  go_ret2
  exact⟨by rw [HE.out.1,HE.out.2];first | done | rfl,HB3.out⟩
 obtain⟨A6,c6,rfl, -, -,hrd6⟩:=Kit.own_rd hown
 obtain⟨n1,n8⟩:=outS_few HS9.out
 obtain⟨o,ho1,ho2⟩:=tvV_at (L:=shL b.X t0 b.n) (k:=b.n) (shL_len _ _ _) (lt_succ_self _)
 obtain⟨bl,ol,rfl,hbl,hcell⟩:=tv_cells HRS.out (by rw [shL_len];omega)
 obtain⟨r,hr1,hr2⟩:=rcL_at (L:=rcL (ndw b s) rall b.n) (k:=b.n) (rcL_len _ _ _) (lt_succ_self _)
 obtain⟨bq,oq,rfl,hbq,hcellq⟩:=rv_cells hrd6 (by rw [rcL_len];omega)
 have HRB:=hid (outR_bd HLS.out hr1)
 have HEZ0:=hid (fun ez he=>HA3.out o r HS9.out hg ho2 hr2 ez he)
 have HCO:Hid (∀ wS,Below w3.heap.size w3 wS→wS.cell? ⟨bl,ol+b.n * 3,none⟩=some (.int .i64 o.1)∧wS.cell? ⟨bl,ol+b.n * 3+1,none⟩=some (.int .i64 o.2.1)∧wS.cell? ⟨bl,ol+b.n * 3+2,none⟩=some (.int .i64 o.2.2)) :=
  hid (fun wS h=>have q:=hcell b.n o ho1; ⟨(h.cell (p:=⟨bl,ol+b.n * 3,none⟩) hbl).trans (q 0 _ rfl),(h.cell (p:=⟨bl,ol+b.n * 3+1,none⟩) hbl).trans (q 1 _ rfl),(h.cell (p:=⟨bl,ol+b.n * 3+2,none⟩) hbl).trans (q 2 _ rfl)⟩)
 have HCR:Hid (∀ wS,Below w3.heap.size w3 wS→wS.cell? ⟨bq,oq+b.n * 2,none⟩=some (.int .i8 r.1)∧wS.cell? ⟨bq,oq+b.n * 2+1,none⟩=some (.int .i8 r.2)) :=
  hid (fun wS h=>have q:=hcellq b.n r hr1; ⟨(h.cell (p:=⟨bq,oq+b.n * 2,none⟩) hbq).trans (q 0 _ rfl),(h.cell (p:=⟨bq,oq+b.n * 2+1,none⟩) hbq).trans (q 1 _ rfl)⟩)
 clear hown hrd6 hg HRES ho1 ho2 hbl hcell hr1 hr2 hbq hcellq HRS HA1 HA2 HA3 CS CF HS9 HLS hown0
 obtain⟨n9,hn9⟩:∃ n9,b.n+1=n9:=⟨_,rfl⟩
 rw [hn9]
 have e0:(n9:Int) - 1=(b.n:Int):=by omega
 have e1:IntKind.i64.wrap ((n9:Int) - 1)=(b.n:Int):=by rw [e0];exact IntWalk.i64_in _ (by omega)
 have e2:IntKind.i64.wrap (b.n:Int)=(b.n:Int):=IntWalk.i64_in _ (by omega)
 have HE0:=hid (And.intro e0 (And.intro e1 e2))
 have HN9:=hid (show (0:Int)≤(b.n:Int)∧(b.n:Int) < (n9:Int) by omega)
 clear hn9 e0 e1 e2
 have HKC:Hid (∀ wS,Below w3.heap.size w3 wS→BkAt w.heap.size b wS):=hid (fun wS h=>HK3.out.below HSZ3.out h)
 obtain⟨k0,k1,k2,k3,k4⟩:=HK3.out
 cases hex:b.ex with
 | false =>
   rw [hex] at k1
   have HEZ:Hid (((last || told b.hd)=true→P = -1∧Z=11)∧((last || told b.hd)=false→P=b.n∧Z=0)):=hid ⟨fun ht=>(HEZ0.out 11 (by rw [hex];exact exz_no ht)).1 (by decide),fun ht=>(HEZ0.out 0 (by rw [hex];exact exz_none ht)).2 rfl⟩
   clear HEZ0 HCO HCR HRB CK CH HE0 HN9 hex
   obtain⟨A1,hA1⟩:∃ q,b.A=q:=⟨_,rfl⟩
   by_cases w1:0 < b.hd.nW
   ·have HTO:=hid (told_w w1)
    have ga:(b.hd.nW:Int) > 0:=by omega
    have gb:decide ((0:Int) < (b.hd.nW:Int))=true:=by simp;omega
    have gc:decide (0 < b.hd.nW)=true:=by simp;omega
    go_upto_region 8 with fail
    clear ga gb gc
    cases last
    ·go_wp2_with fail
     go_ret2
     exact⟨by rw [(HEZ.out.1 (by rw [HTO.out];simp)).1,(HEZ.out.1 (by rw [HTO.out];simp)).2];first | done | rfl,HB3.out⟩
    ·go_wp2_with fail
     go_ret2
     exact⟨by rw [(HEZ.out.1 (by rw [HTO.out];simp)).1,(HEZ.out.1 (by rw [HTO.out];simp)).2];first | done | rfl,HB3.out⟩
   have w0:b.hd.nW=0:=by omega
   by_cases w2:0 < b.hd.nB
   ·have HTO:=hid (told_b w2)
    have ga:¬ (b.hd.nW:Int) > 0:=by omega
    have gb:decide ((0:Int) < (b.hd.nW:Int))=false:=by simp;omega
    have gc:decide (0 < b.hd.nW)=false:=by simp;omega
    have fa:(b.hd.nB:Int) > 0:=by omega
    have fb:decide ((0:Int) < (b.hd.nB:Int))=true:=by simp;omega
    have fc:decide (0 < b.hd.nB)=true:=by simp;omega
    go_upto_region 8 with fail
    clear ga gb gc fa fb fc
    cases last
    ·go_wp2_with fail
     go_ret2
     exact⟨by rw [(HEZ.out.1 (by rw [HTO.out];simp)).1,(HEZ.out.1 (by rw [HTO.out];simp)).2];first | done | rfl,HB3.out⟩
    ·go_wp2_with fail
     go_ret2
     exact⟨by rw [(HEZ.out.1 (by rw [HTO.out];simp)).1,(HEZ.out.1 (by rw [HTO.out];simp)).2];first | done | rfl,HB3.out⟩
   have w4:b.hd.nB=0:=by omega
   by_cases w5:b.hd.D=0
   ·have HTO:=hid (told_no w0 w4 w5)
    have ga:¬ (b.hd.nW:Int) > 0:=by omega
    have gb:decide ((0:Int) < (b.hd.nW:Int))=false:=by simp;omega
    have gc:decide (0 < b.hd.nW)=false:=by simp;omega
    have fa:¬ (b.hd.nB:Int) > 0:=by omega
    have fb:decide ((0:Int) < (b.hd.nB:Int))=false:=by simp;omega
    have fc:decide (0 < b.hd.nB)=false:=by simp;omega
    have d1:(b.hd.D != 0)=false:=by simp [w5]
    go_upto_region 8 with fail
    clear ga gb gc fa fb fc d1
    cases last
    ·go_wp2_with fail
     go_ret2
     exact⟨by rw [(HEZ.out.2 (by rw [HTO.out];rfl)).1,(HEZ.out.2 (by rw [HTO.out];rfl)).2];first | done | rfl,HB3.out⟩
    ·go_wp2_with fail
     go_ret2
     exact⟨by rw [(HEZ.out.1 (by rw [HTO.out];simp)).1,(HEZ.out.1 (by rw [HTO.out];simp)).2];first | done | rfl,HB3.out⟩
   ·have HTO:=hid (told_d w5)
    have ga:¬ (b.hd.nW:Int) > 0:=by omega
    have gb:decide ((0:Int) < (b.hd.nW:Int))=false:=by simp;omega
    have gc:decide (0 < b.hd.nW)=false:=by simp;omega
    have fa:¬ (b.hd.nB:Int) > 0:=by omega
    have fb:decide ((0:Int) < (b.hd.nB:Int))=false:=by simp;omega
    have fc:decide (0 < b.hd.nB)=false:=by simp;omega
    have d1:(b.hd.D != 0)=true:=by simp [w5]
    go_upto_region 8 with fail
    clear ga gb gc fa fb fc d1
    cases last
    ·go_wp2_with fail
     go_ret2
     exact⟨by rw [(HEZ.out.1 (by rw [HTO.out];simp)).1,(HEZ.out.1 (by rw [HTO.out];simp)).2];first | done | rfl,HB3.out⟩
    ·go_wp2_with fail
     go_ret2
     exact⟨by rw [(HEZ.out.1 (by rw [HTO.out];simp)).1,(HEZ.out.1 (by rw [HTO.out];simp)).2];first | done | rfl,HB3.out⟩
 | true =>
   rw [hex] at k1
   obtain⟨cz,hcz⟩:∃ cz,verdE o.1 o.2.1 o.2.2 b.hd.nW b.hd.nB b.hd.D cl=cz:=⟨_,rfl⟩
   have HEC:Hid (cz≠0→P = -1∧Z=cz):=hid (fun hz=>(HEZ0.out cz (by rw [hex];exact exz_chk hcz hz)).1 hz)
   have HEH:Hid (cz=0→∀ hz,headZ s.hw s.hb b.hd.nW b.hd.nB r.1 r.2=hz→(hz≠0→P = -1∧Z=hz)∧(hz=0→P=b.n∧Z=0)):=hid (fun h0 hz e=>HEZ0.out hz (by rw [hex,exz_head (hcz.trans h0)];exact e))
   have CK2:=hid (CK.out o cz hcz)
   have CH2:=hid (fun wx hb=>CH.out r HRB.out wx hb)
   obtain⟨hz,hhz⟩:∃ hz,headZ s.hw s.hb b.hd.nW b.hd.nB r.1 r.2=hz:=⟨_,rfl⟩
   rw [hhz] at CH2
   have HEH2:=hid (fun h0=>HEH.out h0 hz hhz)
   clear HEZ0 CK CH hcz hhz hex HEH
   have H7:(0 < b.hd.nW)∨(b.hd.nW=0∧0 < b.hd.nB)∨(b.hd.nW=0∧b.hd.nB=0∧b.hd.D=0)∨(b.hd.nW=0∧b.hd.nB=0∧¬ b.hd.D=0):=by omega
   rcases H7 with w1 | ⟨w0,w2⟩ | ⟨w0,w4,w5⟩ | ⟨w0,w4,w5⟩
   have ga:(b.hd.nW:Int) > 0:=by omega
   have gb:decide ((0:Int) < (b.hd.nW:Int))=true:=by simp;omega
   have gc:decide (0 < b.hd.nW)=true:=by simp;omega
   go_upto_region 8 with fail
   clear w1 ga gb gc
   rotate_left 1
   have ga:¬ (b.hd.nW:Int) > 0:=by omega
   have gb:decide ((0:Int) < (b.hd.nW:Int))=false:=by simp;omega
   have gc:decide (0 < b.hd.nW)=false:=by simp;omega
   have fa:(b.hd.nB:Int) > 0:=by omega
   have fb:decide ((0:Int) < (b.hd.nB:Int))=true:=by simp;omega
   have fc:decide (0 < b.hd.nB)=true:=by simp;omega
   go_upto_region 8 with fail
   clear w0 w2 ga gb gc fa fb fc
   rotate_left 1
   have ga:¬ (b.hd.nW:Int) > 0:=by omega
   have gb:decide ((0:Int) < (b.hd.nW:Int))=false:=by simp;omega
   have gc:decide (0 < b.hd.nW)=false:=by simp;omega
   have fa:¬ (b.hd.nB:Int) > 0:=by omega
   have fb:decide ((0:Int) < (b.hd.nB:Int))=false:=by simp;omega
   have fc:decide (0 < b.hd.nB)=false:=by simp;omega
   have d1:(b.hd.D != 0)=false:=by simp [w5]
   go_upto_region 8 with fail
   clear w0 w4 w5 ga gb gc fa fb fc d1
   rotate_left 1
   have ga:¬ (b.hd.nW:Int) > 0:=by omega
   have gb:decide ((0:Int) < (b.hd.nW:Int))=false:=by simp;omega
   have gc:decide (0 < b.hd.nW)=false:=by simp;omega
   have fa:¬ (b.hd.nB:Int) > 0:=by omega
   have fb:decide ((0:Int) < (b.hd.nB:Int))=false:=by simp;omega
   have fc:decide (0 < b.hd.nB)=false:=by simp;omega
   have d1:(b.hd.D != 0)=true:=by simp [w5]
   go_upto_region 8 with fail
   clear w0 w4 w5 ga gb gc fa fb fc d1
   rotate_left 1
   all_goals
    go_wp2_with fail
    clear k1 k2 k3 k4
    obtain⟨e0,e1,e2⟩:=HE0.out
    obtain⟨i0,i1⟩:=HN9.out
    go_upto_region 11 with fail
    refine wp_region_held_drew (S:=fun wx=>Below w3.heap.size w3 wx) (by kernel_rfl) (Below.refl _ _).drew (fun hHeld=>?_)
    generalize w3.drew=W4 at hHeld ⊢
    refine Tk.x 0 rfl ?_
    try simp only [Tk.put]
    refine Tk.x 1 rfl ?_
    try simp only [Tk.put]
    refine Tk.x 2 rfl ?_
    try simp only [Tk.put]
    refine Tk.x 3 rfl ?_
    try simp only [Tk.put]
    refine Tk.x 4 rfl ?_
    try simp only [Tk.put]
    refine Tk.y 5 (v:=.agg #[.int .i64 o.1,.int .i64 o.2.1,.int .i64 o.2.2]) rfl ?_ ?_
    ·intro wS hSw
     obtain⟨q0,q1,q2⟩:=HCO.out wS hSw
     first | (go_simp;done) | (go_simp;with_reducible rfl)
    try simp only [Tk.put]
    refine Tk.x 6 rfl ?_
    try simp only [Tk.put]
    refine Tk.y 7 (v:=.agg #[.slice b.hd.WA b.hd.nW b.hd.cW,.slice b.hd.BA b.hd.nB b.hd.cB,.int .i32 b.hd.D]) rfl ?_ ?_
    ·intro wS hSw
     obtain⟨q0,q1,q2,q3,q4⟩:=HKC.out wS hSw
     first | (go_simp;done) | (go_simp;with_reducible rfl)
    try simp only [Tk.put]
    refine Tk.x 8 rfl ?_
    try simp only [Tk.put]
    refine Tk.s 9 rfl (fun Kq hK=>?_)
    go_simp
    go_at_call 20
    refine (CK2.out _).mono ?_
    rintro e W5 ⟨rfl,hb⟩
    have hS2:=hHeld.trans (hb.mono hHeld.size)
    clear hHeld hb
    dsimp only
    refine hK.out _ _ hS2 (fun hHeld=>?_)
    clear hK Kq hS2
    try simp only [Tk.put]
    refine Tk.x 10 rfl ?_
    try simp only [Tk.put]
    refine wpAnyH_done (by kernel_rfl) ?_ _
    by_cases hc:cz=0
    ·have HE:=hid (HEH2.out hc)
     clear HEC HEH2
     subst hc
     go_upto_region 14 with fail
     refine wp_region_held_drew (S:=fun wx=>Below w3.heap.size w3 wx) (by kernel_rfl) hHeld.drew (fun hHeld=>?_)
     generalize W5.drew=W6 at hHeld ⊢
     refine Tk.x 0 rfl ?_
     try simp only [Tk.put]
     refine Tk.y 1 (v:=.agg #[.slice b.hd.WA b.hd.nW b.hd.cW,.slice b.hd.BA b.hd.nB b.hd.cB,.int .i32 b.hd.D]) rfl ?_ ?_
     ·intro wS hSw
      obtain⟨q0,q1,q2,q3,q4⟩:=HKC.out wS hSw
      first | (go_simp;done) | (go_simp;with_reducible rfl)
     try simp only [Tk.put]
     refine Tk.x 2 rfl ?_
     try simp only [Tk.put]
     refine Tk.x 3 rfl ?_
     try simp only [Tk.put]
     refine Tk.x 4 rfl ?_
     try simp only [Tk.put]
     refine Tk.x 5 rfl ?_
     try simp only [Tk.put]
     refine Tk.x 6 rfl ?_
     try simp only [Tk.put]
     refine Tk.y 7 (v:=.agg #[.int .i8 r.1,.int .i8 r.2]) rfl ?_ ?_
     ·intro wS hSw
      obtain⟨q0,q1⟩:=HCR.out wS hSw
      first | (go_simp;done) | (go_simp;with_reducible rfl)
     try simp only [Tk.put]
     refine Tk.s 8 rfl (fun Kq hK=>?_)
     go_simp
     go_at_call 21
     refine (CH2.out _ (HB3.out.trans (hHeld.mono HB3.out.size))).mono ?_
     rintro e W7 ⟨rfl,hb⟩
     have hS2:=hHeld.trans (hb.mono hHeld.size)
     clear hHeld hb
     dsimp only
     refine hK.out _ _ hS2 (fun hHeld=>?_)
     clear hK Kq hS2
     try simp only [Tk.put]
     refine Tk.x 9 rfl ?_
     try simp only [Tk.put]
     refine wpAnyH_done (by kernel_rfl) ?_ _
     have HB7:=hid (HB3.out.trans (hHeld.mono HB3.out.size))
     obtain⟨k0,k1,k2,k3,k4⟩:=HKC.out _ hHeld
     clear hHeld
     by_cases h0:hz=0
     ·have HF:=hid (HE.out.2 h0)
      clear HE
      subst h0
      go_wp2_with fail
      go_ret2
      exact⟨by rw [HF.out.1,HF.out.2];first | done | rfl,HB7.out⟩
     ·have hz2:(hz != 0)=true:=by simpa using h0
      have HF:=hid (HE.out.1 h0)
      clear HE h0
      go_wp2_with fail
      go_ret2
      exact⟨by rw [HF.out.1,HF.out.2];first | done | rfl,HB7.out⟩
    ·have hz2:(cz != 0)=true:=by simpa using hc
     have HE:=hid (HEC.out hc)
     have HB7:=hid (HB3.out.trans (hHeld.mono HB3.out.size))
     clear HEC HEH2 hc hHeld
     go_wp2_with fail
     go_ret2
     exact⟨by rw [HE.out.1,HE.out.2];first | done | rfl,HB7.out⟩
end CValid
end
end Go.Proofs.YtoffcaldhojjoaaGreatDoor
