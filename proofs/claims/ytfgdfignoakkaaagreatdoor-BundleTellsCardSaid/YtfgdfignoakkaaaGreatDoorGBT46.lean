/- -/
import Derived.LaidMore
import Derived.Stop.Joined
import Derived.Test.YtfgdfignoakkaaaGreatDoorGBT45
open Go.Lib (hid)
open Nat (le_refl lt_of_succ_lt lt_succ_self)
set_option linter.unusedVariables false
set_option linter.unusedSimpArgs false
set_option maxRecDepth 100000
set_option maxHeartbeats 16000000
namespace Go.Proofs.YtfgdfignoakkaaaGreatDoor
namespace CConv
end CConv
namespace CCost
end CCost
namespace CFix
end CFix
namespace CGraph
end CGraph
namespace CGuard
end CGuard
namespace CJoin
end CJoin
namespace CKind
end CKind
namespace CSat
end CSat
namespace CShape
end CShape
namespace CSpan
end CSpan
namespace CTensor
end CTensor
namespace Kit
end Kit
open Go Go.ChangeShapes Go.WideShapes Go.ChangeAt Go.RowKit Go.Deep
section
namespace CBunM
open Kit Plain CSat CShape CTensor CConv CKind CGraph CBund CrcNum CCrc
theorem zbm {fn:Func} {a b:Tmp} (h:fn.results=#[.tmp a,.tmp b]) (tmps:Array Value) (P:Program) (w:World):(results fn tmps).run P w=.ok (.tuple #[tmps.getD a undef,tmps.getD b undef]) w:=by
 simp [results,h]
theorem open_nil (w:World):Calls Tryz.prog 37 #[.slice none 0 0] w fun e w'=>e=.returned (.tuple #[.slice none 0 0,.int .i64 20])∧w'=w:=by
 go_enter Tryz.func37,Tryz.ntmps37
 go_wp2_with fail
 refine bodyPost_ret (zbm rfl _ _ _) rfl ?_
 exact⟨rfl,rfl⟩
theorem decode_nil (w:World):Calls Tryz.prog 18 #[.slice none 0 0] w fun e w'=>e=.returned (.tuple #[.agg #[.int .i64 0,.int .i64 0,.int .i64 0,.int .i64 0,.slice none 0 0],.int .i64 20])∧Below w.heap.size w w':=by
 go_enter Tryz.func18,Tryz.ntmps18
 go_wp2_with (go_at_call 37;(with_reducible refine (open_nil _).mono ?_);rintro e w1 ⟨rfl,rfl⟩)
 refine bodyPost_ret (Kit.zaa rfl _ _ w.heap.size 0 [.int .i64 0,.int .i64 0,.int .i64 0,.int .i64 0,.slice none 0 0] _ rfl (fun j v hj=>by rw [Nat.zero_add,Kit.zab];simpa using hj) Tryz.underlying26 rfl (by kernel_rfl)) rfl ?_
 exact⟨rfl,by go_grown⟩
theorem known35 (w:World) (hT:za5 w):Calls Tryz.prog 9 #[] w fun e w'=>e=.returned (.bool true)∧Below w.heap.size w w':=by
 have HT:=hid hT
 clear hT
 go_enter Tryz.func9,Tryz.ntmps9
 go_wp2_with (first
  | (go_at_call 18;(with_reducible refine (decode_nil _).mono ?_);rintro e w1 ⟨rfl,hb⟩;have HB1:=hid hb;clear hb)
  | (go_at_call 15
     have hg:Below w.heap.size w ((w1.alloc (.cells #[.int .i64 0,.int .i64 0,.int .i64 0,.int .i64 0,.slice none 0 0] 26)).alloc (.cells #[.int .u8 1] 5)):=(HB1.out.alloc HB1.out.size _).alloc (by have:=HB1.out.size;simp;omega) _
     have HG:=hid hg
     have hrd:Rd ((w1.alloc (.cells #[.int .i64 0,.int .i64 0,.int .i64 0,.int .i64 0,.slice none 0 0] 26)).alloc (.cells #[.int .u8 1] 5)) (w1.heap.size+2) (some ⟨w1.heap.size+1,0,none⟩) ([1].map (.int .u8)):=by
      have:=Rd.new (w1.alloc (.cells #[.int .i64 0,.int .i64 0,.int .i64 0,.int .i64 0,.slice none 0 0] 26)) [.int .u8 1] 5 (B:=w1.heap.size+2) (by simp)
      rwa [World.size_alloc] at this
     refine (seal_to _ [1] 1 1 rfl (by decide) (by simp [U8s]) _ (HT.out.below hg HT.out.size) (B:=w1.heap.size+2) (by simp) hrd).mono ?_
     rintro e w3 ⟨A3,c3,rfl,h1,h2,h3,h4⟩
     have H4:=hid h4
     clear hg hrd h1 h2 h3 h4))
 go_ret
 exact⟨rfl,HG.out.trans (H4.out.mono HG.out.size)⟩
end CBunM
end
section
namespace CValid
open Plain CSat CFix CShape CTensor CConv CSpan CKind CGraph CJoin CGuard CBund CCost CVerd
theorem used_to (h:Hd) (w:World):Calls Tryz.prog 132 #[.agg #[.slice h.WA h.nW h.cW,.slice h.BA h.nB h.cB,.int .i32 h.D]] w fun e w'=>e=.returned (.bool (told h))∧Below w.heap.size w w':=by
 have HB0:=hid ((Below.refl w.heap.size w).alloc (le_refl _) (.cells #[.slice h.WA h.nW h.cW,.slice h.BA h.nB h.cB,.int .i32 h.D] 46))
 have HG:=hid (headGNew h.WA h.BA h.nW h.cW h.nB h.cB h.D 46 w)
 go_enter Tryz.func132,Tryz.ntmps132
 go_upto_region 1 with fail
 generalize w.alloc (.cells #[.slice h.WA h.nW h.cW,.slice h.BA h.nB h.cB,.int .i32 h.D] 46)=W0 at HB0 HG ⊢
 obtain⟨k0,k1,k2⟩:=HG.out
 by_cases w1:0 < h.nW
 ·have HTO:=hid (told_w w1)
  have ga:(h.nW:Int) > 0:=by omega
  have gb:decide ((0:Int) < (h.nW:Int))=true:=by simp;omega
  have gc:decide (0 < h.nW)=true:=by simp;omega
  clear w1
  go_wp2_with fail
  go_ret
  exact⟨by rw [HTO.out];first | done | rfl,HB0.out⟩
 have w0:h.nW=0:=by omega
 have ga:¬ (h.nW:Int) > 0:=by omega
 have gb:decide ((0:Int) < (h.nW:Int))=false:=by simp;omega
 have gc:decide (0 < h.nW)=false:=by simp;omega
 by_cases w2:0 < h.nB
 ·have HTO:=hid (told_b w2)
  have fa:(h.nB:Int) > 0:=by omega
  have fb:decide ((0:Int) < (h.nB:Int))=true:=by simp;omega
  have fc:decide (0 < h.nB)=true:=by simp;omega
  clear w2
  go_wp2_with fail
  go_ret
  exact⟨by rw [HTO.out];first | done | rfl,HB0.out⟩
 have w4:h.nB=0:=by omega
 have fa:¬ (h.nB:Int) > 0:=by omega
 have fb:decide ((0:Int) < (h.nB:Int))=false:=by simp;omega
 have fc:decide (0 < h.nB)=false:=by simp;omega
 by_cases w5:h.D=0
 ·have HTO:=hid (told_no w0 w4 w5)
  have d1:(h.D != 0)=false:=by simp [w5]
  go_wp2_with fail
  go_ret
  exact⟨by rw [HTO.out];first | done | rfl,HB0.out⟩
 ·have HTO:=hid (told_d w5)
  have d1:(h.D != 0)=true:=by simp [w5]
  go_wp2_with fail
  go_ret
  exact⟨by rw [HTO.out];first | done | rfl,HB0.out⟩
theorem vexit_to (b:Bk) (s:Ls) (o:Tri) (r:Rch) (hr:RBd r) (cl:Int) (last:Bool) (w:World) (h:BkRdy w b s) :
  Calls Tryz.prog 100 #[.agg b.val.toArray,.agg #[.int .i64 o.1,.int .i64 o.2.1,.int .i64 o.2.2],.agg #[.int .i8 r.1,.int .i8 r.2],.int .i64 cl,.bool last] w (SaysI (exZ b.hd b.ex s o r cl last) w):=by
 obtain⟨cz,hcz⟩:∃ cz,verdE o.1 o.2.1 o.2.2 b.hd.nW b.hd.nB b.hd.D cl=cz:=⟨_,rfl⟩
 obtain⟨hz,hhz⟩:∃ hz,headZ s.hw s.hb b.hd.nW b.hd.nB r.1 r.2=hz:=⟨_,rfl⟩
 have CU:=hid (fun (wx:World)=>used_to b.hd wx)
 have CK:=hid (fun (wx:World)=>chk_to o.1 o.2.1 o.2.2 b.hd.WA b.hd.BA b.hd.nW b.hd.cW b.hd.nB b.hd.cB b.hd.D cl cz hcz wx)
 have CH:Hid (∀ wx,Below w.heap.size w wx→Calls Tryz.prog 134 #[.agg #[.slice b.hd.WA b.hd.nW b.hd.cW,.slice b.hd.BA b.hd.nB b.hd.cB,.int .i32 b.hd.D],.agg #[.int .i8 r.1,.int .i8 r.2]] wx (SaysI hz wx)):=hid (fun wx hb=>by have q:=chead_at h hr hb;rw [hhz] at q;exact q)
 obtain⟨ez,hez⟩:∃ ez,exZ b.hd b.ex s o r cl last=ez:=⟨_,rfl⟩
 rw [hez]
 have HE1:=hid (fun (q:b.ex=false) (t:(last || told b.hd)=true)=>(show ez=11 by rw [← hez,q];exact exz_no t))
 have HE2:=hid (fun (q:b.ex=false) (t:(last || told b.hd)=false)=>(show ez=0 by rw [← hez,q];exact exz_none t))
 have HE3:=hid (fun (q:b.ex=true) (t:cz≠0)=>(show ez=cz by rw [← hez,q];exact exz_chk hcz t))
 have HE4:=hid (fun (q:b.ex=true) (t:cz=0)=>(show ez=hz by rw [← hez,q, ← hhz];exact exz_head (hcz.trans t)))
 obtain⟨td,htd⟩:∃ td,told b.hd=td:=⟨_,rfl⟩
 rw [htd] at CU HE1 HE2
 have b3:Below (w.heap.size+2) ((w.alloc (.cells b.val.toArray 49)).alloc (.cells #[.int .i64 o.1,.int .i64 o.2.1,.int .i64 o.2.2] 23)) (((w.alloc (.cells b.val.toArray 49)).alloc (.cells #[.int .i64 o.1,.int .i64 o.2.1,.int .i64 o.2.2] 23)).alloc (.cells #[.int .i8 r.1,.int .i8 r.2] 172)):=(Below.refl _ _).alloc (by simp) _
 have b2:Below (w.heap.size+1) (w.alloc (.cells b.val.toArray 49)) (((w.alloc (.cells b.val.toArray 49)).alloc (.cells #[.int .i64 o.1,.int .i64 o.2.1,.int .i64 o.2.2] 23)).alloc (.cells #[.int .i8 r.1,.int .i8 r.2] 172)):=((Below.refl _ _).alloc (by simp) _).trans (b3.mono (by omega))
 have b1:Below w.heap.size w (((w.alloc (.cells b.val.toArray 49)).alloc (.cells #[.int .i64 o.1,.int .i64 o.2.1,.int .i64 o.2.2] 23)).alloc (.cells #[.int .i8 r.1,.int .i8 r.2] 172)):=((Below.refl _ _).alloc (le_refl _) _).trans (b2.mono (by omega))
 have HB0:=hid b1
 have HK:=hid ((BkAt.new b 49 w).below (lt_succ_self _) b2)
 have q2:=TriAt.new o 23 (w.alloc (.cells b.val.toArray 49))
 have q3:=rchNew r.1 r.2 172 ((w.alloc (.cells b.val.toArray 49)).alloc (.cells #[.int .i64 o.1,.int .i64 o.2.1,.int .i64 o.2.2] 23))
 simp only [World.size_alloc] at q2 q3
 have HO:=hid (q2.below (lt_succ_self _) b3)
 have HR:=hid q3
 have HSZ:Hid (w.heap.size+3≤(((w.alloc (.cells b.val.toArray 49)).alloc (.cells #[.int .i64 o.1,.int .i64 o.2.1,.int .i64 o.2.2] 23)).alloc (.cells #[.int .i8 r.1,.int .i8 r.2] 172)).heap.size):=hid (by simp)
 clear b1 b2 b3 q2 q3 h hcz hhz hez htd
 go_enter Tryz.func100,Tryz.ntmps100
 go_upto_region 1 with fail
 generalize ((w.alloc (.cells b.val.toArray 49)).alloc (.cells #[.int .i64 o.1,.int .i64 o.2.1,.int .i64 o.2.2] 23)).alloc (.cells #[.int .i8 r.1,.int .i8 r.2] 172)=W0 at HK HO HR HB0 HSZ ⊢
 obtain⟨k0,k1,k2,k3,k4⟩:=HK.out
 obtain⟨o0,o1,o2⟩:=HO.out
 obtain⟨r0,r1⟩:=HR.out
 cases hex:b.ex with
 | false =>
   rw [hex] at k1
   cases last with
   | true =>
     have HE:=hid (HE1.out hex rfl)
     clear HE1 HE2 HE3 HE4 hex CU CK CH
     go_wp2_with fail
     go_ret
     exact⟨by rw [HE.out];first | done | rfl,HB0.out⟩
   | false =>
     cases td with
     | true =>
       have HE:=hid (HE1.out hex rfl)
       clear HE1 HE2 HE3 HE4 hex CK CH
       go_wp2_with (go_at_call 132;(refine (CU.out _).mono ?_);rintro e w1 ⟨rfl,hb⟩;have HB1:=hid (HB0.out.trans (hb.mono HB0.out.size));clear hb)
       go_ret
       exact⟨by rw [HE.out];first | done | rfl,HB1.out⟩
     | false =>
       have HE:=hid (HE2.out hex rfl)
       clear HE1 HE2 HE3 HE4 hex CK CH
       go_wp2_with (go_at_call 132;(refine (CU.out _).mono ?_);rintro e w1 ⟨rfl,hb⟩;have HB1:=hid (HB0.out.trans (hb.mono HB0.out.size));clear hb)
       go_ret
       exact⟨by rw [HE.out];first | done | rfl,HB1.out⟩
 | true =>
   rw [hex] at k1
   by_cases hc:cz=0
   ·have HE:=hid (HE4.out hex hc)
    clear HE1 HE2 HE3 HE4 hex CU
    subst hc
    go_wp2_with (first
     | (go_at_call 133
        refine (CK.out _).mono ?_
        rintro e w1 ⟨rfl,hb⟩
        have HB1:=hid (HB0.out.trans (hb.mono HB0.out.size))
        have HK1:=hid (HK.out.below (B':=W0.heap.size) (by have:=HSZ.out;omega) hb)
        have HR1:=hid (HR.out.below (B':=W0.heap.size) (by have:=HSZ.out;omega) hb)
        clear hb k0 k1 k2 k3 k4 o0 o1 o2 r0 r1
        obtain⟨k0,k1,k2,k3,k4⟩:=HK1.out
        obtain⟨r0,r1⟩:=HR1.out)
     | (go_at_call 134
        refine (CH.out _ HB1.out).mono ?_
        rintro e w2 ⟨rfl,hb⟩
        have HB2:=hid (HB1.out.trans (hb.mono HB1.out.size))
        clear hb))
    go_ret
    exact⟨by rw [HE.out];first | done | rfl,HB2.out⟩
   ·have hz2:(cz != 0)=true:=by simpa using hc
    have HE:=hid (HE3.out hex hc)
    clear HE1 HE2 HE3 HE4 hex CU CH hc
    go_wp2_with (go_at_call 133;(refine (CK.out _).mono ?_);rintro e w1 ⟨rfl,hb⟩;have HB1:=hid (HB0.out.trans (hb.mono HB0.out.size));clear hb)
    go_ret
    exact⟨by rw [HE.out];first | done | rfl,HB1.out⟩
theorem zb7 {P:Program} {fn:Func} {p u v:Tmp} {ty:TypeId} (h:fn.results=#[.cell p ty,.tmp u,.tmp v]) (tmps:Array Value) (w:World) (b o:Nat) (cs:List Value) (d:TypeDesc)
  (hp:tmps.getD p undef=.pointer (some ⟨b,o,none⟩)) (hc:w.rangeAt b o cs) (hu:P.underlying ty=some d) (hd:d.isRow=true) (hi:(P.info? ty).map (·.size)=some cs.length) :
  (results fn tmps).run P w=.ok (.tuple #[.agg cs.toArray,tmps.getD u undef,tmps.getD v undef]) w:=by
 have hp':tmps[p]?.getD undef=.pointer (some ⟨b,o,none⟩):=by simpa using hp
 simp [results,h,hp',asAddr,run_loadVar_mid w b o ty cs d hc hu hd hi]
def thT (b:Bk) (s:Ls) (t0:Tri) (cl:Int) (last:Bool):Tri:=match blkO b s t0 cl last with | some _=>(0,0,0) | none=>outT b.X t0 b.n
theorem th_a1 {b:Bk} {s:Ls} {t0:Tri} {cl:Int} {last:Bool} {k z:Int} (h:outS b.X t0 b.n=some (k,z)):thT b s t0 cl last=(0,0,0):=by unfold thT blkO;rw [h]
theorem th_a2 {b:Bk} {s:Ls} {t0:Tri} {cl:Int} {last:Bool} {k z:Int} (h:outS b.X t0 b.n=none) (h2:outG (ndw b s) rall b.n=some (k,z)):thT b s t0 cl last=(0,0,0):=by unfold thT blkO;rw [h,h2]
theorem th_a3 {b:Bk} {s:Ls} {t0:Tri} {cl:Int} {last:Bool} {o:Tri} {r:Rch} (h:outS b.X t0 b.n=none) (h2:outG (ndw b s) rall b.n=none) (ho:outT b.X t0 b.n=o) (hr:outR (ndw b s) b.n=r) {ez:Int} (he:exZ b.hd b.ex s o r cl last=ez) :
  (ez≠0→thT b s t0 cl last=(0,0,0))∧(ez=0→thT b s t0 cl last=o):=by
 subst he ho hr
 unfold thT blkO
 rw [h,h2]
 simp only []
 refine⟨fun hz=>?_,fun hz=>?_⟩
 ·rw [if_neg hz]
 ·rw [if_pos hz]
theorem th_fine {b:Bk} {s:Ls} {t0:Tri} {cl:Int} {last:Bool} (h:blkO b s t0 cl last=none):thT b s t0 cl last=outT b.X t0 b.n:=by unfold thT;rw [h]
def SaysT (t:Tri) (P Z:Int) (w:World) (e:Ending) (w':World):Prop:=e=.returned (.tuple #[.agg #[.int .i64 t.1,.int .i64 t.2.1,.int .i64 t.2.2],.int .i64 P,.int .i64 Z])∧Below w.heap.size w w'
theorem through33_to (b:Bk) (s:Ls) (t0:Tri) (cl:Int) (last:Bool) (w:World) (h:BkRdy w b s) (hT:zad w) :
  Calls Tryz.prog 71 #[.agg b.val.toArray,.agg #[.int .i64 t0.1,.int .i64 t0.2.1,.int .i64 t0.2.2],.int .i64 cl,.bool last] w (SaysT (thT b s t0 cl last) (bkP b s t0 cl last) (bkZ b s t0 cl last) w):=by
 have CS:=hid (fun (wx:World) (hb:Below w.heap.size w wx)=>cshp_at h hT t0 hb)
 have CF:=hid (fun (wx:World) (hb:Below w.heap.size w wx)=>cflow_at h hT hb)
 have CX:=hid (fun (o:Tri) (r:Rch) (hr:RBd r) (wx:World) (hb:Below w.heap.size w wx)=>vexit_to b s o r hr cl last wx (h.below hb))
 have HLS:=hid h.ls
 have HA1:=hid (fun (k z:Int) (q:outS b.X t0 b.n=some (k,z))=>And.intro (th_a1 (s:=s) (cl:=cl) (last:=last) q) (blk_a1 (s:=s) (cl:=cl) (last:=last) q))
 have HA2:=hid (fun (k z:Int) (q:outS b.X t0 b.n=none) (q2:outG (ndw b s) rall b.n=some (k,z))=>And.intro (th_a2 (cl:=cl) (last:=last) q q2) (blk_a2 (cl:=cl) (last:=last) q q2))
 have HA3:=hid (fun (o:Tri) (r:Rch) (q:outS b.X t0 b.n=none) (q2:outG (ndw b s) rall b.n=none) (ho:outT b.X t0 b.n=o) (hr:outR (ndw b s) b.n=r) (ez:Int) (he:exZ b.hd b.ex s o r cl last=ez)=>And.intro (th_a3 q q2 ho hr he) (blk_a3 q q2 ho hr he))
 generalize bkP b s t0 cl last=P at *
 generalize bkZ b s t0 cl last=Z at *
 generalize thT b s t0 cl last=T at *
 have b3:Below (w.heap.size+2) ((w.alloc (.cells b.val.toArray 49)).alloc (.cells #[.int .i64 t0.1,.int .i64 t0.2.1,.int .i64 t0.2.2] 23)) (((w.alloc (.cells b.val.toArray 49)).alloc (.cells #[.int .i64 t0.1,.int .i64 t0.2.1,.int .i64 t0.2.2] 23)).alloc (.cells #[.int .i64 0,.int .i64 0,.int .i64 0] 23)):=(Below.refl _ _).alloc (by simp) _
 have b2:Below (w.heap.size+1) (w.alloc (.cells b.val.toArray 49)) (((w.alloc (.cells b.val.toArray 49)).alloc (.cells #[.int .i64 t0.1,.int .i64 t0.2.1,.int .i64 t0.2.2] 23)).alloc (.cells #[.int .i64 0,.int .i64 0,.int .i64 0] 23)):=((Below.refl _ _).alloc (by simp) _).trans (b3.mono (by omega))
 have b1:Below w.heap.size w (((w.alloc (.cells b.val.toArray 49)).alloc (.cells #[.int .i64 t0.1,.int .i64 t0.2.1,.int .i64 t0.2.2] 23)).alloc (.cells #[.int .i64 0,.int .i64 0,.int .i64 0] 23)):=((Below.refl _ _).alloc (le_refl _) _).trans (b2.mono (by omega))
 have HB0:=hid b1
 have HK:=hid ((BkAt.new b 49 w).below (lt_succ_self _) b2)
 have q2:=TriAt.new t0 23 (w.alloc (.cells b.val.toArray 49))
 have q3:=FreshT3.new 23 ((w.alloc (.cells b.val.toArray 49)).alloc (.cells #[.int .i64 t0.1,.int .i64 t0.2.1,.int .i64 t0.2.2] 23))
 simp only [World.size_alloc] at q2 q3
 have HT0:=hid (q2.below (lt_succ_self _) b3)
 have HF:=hid q3
 have HSZ:Hid (w.heap.size+3≤(((w.alloc (.cells b.val.toArray 49)).alloc (.cells #[.int .i64 t0.1,.int .i64 t0.2.1,.int .i64 t0.2.2] 23)).alloc (.cells #[.int .i64 0,.int .i64 0,.int .i64 0] 23)).heap.size):=hid (by simp)
 clear b1 b2 b3 q2 q3 h hT
 go_enter Tryz.func71,Tryz.ntmps71
 go_upto_region 1 with fail
 generalize ((w.alloc (.cells b.val.toArray 49)).alloc (.cells #[.int .i64 t0.1,.int .i64 t0.2.1,.int .i64 t0.2.2] 23)).alloc (.cells #[.int .i64 0,.int .i64 0,.int .i64 0] 23)=W0 at HK HT0 HF HB0 HSZ ⊢
 obtain⟨k0,k1,k2,k3,k4⟩:=HK.out
 obtain⟨a0,a1,a2⟩:=HT0.out
 go_wp2_with fail
 go_at_call 98
 refine (CS.out _ HB0.out).mono ?_
 rintro e w2 ⟨hres,hb⟩
 have HB2:=hid (HB0.out.trans (hb.mono HB0.out.size))
 have HK2:=hid (HK.out.below (B':=W0.heap.size) (by have:=HSZ.out;omega) hb)
 have HF2:=hid (HF.out.below (B':=W0.heap.size) (by have:=HSZ.out;omega) hb)
 have HSZ2:=hid (Nat.le_trans HSZ.out hb.size)
 have HRES:=hid hres
 clear hb hres a0 a1 a2 k0 k1 k2 k3 k4 HT0 HK HF HSZ HB0
 rcases HRES.out with ⟨k,z,hs,rfl⟩ | ⟨hs,v,rfl,hown⟩
 ·obtain⟨⟨z0,z1,z2⟩,z4,z5,z6⟩:=HF2.out
  have hz:z≠0:=outS_nzC hs
  have hz1:(z != 0)=true:=by simpa using hz
  have HE:=hid (HA1.out k z hs)
  clear hs HRES hz
  go_wp2_with fail
  refine bodyPost_ret (zb7 rfl _ _ (w.heap.size+2) 0 [.int .i64 0,.int .i64 0,.int .i64 0] _ rfl (Kit.zak (by go_cell) (by go_cell) (by go_cell)) Tryz.underlying23 rfl (by kernel_rfl)) rfl ?_
  exact⟨by rw [HE.out.1,HE.out.2.1,HE.out.2.2];rfl,(((HB2.out.setCell (p:=⟨w.heap.size+2,0,none⟩) (by simp) _).setCell (p:=⟨w.heap.size+2,1,none⟩) (by simp) _).setCell (p:=⟨w.heap.size+2,2,none⟩) (by simp) _)⟩
 obtain⟨A5,c5,rfl, -, -,hrd⟩:=Kit.za2 hown
 have HRS:=hid hrd
 have HS9:=hid hs
 clear hown hrd hs HRES
 obtain⟨k0,k1,k2,k3,k4⟩:=HK2.out
 go_wp2_with fail
 go_at_call 99
 refine (CF.out _ HB2.out).mono ?_
 rintro e w3 ⟨hres,hb⟩
 have HB3:=hid (HB2.out.trans (hb.mono HB2.out.size))
 have HK3:=hid (HK2.out.below (B':=w2.heap.size) (by have:=HSZ2.out;omega) hb)
 have HF3:=hid (HF2.out.below (B':=w2.heap.size) (by have:=HSZ2.out;omega) hb)
 have HSZ3:=hid (Nat.le_trans HSZ2.out hb.size)
 replace HRS:=hid ((HRS.out.below hb).more hb.size)
 have HRES:=hid hres
 clear hb hres k0 k1 k2 k3 k4 HK2 HF2 HSZ2
 rcases HRES.out with ⟨k,z,hg,rfl⟩ | ⟨hg,v,rfl,hown⟩
 ·obtain⟨⟨z0,z1,z2⟩,z4,z5,z6⟩:=HF3.out
  have hz:z≠0:=outG_nz hg
  have hz1:(z != 0)=true:=by simpa using hz
  have HE:=hid (HA2.out k z HS9.out hg)
  clear hg HRES hz
  go_wp2_with fail
  refine bodyPost_ret (zb7 rfl _ _ (w.heap.size+2) 0 [.int .i64 0,.int .i64 0,.int .i64 0] _ rfl (Kit.zak (by go_cell) (by go_cell) (by go_cell)) Tryz.underlying23 rfl (by kernel_rfl)) rfl ?_
  exact⟨by rw [HE.out.1,HE.out.2.1,HE.out.2.2];rfl,(((HB3.out.setCell (p:=⟨w.heap.size+2,0,none⟩) (by simp) _).setCell (p:=⟨w.heap.size+2,1,none⟩) (by simp) _).setCell (p:=⟨w.heap.size+2,2,none⟩) (by simp) _)⟩
 obtain⟨A6,c6,rfl, -, -,hrd6⟩:=Kit.za2 hown
 obtain⟨n1,n8⟩:=outS_few HS9.out
 obtain⟨o,ho1,ho2⟩:=tvV_at (L:=shL b.X t0 b.n) (k:=b.n) (shL_len _ _ _) (lt_succ_self _)
 obtain⟨bl,ol,rfl,hbl,hcell⟩:=tv_cells HRS.out (by rw [shL_len];omega)
 obtain⟨r,hr1,hr2⟩:=rcL_at (L:=rcL (ndw b s) rall b.n) (k:=b.n) (rcL_len _ _ _) (lt_succ_self _)
 obtain⟨bq,oq,rfl,hbq,hcellq⟩:=rv_cells hrd6 (by rw [rcL_len];omega)
 have HRB:=hid (outR_bd HLS.out hr1)
 have HEZ0:=hid (fun ez he=>HA3.out o r HS9.out hg ho2 hr2 ez he)
 have q:=hcell b.n o ho1
 have k5:w3.cell? ⟨bl,ol+b.n * 3,none⟩=some (.int .i64 o.1):=q 0 _ rfl
 have k6:w3.cell? ⟨bl,ol+b.n * 3+1,none⟩=some (.int .i64 o.2.1):=q 1 _ rfl
 have k7:w3.cell? ⟨bl,ol+b.n * 3+2,none⟩=some (.int .i64 o.2.2):=q 2 _ rfl
 have HCR:Hid (∀ wS,Below w3.heap.size w3 wS→wS.cell? ⟨bq,oq+b.n * 2,none⟩=some (.int .i8 r.1)∧wS.cell? ⟨bq,oq+b.n * 2+1,none⟩=some (.int .i8 r.2)) :=
  hid (fun wS h=>have q:=hcellq b.n r hr1; ⟨(h.cell (p:=⟨bq,oq+b.n * 2,none⟩) hbq).trans (q 0 _ rfl),(h.cell (p:=⟨bq,oq+b.n * 2+1,none⟩) hbq).trans (q 1 _ rfl)⟩)
 clear q hown hrd6 hg HRES ho1 ho2 hbl hcell hr1 hr2 hbq hcellq HRS HA1 HA2 HA3 CS CF HS9 HLS
 obtain⟨n9,hn9⟩:∃ n9,b.n+1=n9:=⟨_,rfl⟩
 rw [hn9]
 have i0:(0:Int)≤(b.n:Int):=by omega
 have i1:(b.n:Int) < (n9:Int):=by omega
 have HI:=hid (And.intro i0 i1)
 clear hn9
 obtain⟨ez,hez⟩:∃ ez,exZ b.hd b.ex s o r cl last=ez:=⟨_,rfl⟩
 have HEZ:=hid (HEZ0.out ez hez)
 have CX2:Hid (∀ wx,Below w.heap.size w wx→Calls Tryz.prog 100 #[.agg b.val.toArray,.agg #[.int .i64 o.1,.int .i64 o.2.1,.int .i64 o.2.2],.agg #[.int .i8 r.1,.int .i8 r.2],.int .i64 cl,.bool last] wx (SaysI ez wx)):=hid (fun wx hb=>by have q:=CX.out o r HRB.out wx hb;rw [hez] at q;exact q)
 clear HEZ0 hez CX HRB
 go_upto_region 8 with fail
 have HBX:=hid (HB3.out.alloc HB3.out.size (.cells #[.int .i64 o.1,.int .i64 o.2.1,.int .i64 o.2.2] 23))
 have HTX:=hid (TriAt.new o 23 w3)
 have HAL:Hid (Below w3.heap.size w3 (w3.alloc (.cells #[.int .i64 o.1,.int .i64 o.2.1,.int .i64 o.2.2] 23))):=hid ((Below.refl _ _).alloc (le_refl _) _)
 have HLX:Hid (w3.heap.size < (w3.alloc (.cells #[.int .i64 o.1,.int .i64 o.2.1,.int .i64 o.2.2] 23)).heap.size):=hid (by simp)
 clear k5 k6 k7 i0 i1
 obtain⟨bx,hbx⟩:∃ bx,bx=w3.heap.size:=⟨_,rfl⟩
 have HBE:=hid hbx
 rw [← hbx] at HTX HLX
 try rw [← hbx]
 generalize w3.alloc (.cells #[.int .i64 o.1,.int .i64 o.2.1,.int .i64 o.2.2] 23)=W4 at HBX HTX HAL HLX ⊢
 clear hbx
 obtain⟨i0,i1⟩:=HI.out
 have HKC:Hid (∀ wS,Below W4.heap.size W4 wS→BkAt w.heap.size b wS):=hid (fun wS h=>HK3.out.below (B':=w3.heap.size) (by have:=HSZ3.out;omega) (HAL.out.trans (h.mono HAL.out.size)))
 have HTC:Hid (∀ wS,Below W4.heap.size W4 wS→TriAt bx o wS):=hid (fun wS h=>HTX.out.below HLX.out h)
 have HRC:Hid (∀ wS,Below W4.heap.size W4 wS→wS.cell? ⟨bq,oq+b.n * 2,none⟩=some (.int .i8 r.1)∧wS.cell? ⟨bq,oq+b.n * 2+1,none⟩=some (.int .i8 r.2)):=hid (fun wS h=>HCR.out wS (HAL.out.trans (h.mono HAL.out.size)))
 have HFC:Hid (∀ wS,Below W4.heap.size W4 wS→FreshT3 (w.heap.size+2) wS):=hid (fun wS h=>HF3.out.below (B':=w3.heap.size) (by have:=HSZ3.out;omega) (HAL.out.trans (h.mono HAL.out.size)))
 refine wp_region_held_drew (S:=fun wx=>Below W4.heap.size W4 wx) (by kernel_rfl) (Below.refl _ _).drew (fun hHeld=>?_)
 generalize W4.drew=W5 at hHeld ⊢
 refine Tk.y 0 (v:=.agg #[.slice b.A b.n b.c,.bool b.ex,.slice b.hd.WA b.hd.nW b.hd.cW,.slice b.hd.BA b.hd.nB b.hd.cB,.int .i32 b.hd.D]) rfl ?_ ?_
 ·intro wS hSw
  obtain⟨q0,q1,q2,q3,q4⟩:=HKC.out wS hSw
  first | (go_simp;done) | (go_simp;with_reducible rfl)
 try simp only [Tk.put]
 refine Tk.y 1 (v:=.agg #[.int .i64 o.1,.int .i64 o.2.1,.int .i64 o.2.2]) rfl ?_ ?_
 ·intro wS hSw
  obtain⟨q0,q1,q2⟩:=HTC.out wS hSw
  first | (go_simp;done) | (go_simp;with_reducible rfl)
 try simp only [Tk.put]
 refine Tk.x 2 rfl ?_
 try simp only [Tk.put]
 refine Tk.x 3 rfl ?_
 try simp only [Tk.put]
 refine Tk.x 4 rfl ?_
 try simp only [Tk.put]
 refine Tk.y 5 (v:=.agg #[.int .i8 r.1,.int .i8 r.2]) rfl ?_ ?_
 ·intro wS hSw
  obtain⟨q0,q1⟩:=HRC.out wS hSw
  first | (go_simp;done) | (go_simp;with_reducible rfl)
 try simp only [Tk.put]
 refine Tk.x 6 rfl ?_
 try simp only [Tk.put]
 refine Tk.x 7 rfl ?_
 try simp only [Tk.put]
 refine Tk.s 8 rfl (fun Kq hK=>?_)
 go_simp
 go_at_call 100
 refine (CX2.out _ (HBX.out.trans (hHeld.mono HBX.out.size))).mono ?_
 rintro e W6 ⟨rfl,hb⟩
 have hS2:=hHeld.trans (hb.mono hHeld.size)
 clear hHeld hb
 dsimp only
 refine hK.out _ _ hS2 (fun hHeld=>?_)
 clear hK Kq hS2
 try simp only [Tk.put]
 refine Tk.x 9 rfl ?_
 try simp only [Tk.put]
 refine wpAnyH_done (by kernel_rfl) ?_ _
 have HB6:=hid (HBX.out.trans (hHeld.mono HBX.out.size))
 obtain⟨⟨z0,z1,z2⟩,z4,z5,z6⟩:=HFC.out _ hHeld
 obtain⟨x0,x1,x2⟩:=HTC.out _ hHeld
 have u1:bx≠w.heap.size+2:=by have:=HBE.out;have:=HSZ3.out;omega
 clear hHeld HFC HTC HRC HKC HCR HF3 HK3 i0 i1
 by_cases h0:ez=0
 ·have HE:=hid ((And.intro (HEZ.out.1.2 h0) (HEZ.out.2.2 h0)))
  clear HEZ
  subst h0
  go_wp2_with fail
  refine bodyPost_ret (zb7 rfl _ _ (w.heap.size+2) 0 [.int .i64 o.1,.int .i64 o.2.1,.int .i64 o.2.2] _ rfl (Kit.zak (by go_cell) (by go_cell) (by go_cell)) Tryz.underlying23 rfl (by kernel_rfl)) rfl ?_
  exact⟨by rw [HE.out.1,HE.out.2.1,HE.out.2.2];rfl,(((HB6.out.setCell (p:=⟨w.heap.size+2,0,none⟩) (by simp) _).setCell (p:=⟨w.heap.size+2,1,none⟩) (by simp) _).setCell (p:=⟨w.heap.size+2,2,none⟩) (by simp) _)⟩
 ·have hz2:(ez != 0)=true:=by simpa using h0
  have HE:=hid ((And.intro (HEZ.out.1.1 h0) (HEZ.out.2.1 h0)))
  clear HEZ h0
  go_wp2_with fail
  refine bodyPost_ret (zb7 rfl _ _ (w.heap.size+2) 0 [.int .i64 0,.int .i64 0,.int .i64 0] _ rfl (Kit.zak (by go_cell) (by go_cell) (by go_cell)) Tryz.underlying23 rfl (by kernel_rfl)) rfl ?_
  exact⟨by rw [HE.out.1,HE.out.2.1,HE.out.2.2];rfl,(((HB6.out.setCell (p:=⟨w.heap.size+2,0,none⟩) (by simp) _).setCell (p:=⟨w.heap.size+2,1,none⟩) (by simp) _).setCell (p:=⟨w.heap.size+2,2,none⟩) (by simp) _)⟩
end CValid
end
section
namespace CBunL
open Go Go.ChangeShapes Go.WideShapes Go.ChangeAt Go.RowKit Go.Deep Go.WideElems
open CKind CrcNum CCrc
theorem gVarC : Tryz.prog.globalNamed "stepwell/crc.halves" = some 0 := by kernel_rfl
theorem tVarC:(Tryz.prog.globals[0]?).map (·.type)=some 158:=by kernel_rfl
theorem gVarK : Tryz.prog.globalNamed "stepwell/kinds.names" = some 1 := by kernel_rfl
theorem tVarK:(Tryz.prog.globals[1]?).map (·.type)=some 278:=by kernel_rfl
def tabZ:List Int:=[0,498536548,997073096,651767980,1994146192,1802195444,1303535960,1342533948,3988292384,4027552580,3604390888,3412177804,2607071920,2262029012,2685067896,3183342108]
theorem tabZ_at:∀ n:Nat,n < 16→tabZ[n]?=some (toI (tab n)):=by decide +kernel
def namesZ:List (List UInt8):=[[],[99,111,110,118],[100,101,112,116,104],[100,101,110,115,101],[109,97,120,112,111,111,108],[97,118,103,112,111,111,108],[106,111,105,110],[97,99,116],[112,97,100],[102,108,97,116]]
theorem namesZ_at:∀ n:Nat,n < 10→namesZ[n]?=some (kname n).data.toList:=by decide +kernel
theorem of_laid {W : World} (h : laidMetH Tryz.prog [("stepwell/crc.halves", Rows.laid_stepwell_crc_halves), ("stepwell/kinds.names", Rows.laid_stepwell_kinds_names)] W) : za5 W ∧ zad W := by
 rw [MakeChecks.laidMetH_plain _ _ _ (by kernel_rfl)] at h
 obtain⟨ps,⟨g0,t0,cs0,f0,p0,q0,hg0,ht0,hv0,hd0,⟨g1,t1,cs1,f1,p1,q1,hg1,ht1,hv1,hd1,_⟩,_⟩,_,_⟩:=h
 refine⟨?_,?_⟩
 ·clear hg1 ht1 hv1 hd1
  obtain rfl:=Option.some.inj (gVarC.symm.trans hg0)
  obtain rfl:=Option.some.inj (tVarC.symm.trans ht0)
  obtain⟨xs,m1,rfl,hx1,hlen,hn3,hel⟩:=DataW.trod_array Tryz.underlying158 hd0
  have c1:Tryz.prog.cellsOf 83=1:=by kernel_rfl
  intro n hn
  rw [World.var?_cell hg0 hv0 n]
  have hi:=hel n hn
  rw [c1] at hi
  have hxs:xs.map (·.1)=tabZ.map fun z=>.lit (.int .u32 z):=by
   have:=congrArg Prod.fst hx1
   simp only [Rows.laid_stepwell_crc_halves,DataW.agg.injEq] at this
   exact this.symm
  have hxn:(xs.map (·.1))[n]?=some (.lit (.int .u32 (toI (tab n)))):=by
   rw [hxs,List.getElem?_map,tabZ_at n hn];rfl
  rw [List.getElem?_map] at hxn
  obtain⟨x,hx,hx2⟩:=Option.map_eq_some_iff.1 hxn
  rw [hx] at hi
  obtain⟨k,e1,e2,_⟩:=DataW.trod_int Tryz.underlying83 hi
  have hk:k=toI (tab n):=by rw [e2] at hx2;simpa using hx2
  subst hk
  have h0:=congrArg (fun l:List Value=>l[0]?) e1
  simpa using h0
 ·clear hg0 ht0 hv0 hd0
  obtain rfl:=Option.some.inj (gVarK.symm.trans hg1)
  obtain rfl:=Option.some.inj (tVarK.symm.trans ht1)
  obtain⟨xs,m1,rfl,hx1,hlen,hn3,hel⟩:=DataW.trod_array Tryz.underlying278 hd1
  have c1:Tryz.prog.cellsOf 9=1:=by kernel_rfl
  intro n hn
  rw [World.var?_cell hg1 hv1 n]
  have hi:=hel n hn
  rw [c1] at hi
  have hxs:xs.map (·.1)=namesZ.map fun z=>.lit (.string z):=by
   have:=congrArg Prod.fst hx1
   simp only [Rows.laid_stepwell_kinds_names,DataW.agg.injEq] at this
   exact this.symm
  have hxn:(xs.map (·.1))[n]?=some (.lit (.string (kname n).data.toList)):=by
   rw [hxs,List.getElem?_map,namesZ_at n hn];rfl
  rw [List.getElem?_map] at hxn
  obtain⟨x,hx,hx2⟩:=Option.map_eq_some_iff.1 hxn
  rw [hx] at hi
  obtain⟨k,e1,e2,_⟩:=DataW.trod_string Tryz.underlying9 hi
  have hk:k=kname n:=by
   rw [e2] at hx2
   simp only [DataW.lit.injEq,Lit.string.injEq] at hx2
   exact ByteArray.ext (Array.toList_inj.1 hx2)
  subst hk
  have h0:=congrArg (fun l:List Value=>l[0]?) e1
  simpa using h0
end CBunL
end
end Go.Proofs.YtfgdfignoakkaaaGreatDoor
