/- -/
import Derived.Test.YtoffcaldhojjoaaGreatDoorGVU47
open Go.Lib (hid)
open Nat (le_refl lt_of_succ_lt lt_succ_self)
set_option linter.unusedVariables false
set_option linter.unusedSimpArgs false
set_option maxRecDepth 100000
set_option maxHeartbeats 16000000
namespace Go.Proofs.YtoffcaldhojjoaaGreatDoor
namespace CConv
end CConv
namespace CCost
end CCost
namespace CFix
end CFix
namespace CGraph
end CGraph
namespace CKind
end CKind
namespace CSat
end CSat
namespace CSpan
end CSpan
namespace CTensor
end CTensor
open Go Go.ChangeShapes Go.WideShapes Go.ChangeAt Go.RowKit Go.Deep
section
namespace CValid
open Plain CSat CFix CShape CTensor CConv CSpan CKind CGraph CJoin CGuard CBund CCost CVerd
structure BuRdy (w:World) (u:Bu) (S:Nat→Nat→Ls):Prop where
 ok:BuOk w w.heap.size u
 ls:∀ i,i < u.n→∀ k,k < (u.M i).n→LsOk w w.heap.size ((u.M i).K k) (S i k)
 few:FewBu u
theorem BuRdy.below {w w':World} {u:Bu} {S:Nat→Nat→Ls} (h:BuRdy w u S) (hb:Below w.heap.size w w'):BuRdy w' u S :=
 ⟨(h.ok.below hb).more hb.size,fun i hi k hk=>((h.ls i hi k hk).below hb).more hb.size,h.few⟩
theorem BuRdy.blk {w:World} {u:Bu} {S:Nat→Nat→Ls} (h:BuRdy w u S) {i:Nat} (hi:i < u.n) {k:Nat} (hk:k < (u.M i).n):BkRdy w ((u.M i).K k) (S i k) :=
 ⟨((h.ok.each i hi).each k hk).nodes,h.ls i hi k hk,(h.few.2 i hi).2 k hk⟩
theorem sets_of {w:World} {B:Nat} {u:Bu} (h:BuOk w B u):∃ S:Nat→Nat→Ls,∀ i,i < u.n→∀ k,k < (u.M i).n→LsOk w B ((u.M i).K k) (S i k) :=
 choose_fnE (fun _=>ls0) (n:=u.n) (p:=fun i s=>∀ k,k < (u.M i).n→LsOk w B ((u.M i).K k) (s k)) (fun i hi =>
  choose_fnE ls0 (n:=(u.M i).n) (p:=fun k s=>LsOk w B ((u.M i).K k) s) (fun k hk=>ls_of ((h.each i hi).each k hk)))
/-! ### faults -/
abbrev Flt:=Int × Int × Int × Int
def QAt (B:Nat) (q:Flt) (w:World):Prop:=w.cell? ⟨B,0,none⟩=some (.int .i64 q.1)∧w.cell? ⟨B,1,none⟩=some (.int .i64 q.2.1)∧w.cell? ⟨B,2,none⟩=some (.int .i64 q.2.2.1)∧w.cell? ⟨B,3,none⟩=some (.int .i64 q.2.2.2)
def QOk (B:Nat) (q:Flt) (w:World):Prop:=QAt B q w∧w.frozen? ⟨B,0,none⟩=false∧w.frozen? ⟨B,1,none⟩=false∧w.frozen? ⟨B,2,none⟩=false∧w.frozen? ⟨B,3,none⟩=false
theorem QOk.new (q:Flt) (T:TypeId) (w:World):QOk w.heap.size q (w.alloc (.cells #[.int .i64 q.1,.int .i64 q.2.1,.int .i64 q.2.2.1,.int .i64 q.2.2.2] T)) :=
 ⟨⟨Kit.zal _ _ _ _,Kit.zal _ _ _ _,Kit.zal _ _ _ _,Kit.zal _ _ _ _⟩,World.frozen?_alloc_at _ _ _ _ rfl,World.frozen?_alloc_at _ _ _ _ rfl,World.frozen?_alloc_at _ _ _ _ rfl,World.frozen?_alloc_at _ _ _ _ rfl⟩
theorem QOk.below {B B':Nat} {q:Flt} {w w':World} (h:QOk B q w) (hB:B < B') (hb:Below B' w w'):QOk B q w':=by
 obtain⟨⟨h0,h1,h2,h3⟩,f0,f1,f2,f3⟩:=h
 exact⟨⟨(hb.cell (p:=⟨B,0,none⟩) hB).trans h0,(hb.cell (p:=⟨B,1,none⟩) hB).trans h1,(hb.cell (p:=⟨B,2,none⟩) hB).trans h2,(hb.cell (p:=⟨B,3,none⟩) hB).trans h3⟩,
  (hb.frozen (p:=⟨B,0,none⟩) hB).trans f0,(hb.frozen (p:=⟨B,1,none⟩) hB).trans f1,(hb.frozen (p:=⟨B,2,none⟩) hB).trans f2,(hb.frozen (p:=⟨B,3,none⟩) hB).trans f3⟩
theorem QOk.set0 {B:Nat} {q:Flt} {w:World} (h:QOk B q w) (z:Int):QOk B (z,q.2) (w.setCell ⟨B,0,none⟩ (.int .i64 z)):=by
 obtain⟨⟨h0,h1,h2,h3⟩,f0,f1,f2,f3⟩:=h
 exact⟨⟨by go_cell,by go_cell,by go_cell,by go_cell⟩,by go_cell,by go_cell,by go_cell,by go_cell⟩
theorem QOk.set1 {B:Nat} {q:Flt} {w:World} (h:QOk B q w) (z:Int):QOk B (q.1,z,q.2.2) (w.setCell ⟨B,1,none⟩ (.int .i64 z)):=by
 obtain⟨⟨h0,h1,h2,h3⟩,f0,f1,f2,f3⟩:=h
 exact⟨⟨by go_cell,by go_cell,by go_cell,by go_cell⟩,by go_cell,by go_cell,by go_cell,by go_cell⟩
theorem QOk.other {B C o:Nat} {q:Flt} {w:World} {v:Value} (h:QOk B q w) (hne:B≠C):QOk B q (w.setCell ⟨C,o,none⟩ v):=by
 obtain⟨⟨h0,h1,h2,h3⟩,f0,f1,f2,f3⟩:=h
 exact⟨⟨by go_cell,by go_cell,by go_cell,by go_cell⟩,by go_cell,by go_cell,by go_cell,by go_cell⟩
theorem zbg {w:World} {b:Nat} {x y z v:Value} (h0:w.cell? ⟨b,0,none⟩=some x) (h1:w.cell? ⟨b,1,none⟩=some y) (h2:w.cell? ⟨b,2,none⟩=some z) (h3:w.cell? ⟨b,3,none⟩=some v):w.rangeAt b 0 [x,y,z,v]:=by
 intro j u hj
 match j,hj with
 | 0,hj=>simpa [← hj] using h0
 | 1,hj=>simpa [← hj] using h1
 | 2,hj=>simpa [← hj] using h2
 | 3,hj=>simpa [← hj] using h3
def SaysQ (q:Flt) (w:World) (e:Ending) (w':World):Prop:=e=.returned (.agg #[.int .i64 q.1,.int .i64 q.2.1,.int .i64 q.2.2.1,.int .i64 q.2.2.2])∧Below w.heap.size w w'
def wiV (u:Bu) (S:Nat→Nat→Ls) (i:Nat):Flt:=match modO (u.M i) (S i) (mdT0 u) u.cl with | some r=>(r.2.2,(i:Int),r.1,r.2.1) | none=>(0,(i:Int), -1, -1)
theorem wiV_some {u:Bu} {S:Nat→Nat→Ls} {i:Nat} {k p z:Int} (h:modO (u.M i) (S i) (mdT0 u) u.cl=some (k,p,z)):wiV u S i=(z,(i:Int),k,p):=by unfold wiV;rw [h]
theorem wiV_none {u:Bu} {S:Nat→Nat→Ls} {i:Nat} (h:modO (u.M i) (S i) (mdT0 u) u.cl=none):wiV u S i=(0,(i:Int), -1, -1):=by unfold wiV;rw [h]
theorem bk_some {b:Bk} {s:Ls} {t0:Tri} {cl:Int} {last:Bool} (h:bkZ b s t0 cl last≠0):blkO b s t0 cl last=some (bkP b s t0 cl last,bkZ b s t0 cl last):=by
 unfold bkP bkZ at *
 cases hs:blkO b s t0 cl last with
 | none=>rw [hs] at h;exact absurd rfl h
 | some r=>rfl
theorem modO_go {m:Md} {S:Nat→Ls} {t0:Tri} {cl:Int} (h1:¬ m.n=0) (h2:¬ 6 < m.n):modO m S t0 cl=mdO m S t0 cl m.n:=by unfold modO;rw [if_neg h1,if_neg h2]
def mnZ (n:Nat):Int:=if n=0 then 12 else if 6 < n then 4 else 0
theorem many_to (A:Option Addr) (n c:Nat) (w:World):Calls Tryz.prog 17 #[.slice A n c] w fun e w'=>e=.returned (.int .i64 (mnZ n))∧Below w.heap.size w w':=by
 by_cases h0:n=0
 ·subst h0
  go_enter Tryz.func17,Tryz.ntmps17
  go_wp2_with fail
  go_ret
  exact⟨rfl,Below.refl _ _⟩
 ·have h1:((n:Int) == 0)=false:=by simp;omega
  have h1b:¬ (n:Int)=0:=by omega
  by_cases h2:6 < n
  ·have h3:(n:Int) > 6:=by omega
   have h4:decide ((6:Int) < (n:Int))=true:=by simp;omega
   have h5:decide (6 < n)=true:=by simp [h2]
   have hz:mnZ n=4:=by unfold mnZ;rw [if_neg h0,if_pos h2]
   rw [hz]
   clear hz h0 h2
   go_enter Tryz.func17,Tryz.ntmps17
   go_wp2_with fail
   go_ret
   exact⟨rfl,Below.refl _ _⟩
  ·have h3:¬ (n:Int) > 6:=by omega
   have h4:decide ((6:Int) < (n:Int))=false:=by simp;omega
   have h5:decide (6 < n)=false:=by simp;omega
   have hz:mnZ n=0:=by unfold mnZ;rw [if_neg h0,if_neg h2]
   rw [hz]
   clear hz h0 h2
   go_enter Tryz.func17,Tryz.ntmps17
   go_wp2_with fail
   go_ret
   exact⟨rfl,Below.refl _ _⟩
theorem outside_to (u:Bu) (w:World):Calls Tryz.prog 11 #[.agg u.val.toArray] w fun e w'=>e=.returned (.int .i64 (zbn u))∧Below w.heap.size w w':=by
 have HB0:=hid ((Below.refl w.heap.size w).alloc (le_refl _) (.cells u.val.toArray 26))
 have HU:=hid (UAt.new u 26 w)
 have HL:Hid (w.heap.size < (w.alloc (.cells u.val.toArray 26)).heap.size):=hid (by simp)
 obtain⟨sb,hsb⟩:∃ sb,zae u.H u.W u.C=sb:=⟨_,rfl⟩
 have CR:=hid (fun wx:World=>zax u.H u.W u.C sb hsb wx)
 have hz:zbn u=if sb=false then 5 else if u.cl < 2∨16 < u.cl then 2 else if u.n=0 then 12 else if 3 < u.n then 4 else 0:=by unfold zbn;rw [hsb]
 have HZ:=hid hz
 clear hsb hz
 go_enter Tryz.func11,Tryz.ntmps11
 go_upto_region 1 with fail
 generalize w.alloc (.cells u.val.toArray 26)=W0 at HB0 HU HL ⊢
 obtain⟨c0,c1,c2,c3,c4⟩:=HU.out
 cases sb with
 | false =>
   have HE:Hid (zbn u=5):=hid (by rw [HZ.out];rfl)
   go_wp2_with (go_at_call 16;(refine (CR.out _).mono ?_);rintro e w1 ⟨rfl,hb⟩;(have HB1:=hid (HB0.out.trans (hb.mono HB0.out.size)));(have HU1:=hid (HU.out.below HL.out hb));clear hb c0 c1 c2 c3 c4;obtain⟨c0,c1,c2,c3,c4⟩:=HU1.out)
   go_ret
   exact⟨by rw [HE.out];first | done | rfl,HB1.out⟩
 | true =>
   have hz2:zbn u=if u.cl < 2∨16 < u.cl then 2 else if u.n=0 then 12 else if 3 < u.n then 4 else 0:=by rw [HZ.out];rfl
   have HZ2:=hid hz2
   clear hz2 HZ
   by_cases h1:u.cl < 2
   ·have h1b:decide (u.cl < 2)=true:=by simp [h1]
    have HE:Hid (zbn u=2):=hid (by rw [HZ2.out,if_pos (.inl h1)])
    go_wp2_with (go_at_call 16;(refine (CR.out _).mono ?_);rintro e w1 ⟨rfl,hb⟩;(have HB1:=hid (HB0.out.trans (hb.mono HB0.out.size)));(have HU1:=hid (HU.out.below HL.out hb));clear hb c0 c1 c2 c3 c4;obtain⟨c0,c1,c2,c3,c4⟩:=HU1.out)
    go_ret
    exact⟨by rw [HE.out];first | done | rfl,HB1.out⟩
   ·have h1b:decide (u.cl < 2)=false:=by simp;omega
    by_cases h2:16 < u.cl
    ·have h2a:u.cl > 16:=h2
     have h2b:decide (16 < u.cl)=true:=by simp [h2]
     have HE:Hid (zbn u=2):=hid (by rw [HZ2.out,if_pos (.inr h2)])
     go_wp2_with (go_at_call 16;(refine (CR.out _).mono ?_);rintro e w1 ⟨rfl,hb⟩;(have HB1:=hid (HB0.out.trans (hb.mono HB0.out.size)));(have HU1:=hid (HU.out.below HL.out hb));clear hb c0 c1 c2 c3 c4;obtain⟨c0,c1,c2,c3,c4⟩:=HU1.out)
     go_ret
     exact⟨by rw [HE.out];first | done | rfl,HB1.out⟩
    ·have h2a:¬ u.cl > 16:=h2
     have h2b:decide (16 < u.cl)=false:=by simp;omega
     have hz3:zbn u=if u.n=0 then 12 else if 3 < u.n then 4 else 0:=by rw [HZ2.out,if_neg (by omega)]
     have HZ3:=hid hz3
     clear hz3 HZ2
     by_cases h3:u.n=0
     ·have HE:Hid (zbn u=12):=hid (by rw [HZ3.out,if_pos h3])
      go_wp2_with (go_at_call 16;(refine (CR.out _).mono ?_);rintro e w1 ⟨rfl,hb⟩;(have HB1:=hid (HB0.out.trans (hb.mono HB0.out.size)));(have HU1:=hid (HU.out.below HL.out hb));clear hb c0 c1 c2 c3 c4;obtain⟨c0,c1,c2,c3,c4⟩:=HU1.out)
      go_ret
      exact⟨by rw [HE.out];first | done | rfl,HB1.out⟩
     ·have h3a:((u.n:Int) == 0)=false:=by simp;omega
      have h3b:¬ (u.n:Int)=0:=by omega
      by_cases h4:3 < u.n
      ·have h4a:(u.n:Int) > 3:=by omega
       have h4b:decide ((3:Int) < (u.n:Int))=true:=by simp;omega
       have h4c:decide (3 < u.n)=true:=by simp [h4]
       have HE:Hid (zbn u=4):=hid (by rw [HZ3.out,if_neg h3,if_pos h4])
       clear h3 h4
       go_wp2_with (go_at_call 16;(refine (CR.out _).mono ?_);rintro e w1 ⟨rfl,hb⟩;(have HB1:=hid (HB0.out.trans (hb.mono HB0.out.size)));(have HU1:=hid (HU.out.below HL.out hb));clear hb c0 c1 c2 c3 c4;obtain⟨c0,c1,c2,c3,c4⟩:=HU1.out)
       go_ret
       exact⟨by rw [HE.out];first | done | rfl,HB1.out⟩
      ·have h4a:¬ (u.n:Int) > 3:=by omega
       have h4b:decide ((3:Int) < (u.n:Int))=false:=by simp;omega
       have h4c:decide (3 < u.n)=false:=by simp;omega
       have HE:Hid (zbn u=0):=hid (by rw [HZ3.out,if_neg h3,if_neg h4])
       clear h3 h4
       go_wp2_with (go_at_call 16;(refine (CR.out _).mono ?_);rintro e w1 ⟨rfl,hb⟩;(have HB1:=hid (HB0.out.trans (hb.mono HB0.out.size)));(have HU1:=hid (HU.out.below HL.out hb));clear hb c0 c1 c2 c3 c4;obtain⟨c0,c1,c2,c3,c4⟩:=HU1.out)
       go_ret
       exact⟨by rw [HE.out];first | done | rfl,HB1.out⟩
theorem zcl {P:Program} {fn:Func} {p u v:Tmp} {ty:TypeId} (h:fn.results=#[.cell p ty,.tmp u,.tmp v]) (tmps:Array Value) (w:World) (b o:Nat) (cs:List Value) (d:TypeDesc)
  (hp:tmps.getD p undef=.pointer (some ⟨b,o,none⟩)) (hc:w.rangeAt b o cs) (hu:P.underlying ty=some d) (hd:d.isRow=true) (hi:(P.info? ty).map (·.size)=some cs.length) :
  (results fn tmps).run P w=.ok (.tuple #[.agg cs.toArray,tmps.getD u undef,tmps.getD v undef]) w:=by
 have hp':tmps[p]?.getD undef=.pointer (some ⟨b,o,none⟩):=by simpa using hp
 simp [results,h,hp',asAddr,run_loadVar_mid w b o ty cs d hc hu hd hi]
def thT (b:Bk) (s:Ls) (t0:Tri) (cl:Int) (last:Bool):Tri:=match blkO b s t0 cl last with | some _=>(0,0,0) | none=>outT b.X t0 b.n
theorem th_a1 {b:Bk} {s:Ls} {t0:Tri} {cl:Int} {last:Bool} {k z:Int} (h:outS b.X t0 b.n=some (k,z)):thT b s t0 cl last=(0,0,0):=by unfold thT blkO;rw [h]
theorem th_a2 {b:Bk} {s:Ls} {t0:Tri} {cl:Int} {last:Bool} {k z:Int} (h:outS b.X t0 b.n=none) (h2:outG (ndw b s) rall b.n=some (k,z)):thT b s t0 cl last=(0,0,0):=by unfold thT blkO;rw [h,h2]
theorem th_a3 {b:Bk} {s:Ls} {t0:Tri} {cl:Int} {last:Bool} {o:Tri} {r:Rch} (h:outS b.X t0 b.n=none) (h2:outG (ndw b s) rall b.n=none) (ho:outT b.X t0 b.n=o) (hr:outR (ndw b s) b.n=r) {ez:Int} (he:exZ b.hd b.ex s o r cl last=ez) :
  (ez≠0→thT b s t0 cl last=(0,0,0))∧(ez=0→thT b s t0 cl last=o):=by
 subst he ho hr
 unfold thT blkO
 rw [h,h2]
 simp only []
 refine⟨fun hz=>?_,fun hz=>?_⟩
 ·rw [if_neg hz]
 ·rw [if_pos hz]
theorem th_fine {b:Bk} {s:Ls} {t0:Tri} {cl:Int} {last:Bool} (h:blkO b s t0 cl last=none):thT b s t0 cl last=outT b.X t0 b.n:=by unfold thT;rw [h]
def SaysT (t:Tri) (P Z:Int) (w:World) (e:Ending) (w':World):Prop:=e=.returned (.tuple #[.agg #[.int .i64 t.1,.int .i64 t.2.1,.int .i64 t.2.2],.int .i64 P,.int .i64 Z])∧Below w.heap.size w w'
theorem through33_to (b:Bk) (s:Ls) (t0:Tri) (cl:Int) (last:Bool) (w:World) (h:BkRdy w b s) (hT:zan w) :
  Calls Tryz.prog 18 #[.agg b.val.toArray,.agg #[.int .i64 t0.1,.int .i64 t0.2.1,.int .i64 t0.2.2],.int .i64 cl,.bool last] w (SaysT (thT b s t0 cl last) (bkP b s t0 cl last) (bkZ b s t0 cl last) w):=by
 have CS:=hid (fun (wx:World) (hb:Below w.heap.size w wx)=>cshp_at h hT t0 hb)
 have CF:=hid (fun (wx:World) (hb:Below w.heap.size w wx)=>cflow_at h hT hb)
 have CX:=hid (fun (o:Tri) (r:Rch) (hr:RBd r) (wx:World) (hb:Below w.heap.size w wx)=>vexit_to b s o r hr cl last wx (h.below hb))
 have HLS:=hid h.ls
 have HA1:=hid (fun (k z:Int) (q:outS b.X t0 b.n=some (k,z))=>And.intro (th_a1 (s:=s) (cl:=cl) (last:=last) q) (blk_a1 (s:=s) (cl:=cl) (last:=last) q))
 have HA2:=hid (fun (k z:Int) (q:outS b.X t0 b.n=none) (q2:outG (ndw b s) rall b.n=some (k,z))=>And.intro (th_a2 (cl:=cl) (last:=last) q q2) (blk_a2 (cl:=cl) (last:=last) q q2))
 have HA3:=hid (fun (o:Tri) (r:Rch) (q:outS b.X t0 b.n=none) (q2:outG (ndw b s) rall b.n=none) (ho:outT b.X t0 b.n=o) (hr:outR (ndw b s) b.n=r) (ez:Int) (he:exZ b.hd b.ex s o r cl last=ez)=>And.intro (th_a3 q q2 ho hr he) (blk_a3 q q2 ho hr he))
 generalize bkP b s t0 cl last=P at *
 generalize bkZ b s t0 cl last=Z at *
 generalize thT b s t0 cl last=T at *
 have b3:Below (w.heap.size+2) ((w.alloc (.cells b.val.toArray 46)).alloc (.cells #[.int .i64 t0.1,.int .i64 t0.2.1,.int .i64 t0.2.2] 23)) (((w.alloc (.cells b.val.toArray 46)).alloc (.cells #[.int .i64 t0.1,.int .i64 t0.2.1,.int .i64 t0.2.2] 23)).alloc (.cells #[.int .i64 0,.int .i64 0,.int .i64 0] 23)):=(Below.refl _ _).alloc (by simp) _
 have b2:Below (w.heap.size+1) (w.alloc (.cells b.val.toArray 46)) (((w.alloc (.cells b.val.toArray 46)).alloc (.cells #[.int .i64 t0.1,.int .i64 t0.2.1,.int .i64 t0.2.2] 23)).alloc (.cells #[.int .i64 0,.int .i64 0,.int .i64 0] 23)):=((Below.refl _ _).alloc (by simp) _).trans (b3.mono (by omega))
 have b1:Below w.heap.size w (((w.alloc (.cells b.val.toArray 46)).alloc (.cells #[.int .i64 t0.1,.int .i64 t0.2.1,.int .i64 t0.2.2] 23)).alloc (.cells #[.int .i64 0,.int .i64 0,.int .i64 0] 23)):=((Below.refl _ _).alloc (le_refl _) _).trans (b2.mono (by omega))
 have HB0:=hid b1
 have HK:=hid ((BkAt.new b 46 w).below (lt_succ_self _) b2)
 have q2:=TriAt.new t0 23 (w.alloc (.cells b.val.toArray 46))
 have q3:=FreshT3.new 23 ((w.alloc (.cells b.val.toArray 46)).alloc (.cells #[.int .i64 t0.1,.int .i64 t0.2.1,.int .i64 t0.2.2] 23))
 simp only [World.size_alloc] at q2 q3
 have HT0:=hid (q2.below (lt_succ_self _) b3)
 have HF:=hid q3
 have HSZ:Hid (w.heap.size+3≤(((w.alloc (.cells b.val.toArray 46)).alloc (.cells #[.int .i64 t0.1,.int .i64 t0.2.1,.int .i64 t0.2.2] 23)).alloc (.cells #[.int .i64 0,.int .i64 0,.int .i64 0] 23)).heap.size):=hid (by simp)
 clear b1 b2 b3 q2 q3 h hT
 go_enter Tryz.func18,Tryz.ntmps18
 go_upto_region 1 with fail
 generalize ((w.alloc (.cells b.val.toArray 46)).alloc (.cells #[.int .i64 t0.1,.int .i64 t0.2.1,.int .i64 t0.2.2] 23)).alloc (.cells #[.int .i64 0,.int .i64 0,.int .i64 0] 23)=W0 at HK HT0 HF HB0 HSZ ⊢
 obtain⟨k0,k1,k2,k3,k4⟩:=HK.out
 obtain⟨a0,a1,a2⟩:=HT0.out
 go_wp2_with fail
 go_at_call 27
 refine (CS.out _ HB0.out).mono ?_
 rintro e w2 ⟨hres,hb⟩
 have HB2:=hid (HB0.out.trans (hb.mono HB0.out.size))
 have HK2:=hid (HK.out.below (B':=W0.heap.size) (by have:=HSZ.out;omega) hb)
 have HF2:=hid (HF.out.below (B':=W0.heap.size) (by have:=HSZ.out;omega) hb)
 have HSZ2:=hid (Nat.le_trans HSZ.out hb.size)
 have HRES:=hid hres
 clear hb hres a0 a1 a2 k0 k1 k2 k3 k4 HT0 HK HF HSZ HB0
 rcases HRES.out with ⟨k,z,hs,rfl⟩ | ⟨hs,v,rfl,hown⟩
 ·obtain⟨⟨z0,z1,z2⟩,z4,z5,z6⟩:=HF2.out
  have hz:z≠0:=outS_nzC hs
  have hz1:(z != 0)=true:=by simpa using hz
  have HE:=hid (HA1.out k z hs)
  clear hs HRES hz
  go_wp2_with fail
  refine bodyPost_ret (zcl rfl _ _ (w.heap.size+2) 0 [.int .i64 0,.int .i64 0,.int .i64 0] _ rfl (Kit.zaj (by go_cell) (by go_cell) (by go_cell)) Tryz.underlying23 rfl (by kernel_rfl)) rfl ?_
  exact⟨by rw [HE.out.1,HE.out.2.1,HE.out.2.2];rfl,(((HB2.out.setCell (p:=⟨w.heap.size+2,0,none⟩) (by simp) _).setCell (p:=⟨w.heap.size+2,1,none⟩) (by simp) _).setCell (p:=⟨w.heap.size+2,2,none⟩) (by simp) _)⟩
 obtain⟨A5,c5,rfl, -, -,hrd⟩:=Kit.own_rd hown
 have HRS:=hid hrd
 have HS9:=hid hs
 clear hown hrd hs HRES
 obtain⟨k0,k1,k2,k3,k4⟩:=HK2.out
 go_wp2_with fail
 go_at_call 28
 refine (CF.out _ HB2.out).mono ?_
 rintro e w3 ⟨hres,hb⟩
 have HB3:=hid (HB2.out.trans (hb.mono HB2.out.size))
 have HK3:=hid (HK2.out.below (B':=w2.heap.size) (by have:=HSZ2.out;omega) hb)
 have HF3:=hid (HF2.out.below (B':=w2.heap.size) (by have:=HSZ2.out;omega) hb)
 have HSZ3:=hid (Nat.le_trans HSZ2.out hb.size)
 replace HRS:=hid ((HRS.out.below hb).more hb.size)
 have HRES:=hid hres
 clear hb hres k0 k1 k2 k3 k4 HK2 HF2 HSZ2
 rcases HRES.out with ⟨k,z,hg,rfl⟩ | ⟨hg,v,rfl,hown⟩
 ·obtain⟨⟨z0,z1,z2⟩,z4,z5,z6⟩:=HF3.out
  have hz:z≠0:=outG_nz hg
  have hz1:(z != 0)=true:=by simpa using hz
  have HE:=hid (HA2.out k z HS9.out hg)
  clear hg HRES hz
  go_wp2_with fail
  refine bodyPost_ret (zcl rfl _ _ (w.heap.size+2) 0 [.int .i64 0,.int .i64 0,.int .i64 0] _ rfl (Kit.zaj (by go_cell) (by go_cell) (by go_cell)) Tryz.underlying23 rfl (by kernel_rfl)) rfl ?_
  exact⟨by rw [HE.out.1,HE.out.2.1,HE.out.2.2];rfl,(((HB3.out.setCell (p:=⟨w.heap.size+2,0,none⟩) (by simp) _).setCell (p:=⟨w.heap.size+2,1,none⟩) (by simp) _).setCell (p:=⟨w.heap.size+2,2,none⟩) (by simp) _)⟩
 obtain⟨A6,c6,rfl, -, -,hrd6⟩:=Kit.own_rd hown
 obtain⟨n1,n8⟩:=outS_few HS9.out
 obtain⟨o,ho1,ho2⟩:=tvV_at (L:=shL b.X t0 b.n) (k:=b.n) (shL_len _ _ _) (lt_succ_self _)
 obtain⟨bl,ol,rfl,hbl,hcell⟩:=tv_cells HRS.out (by rw [shL_len];omega)
 obtain⟨r,hr1,hr2⟩:=rcL_at (L:=rcL (ndw b s) rall b.n) (k:=b.n) (rcL_len _ _ _) (lt_succ_self _)
 obtain⟨bq,oq,rfl,hbq,hcellq⟩:=rv_cells hrd6 (by rw [rcL_len];omega)
 have HRB:=hid (outR_bd HLS.out hr1)
 have HEZ0:=hid (fun ez he=>HA3.out o r HS9.out hg ho2 hr2 ez he)
 have q:=hcell b.n o ho1
 have k5:w3.cell? ⟨bl,ol+b.n * 3,none⟩=some (.int .i64 o.1):=q 0 _ rfl
 have k6:w3.cell? ⟨bl,ol+b.n * 3+1,none⟩=some (.int .i64 o.2.1):=q 1 _ rfl
 have k7:w3.cell? ⟨bl,ol+b.n * 3+2,none⟩=some (.int .i64 o.2.2):=q 2 _ rfl
 have HCR:Hid (∀ wS,Below w3.heap.size w3 wS→wS.cell? ⟨bq,oq+b.n * 2,none⟩=some (.int .i8 r.1)∧wS.cell? ⟨bq,oq+b.n * 2+1,none⟩=some (.int .i8 r.2)) :=
  hid (fun wS h=>have q:=hcellq b.n r hr1; ⟨(h.cell (p:=⟨bq,oq+b.n * 2,none⟩) hbq).trans (q 0 _ rfl),(h.cell (p:=⟨bq,oq+b.n * 2+1,none⟩) hbq).trans (q 1 _ rfl)⟩)
 clear q hown hrd6 hg HRES ho1 ho2 hbl hcell hr1 hr2 hbq hcellq HRS HA1 HA2 HA3 CS CF HS9 HLS
 obtain⟨n9,hn9⟩:∃ n9,b.n+1=n9:=⟨_,rfl⟩
 rw [hn9]
 have i0:(0:Int)≤(b.n:Int):=by omega
 have i1:(b.n:Int) < (n9:Int):=by omega
 have HI:=hid (And.intro i0 i1)
 clear hn9
 obtain⟨ez,hez⟩:∃ ez,exZ b.hd b.ex s o r cl last=ez:=⟨_,rfl⟩
 have HEZ:=hid (HEZ0.out ez hez)
 have CX2:Hid (∀ wx,Below w.heap.size w wx→Calls Tryz.prog 29 #[.agg b.val.toArray,.agg #[.int .i64 o.1,.int .i64 o.2.1,.int .i64 o.2.2],.agg #[.int .i8 r.1,.int .i8 r.2],.int .i64 cl,.bool last] wx (SaysI ez wx)):=hid (fun wx hb=>by have q:=CX.out o r HRB.out wx hb;rw [hez] at q;exact q)
 clear HEZ0 hez CX HRB
 go_upto_region 8 with fail
 have HBX:=hid (HB3.out.alloc HB3.out.size (.cells #[.int .i64 o.1,.int .i64 o.2.1,.int .i64 o.2.2] 23))
 have HTX:=hid (TriAt.new o 23 w3)
 have HAL:Hid (Below w3.heap.size w3 (w3.alloc (.cells #[.int .i64 o.1,.int .i64 o.2.1,.int .i64 o.2.2] 23))):=hid ((Below.refl _ _).alloc (le_refl _) _)
 have HLX:Hid (w3.heap.size < (w3.alloc (.cells #[.int .i64 o.1,.int .i64 o.2.1,.int .i64 o.2.2] 23)).heap.size):=hid (by simp)
 clear k5 k6 k7 i0 i1
 obtain⟨bx,hbx⟩:∃ bx,bx=w3.heap.size:=⟨_,rfl⟩
 have HBE:=hid hbx
 rw [← hbx] at HTX HLX
 try rw [← hbx]
 generalize w3.alloc (.cells #[.int .i64 o.1,.int .i64 o.2.1,.int .i64 o.2.2] 23)=W4 at HBX HTX HAL HLX ⊢
 clear hbx
 obtain⟨i0,i1⟩:=HI.out
 have HKC:Hid (∀ wS,Below W4.heap.size W4 wS→BkAt w.heap.size b wS):=hid (fun wS h=>HK3.out.below (B':=w3.heap.size) (by have:=HSZ3.out;omega) (HAL.out.trans (h.mono HAL.out.size)))
 have HTC:Hid (∀ wS,Below W4.heap.size W4 wS→TriAt bx o wS):=hid (fun wS h=>HTX.out.below HLX.out h)
 have HRC:Hid (∀ wS,Below W4.heap.size W4 wS→wS.cell? ⟨bq,oq+b.n * 2,none⟩=some (.int .i8 r.1)∧wS.cell? ⟨bq,oq+b.n * 2+1,none⟩=some (.int .i8 r.2)):=hid (fun wS h=>HCR.out wS (HAL.out.trans (h.mono HAL.out.size)))
 have HFC:Hid (∀ wS,Below W4.heap.size W4 wS→FreshT3 (w.heap.size+2) wS):=hid (fun wS h=>HF3.out.below (B':=w3.heap.size) (by have:=HSZ3.out;omega) (HAL.out.trans (h.mono HAL.out.size)))
 refine wp_region_held_drew (S:=fun wx=>Below W4.heap.size W4 wx) (by kernel_rfl) (Below.refl _ _).drew (fun hHeld=>?_)
 generalize W4.drew=W5 at hHeld ⊢
 refine Tk.y 0 (v:=.agg #[.slice b.A b.n b.c,.bool b.ex,.slice b.hd.WA b.hd.nW b.hd.cW,.slice b.hd.BA b.hd.nB b.hd.cB,.int .i32 b.hd.D]) rfl ?_ ?_
 ·intro wS hSw
  obtain⟨q0,q1,q2,q3,q4⟩:=HKC.out wS hSw
  first | (go_simp;done) | (go_simp;with_reducible rfl)
 try simp only [Tk.put]
 refine Tk.y 1 (v:=.agg #[.int .i64 o.1,.int .i64 o.2.1,.int .i64 o.2.2]) rfl ?_ ?_
 ·intro wS hSw
  obtain⟨q0,q1,q2⟩:=HTC.out wS hSw
  first | (go_simp;done) | (go_simp;with_reducible rfl)
 try simp only [Tk.put]
 refine Tk.x 2 rfl ?_
 try simp only [Tk.put]
 refine Tk.x 3 rfl ?_
 try simp only [Tk.put]
 refine Tk.x 4 rfl ?_
 try simp only [Tk.put]
 refine Tk.y 5 (v:=.agg #[.int .i8 r.1,.int .i8 r.2]) rfl ?_ ?_
 ·intro wS hSw
  obtain⟨q0,q1⟩:=HRC.out wS hSw
  first | (go_simp;done) | (go_simp;with_reducible rfl)
 try simp only [Tk.put]
 refine Tk.x 6 rfl ?_
 try simp only [Tk.put]
 refine Tk.x 7 rfl ?_
 try simp only [Tk.put]
 refine Tk.s 8 rfl (fun Kq hK=>?_)
 go_simp
 go_at_call 29
 refine (CX2.out _ (HBX.out.trans (hHeld.mono HBX.out.size))).mono ?_
 rintro e W6 ⟨rfl,hb⟩
 have hS2:=hHeld.trans (hb.mono hHeld.size)
 clear hHeld hb
 dsimp only
 refine hK.out _ _ hS2 (fun hHeld=>?_)
 clear hK Kq hS2
 try simp only [Tk.put]
 refine Tk.x 9 rfl ?_
 try simp only [Tk.put]
 refine wpAnyH_done (by kernel_rfl) ?_ _
 have HB6:=hid (HBX.out.trans (hHeld.mono HBX.out.size))
 obtain⟨⟨z0,z1,z2⟩,z4,z5,z6⟩:=HFC.out _ hHeld
 obtain⟨x0,x1,x2⟩:=HTC.out _ hHeld
 have u1:bx≠w.heap.size+2:=by have:=HBE.out;have:=HSZ3.out;omega
 clear hHeld HFC HTC HRC HKC HCR HF3 HK3 i0 i1
 by_cases h0:ez=0
 ·have HE:=hid ((And.intro (HEZ.out.1.2 h0) (HEZ.out.2.2 h0)))
  clear HEZ
  subst h0
  go_wp2_with fail
  refine bodyPost_ret (zcl rfl _ _ (w.heap.size+2) 0 [.int .i64 o.1,.int .i64 o.2.1,.int .i64 o.2.2] _ rfl (Kit.zaj (by go_cell) (by go_cell) (by go_cell)) Tryz.underlying23 rfl (by kernel_rfl)) rfl ?_
  exact⟨by rw [HE.out.1,HE.out.2.1,HE.out.2.2];rfl,(((HB6.out.setCell (p:=⟨w.heap.size+2,0,none⟩) (by simp) _).setCell (p:=⟨w.heap.size+2,1,none⟩) (by simp) _).setCell (p:=⟨w.heap.size+2,2,none⟩) (by simp) _)⟩
 ·have hz2:(ez != 0)=true:=by simpa using h0
  have HE:=hid ((And.intro (HEZ.out.1.1 h0) (HEZ.out.2.1 h0)))
  clear HEZ h0
  go_wp2_with fail
  refine bodyPost_ret (zcl rfl _ _ (w.heap.size+2) 0 [.int .i64 0,.int .i64 0,.int .i64 0] _ rfl (Kit.zaj (by go_cell) (by go_cell) (by go_cell)) Tryz.underlying23 rfl (by kernel_rfl)) rfl ?_
  exact⟨by rw [HE.out.1,HE.out.2.1,HE.out.2.2];rfl,(((HB6.out.setCell (p:=⟨w.heap.size+2,0,none⟩) (by simp) _).setCell (p:=⟨w.heap.size+2,1,none⟩) (by simp) _).setCell (p:=⟨w.heap.size+2,2,none⟩) (by simp) _)⟩
end CValid
end
end Go.Proofs.YtoffcaldhojjoaaGreatDoor
