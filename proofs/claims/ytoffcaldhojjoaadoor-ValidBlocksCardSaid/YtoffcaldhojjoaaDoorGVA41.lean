/- -/
import Derived.Test.YtoffcaldhojjoaaDoorGVA39
import Derived.Test.YtoffcaldhojjoaaDoorGVA40
open Go.Lib (hid)
open Nat (le_refl lt_of_succ_lt lt_succ_self)
set_option linter.unusedVariables false
set_option linter.unusedSimpArgs false
set_option maxRecDepth 100000
set_option maxHeartbeats 16000000
namespace Go.Proofs.YtoffcaldhojjoaaDoor
namespace CConv
end CConv
namespace CDense
end CDense
namespace CFix
end CFix
namespace CGraph
end CGraph
namespace CKind
end CKind
namespace CSat
end CSat
namespace CSpan
end CSpan
namespace CTensor
end CTensor
open Go Go.ChangeShapes Go.WideShapes Go.ChangeAt Go.RowKit Go.Deep
section
namespace CGraph
open Plain CSat CFix CShape CTensor CConv CKind CDense
theorem outS_few {X:Nat→Nd} {t0:Tri} {n:Nat} (h:outS X t0 n=none):1≤n∧n≤8:=by
 unfold outS at h
 split at h
 ·cases h
 ·split at h
  ·cases h
  ·rename_i hn
   split at h
   ·cases h
   ·rename_i hm;omega
end CGraph
end
section
namespace CCost
open Plain CSat CFix CShape CTensor CConv CKind CGraph CDense
def TriAt (B:Nat) (a:Tri) (w:World):Prop:=w.cell? ⟨B,0,none⟩=some (.int .i64 a.1)∧w.cell? ⟨B,1,none⟩=some (.int .i64 a.2.1)∧w.cell? ⟨B,2,none⟩=some (.int .i64 a.2.2)
theorem TriAt.new (a:Tri) (T:TypeId) (w:World):TriAt w.heap.size a (w.alloc (.cells #[.int .i64 a.1,.int .i64 a.2.1,.int .i64 a.2.2] T)):=⟨Kit.zal _ _ _ _,Kit.zal _ _ _ _,Kit.zal _ _ _ _⟩
theorem TriAt.below {B B':Nat} {a:Tri} {w w':World} (h:TriAt B a w) (hB:B < B') (hb:Below B' w w'):TriAt B a w' :=
 ⟨(hb.cell (p:=⟨B,0,none⟩) hB).trans h.1,(hb.cell (p:=⟨B,1,none⟩) hB).trans h.2.1,(hb.cell (p:=⟨B,2,none⟩) hB).trans h.2.2⟩
end CCost
end
section
namespace CCost
open Plain CSat CFix CShape CTensor CConv CKind CGraph CDense CBund
def outT (X:Nat→Nd) (t0:Tri) (n:Nat):Tri:=(shL X t0 n).getD n tri0
def FreshT3 (B:Nat) (wd:World):Prop :=
 (wd.cell? ⟨B,0,none⟩=some (.int .i64 0)∧wd.cell? ⟨B,1,none⟩=some (.int .i64 0)∧wd.cell? ⟨B,2,none⟩=some (.int .i64 0)) ∧
 wd.frozen? ⟨B,0,none⟩=false∧wd.frozen? ⟨B,1,none⟩=false∧wd.frozen? ⟨B,2,none⟩=false
theorem FreshT3.new (T:TypeId) (w:World):FreshT3 w.heap.size (w.alloc (.cells #[.int .i64 0,.int .i64 0,.int .i64 0] T)) :=
 ⟨⟨Kit.zal _ _ _ _,Kit.zal _ _ _ _,Kit.zal _ _ _ _⟩,World.frozen?_alloc_at _ _ _ _ rfl,World.frozen?_alloc_at _ _ _ _ rfl,World.frozen?_alloc_at _ _ _ _ rfl⟩
theorem FreshT3.below {B B':Nat} {w w':World} (h:FreshT3 B w) (hB:B < B') (hb:Below B' w w'):FreshT3 B w':=by
 obtain⟨⟨h1,h2,h3⟩,h5,h6,h7⟩:=h
 exact⟨⟨(hb.cell (p:=⟨B,0,none⟩) hB).trans h1,(hb.cell (p:=⟨B,1,none⟩) hB).trans h2,(hb.cell (p:=⟨B,2,none⟩) hB).trans h3⟩,
  (hb.frozen (p:=⟨B,0,none⟩) hB).trans h5,(hb.frozen (p:=⟨B,1,none⟩) hB).trans h6,(hb.frozen (p:=⟨B,2,none⟩) hB).trans h7⟩
theorem stopAt_nzC {X:Nat→Nd} {t0:Tri} : ∀ {n:Nat} {r:Nat × Int},zbn X t0 n=some r→r.2≠0
 | 0,r,h=>by cases h
 | n+1,r,h=>by
   rw [zbn] at h
   cases hs:zbn X t0 n with
   | some q=>rw [hs] at h;cases h;exact stopAt_nzC hs
   | none =>
     rw [hs] at h
     dsimp only at h
     split at h
     ·cases h
     ·rename_i hz;cases h;exact hz
theorem outS_nzC {X:Nat→Nd} {t0:Tri} {n:Nat} {k z:Int} (h:outS X t0 n=some (k,z)):z≠0:=by
 unfold outS at h
 split at h
 ·cases h;decide
 ·split at h
  ·cases h;decide
  ·split at h
   ·cases h;decide
   ·cases hs:zbn X t0 n with
    | none=>rw [hs] at h;cases h
    | some r=>rw [hs] at h;cases h;exact stopAt_nzC hs
end CCost
end
section
namespace CCost
open Plain CSat CFix CShape CTensor CConv CKind CGraph CBund
def FewIs (b:Bool) (p:Prop):Prop:=b=true→p
end CCost
end
section
namespace CGuard
open Plain CSat CFix CShape CTensor CConv CSpan CKind CGraph CJoin
theorem cgn_arg {w:World} (x:Nd) (hx:x.Small) (hT:zan w) (l h l2 h2:Int) (bd:(-128≤l∧l≤127)∧(-128≤h∧h≤127)∧(-128≤l2∧l2≤127)∧(-128≤h2∧h2≤127)) (ok:NBd x.Z x.Y x.m1 x.z1 x.m2 x.z2 x.lo x.hi) (he:x.checkZ=0) (hlh:h < l) :
  Calls Tryd.prog 57 #[.agg x.val,.agg #[.int .i8 l,.int .i8 h],.agg #[.int .i8 l2,.int .i8 h2]] w fun e w'=>e=.returned (.tuple #[.agg #[.int .i8 (0),.int .i8 (0)],.int .i64 (2)])∧Below w.heap.size w w':=by
 obtain⟨hg0,hw0⟩:=zat.newC w x l h l2 h2
 have HG:=hid hg0
 have HW:=hid hw0
 have HT:=hid hT
 have hck:=fun (w:World) (hT:zan w)=>zbh x hx w hT
 rw [he] at hck
 have CE1:=hid (fun w:World=>zbu l h w)
 rw [show decide (h < l)=true by simp;omega] at CE1
 have CK:=hid hck
 clear hg0 hw0 hck hT he hlh
 go_enter Tryd.func57,Tryd.ntmps57
 go_upto_region 1 with fail
 generalize (((w.alloc (.cells x.val 67)).alloc (.cells #[.int .i8 l,.int .i8 h] 75)).alloc (.cells #[.int .i8 l2,.int .i8 h2] 75)).alloc (.cells #[.int .i8 0,.int .i8 0] 75)=W0 at HG HW ⊢
 have c0:=HG.out.1.at 0 _ rfl
 have c5:=HG.out.1.at 5 _ rfl
 have c7:=HG.out.1.at 7 _ rfl
 obtain⟨a0,a1⟩:=HG.out.2.1
 obtain⟨b0,b1⟩:=HG.out.2.2.1
 go_wp2_with (refine zac rfl _ rfl w.heap.size x rfl HG.out.1 ?_)
 go_at_call 52
 refine (CK.out _ (HT.out.grown HW.out)).mono ?_
 rintro e w1 ⟨rfl,hb⟩
 replace HG:=hid (HG.out.below hb)
 replace HW:=hid (HW.out.trans (hb.mono HW.out.size))
 clear hb c0 c5 c7 a0 a1 b0 b1
 have c0:=HG.out.1.at 0 _ rfl
 have c5:=HG.out.1.at 5 _ rfl
 have c7:=HG.out.1.at 7 _ rfl
 obtain⟨a0,a1⟩:=HG.out.2.1
 obtain⟨b0,b1⟩:=HG.out.2.2.1
 go_upto_region 4 with (refine zac rfl _ rfl w.heap.size x rfl HG.out.1 ?_)
 refine wp_region_lit ?_
 refine wpList_plain rfl (fun K hK=>?_)
 go_simp
 refine hK _ _ ?_
 clear hK K
 try simp only [Tk.put]
 refine wpList_plain rfl (fun K hK=>?_)
 go_simp
 go_at_call 34
 refine (CE1.out _).mono ?_
 rintro e w2 ⟨rfl,hb⟩
 replace HG:=hid (HG.out.below hb)
 replace HW:=hid (HW.out.trans (hb.mono HW.out.size))
 clear hb c0 c5 c7 a0 a1 b0 b1
 dsimp only
 refine hK _ _ ?_
 clear hK K
 try simp only [Tk.put]
 refine wpList_plain rfl (fun K hK=>?_)
 go_simp
 refine hK _ _ ?_
 clear hK K
 try simp only [Tk.put]
 go_skip
 have c0:=HG.out.1.at 0 _ rfl
 have c5:=HG.out.1.at 5 _ rfl
 have c7:=HG.out.1.at 7 _ rfl
 obtain⟨a0,a1⟩:=HG.out.2.1
 obtain⟨b0,b1⟩:=HG.out.2.2.1
 obtain⟨⟨z0,z1⟩,z2,z3⟩:=HG.out.2.2.2.1
 go_wp2_with (refine zac rfl _ rfl w.heap.size x rfl HG.out.1 ?_)
 refine bodyPost_ret (Kit.zaa rfl _ _ (w.heap.size+3) 0 [.int .i8 (0),.int .i8 (0)] _ rfl (Kit.zaq (by go_cell) (by go_cell)) Tryd.underlying75 rfl (by kernel_rfl)) rfl ?_
 exact⟨rfl,(HW.out.setCell (p:=⟨w.heap.size+3,0,none⟩) (Nat.le_add_right _ _) _).setCell (p:=⟨w.heap.size+3,1,none⟩) (Nat.le_add_right _ _) _⟩
theorem cgn_same9 {w:World} (x:Nd) (hx:x.Small) (hT:zan w) (l h l2 h2:Int) (bd:(-128≤l∧l≤127)∧(-128≤h∧h≤127)∧(-128≤l2∧l2≤127)∧(-128≤h2∧h2≤127)) (ok:NBd x.Z x.Y x.m1 x.z1 x.m2 x.z2 x.lo x.hi) (he:x.checkZ=0) (hk:x.kd=9) (hlh:l≤h) :
  Calls Tryd.prog 57 #[.agg x.val,.agg #[.int .i8 l,.int .i8 h],.agg #[.int .i8 l2,.int .i8 h2]] w fun e w'=>e=.returned (.tuple #[.agg #[.int .i8 (l),.int .i8 (h)],.int .i64 (0)])∧Below w.heap.size w w':=by
 obtain⟨hg0,hw0⟩:=zat.newC w x l h l2 h2
 have HG:=hid hg0
 have HW:=hid hw0
 have HT:=hid hT
 have hck:=fun (w:World) (hT:zan w)=>zbh x hx w hT
 rw [he] at hck
 have CE1:=hid (fun w:World=>zbu l h w)
 rw [show decide (h < l)=false by simp;omega] at CE1
 have dk1:(x.kd == 1)=false:=by simp [hk]
 have dk2:(x.kd == 2)=false:=by simp [hk]
 have dk3:(x.kd == 3)=false:=by simp [hk]
 have dk6:(x.kd == 6)=false:=by simp [hk]
 have dk7:(x.kd == 7)=false:=by simp [hk]
 have dk8:(x.kd == 8)=false:=by simp [hk]
 have CK:=hid hck
 clear hg0 hw0 hck hT he hk hlh
 go_enter Tryd.func57,Tryd.ntmps57
 go_upto_region 1 with fail
 generalize (((w.alloc (.cells x.val 67)).alloc (.cells #[.int .i8 l,.int .i8 h] 75)).alloc (.cells #[.int .i8 l2,.int .i8 h2] 75)).alloc (.cells #[.int .i8 0,.int .i8 0] 75)=W0 at HG HW ⊢
 have c0:=HG.out.1.at 0 _ rfl
 have c5:=HG.out.1.at 5 _ rfl
 have c7:=HG.out.1.at 7 _ rfl
 obtain⟨a0,a1⟩:=HG.out.2.1
 obtain⟨b0,b1⟩:=HG.out.2.2.1
 go_wp2_with (refine zac rfl _ rfl w.heap.size x rfl HG.out.1 ?_)
 go_at_call 52
 refine (CK.out _ (HT.out.grown HW.out)).mono ?_
 rintro e w1 ⟨rfl,hb⟩
 replace HG:=hid (HG.out.below hb)
 replace HW:=hid (HW.out.trans (hb.mono HW.out.size))
 clear hb c0 c5 c7 a0 a1 b0 b1
 have c0:=HG.out.1.at 0 _ rfl
 have c5:=HG.out.1.at 5 _ rfl
 have c7:=HG.out.1.at 7 _ rfl
 obtain⟨a0,a1⟩:=HG.out.2.1
 obtain⟨b0,b1⟩:=HG.out.2.2.1
 go_wp2_with (refine zac rfl _ rfl w.heap.size x rfl HG.out.1 ?_)
 go_at_call 34
 refine (CE1.out _).mono ?_
 rintro e w2 ⟨rfl,hb⟩
 replace HG:=hid (HG.out.below hb)
 replace HW:=hid (HW.out.trans (hb.mono HW.out.size))
 clear hb c0 c5 c7 a0 a1 b0 b1
 have c0:=HG.out.1.at 0 _ rfl
 have c5:=HG.out.1.at 5 _ rfl
 have c7:=HG.out.1.at 7 _ rfl
 obtain⟨a0,a1⟩:=HG.out.2.1
 obtain⟨b0,b1⟩:=HG.out.2.2.1
 obtain⟨⟨z0,z1⟩,z2,z3⟩:=HG.out.2.2.2.1
 go_wp2_with (refine zac rfl _ rfl w.heap.size x rfl HG.out.1 ?_)
 refine bodyPost_ret (Kit.zaa rfl _ _ (w.heap.size+3) 0 [.int .i8 (l),.int .i8 (h)] _ rfl (Kit.zaq (by go_cell) (by go_cell)) Tryd.underlying75 rfl (by kernel_rfl)) rfl ?_
 exact⟨rfl,(HW.out.setCell (p:=⟨w.heap.size+3,0,none⟩) (Nat.le_add_right _ _) _).setCell (p:=⟨w.heap.size+3,1,none⟩) (Nat.le_add_right _ _) _⟩
theorem NdL.belowG {w w':World} {x:Nd} {ws bs:List Int} (h:NdL w w.heap.size x ws bs) (hb:Below w.heap.size w w'):NdL w' w'.heap.size x ws bs :=
 ⟨CBund.NdOk.more (CBund.NdOk.below h.ok hb) hb.size,h.lw,h.lb,h.cw,h.iw,h.ib,(h.rw.below hb).more hb.size,(h.rb.below hb).more hb.size⟩
theorem cgnode_to {w:World} (x:Nd) (hx:x.Small) (hT:zan w) (l h l2 h2:Int) (bd:(-128≤l∧l≤127)∧(-128≤h∧h≤127)∧(-128≤l2∧l2≤127)∧(-128≤h2∧h2≤127)) (ws bs:List Int) (hL:NdL w w.heap.size x ws bs) (hW2:x.nW≤20000) (hB2:x.nB≤20000) :
  Calls Tryd.prog 57 #[.agg x.val,.agg #[.int .i8 l,.int .i8 h],.agg #[.int .i8 l2,.int .i8 h2]] w fun e w'=>e=.returned (.tuple #[.agg #[.int .i8 (gnZ x ws bs l h l2 h2).1,.int .i8 (gnZ x ws bs l h l2 h2).2.1],.int .i64 (gnZ x ws bs l h l2 h2).2.2])∧Below w.heap.size w w':=by
 have ok:=nbd_of hL.ok
 unfold gnZ
 by_cases hc:x.checkZ≠0
 ·rw [if_pos hc];exact cgn_chk x hx hT l h l2 h2 bd ok _ rfl hc
 ·rw [if_neg hc]
  have he:x.checkZ=0:=by omega
  have hkd:=check_kd he
  by_cases hlh:h < l
  ·rw [if_pos (.inl hlh)];exact cgn_arg x hx hT l h l2 h2 bd ok he hlh
  ·by_cases h6:x.kd=6∧h2 < l2
   ·rw [if_pos (.inr h6)];exact cgn_arg6 x hx hT l h l2 h2 bd ok he h6.1 (by omega) h6.2
   ·rw [if_neg (by omega)]
    by_cases hs3:x.kd=1∨x.kd=2∨x.kd=3
    ·rw [if_pos hs3]
     have CS:=fun (w':World) (hb:Below w.heap.size w w')=>csum_to (w:=w') x l h ⟨bd.1,bd.2.1⟩ ok ws bs (NdL.belowG hL hb) hW2 hB2
     change Calls _ _ _ _ fun e w'=>e=.returned (.tuple #[.agg #[.int .i8 (sgZ x ws bs l h).1,.int .i8 (sgZ x ws bs l h).2.1],.int .i64 (sgZ x ws bs l h).2.2])∧Below w.heap.size w w'
     rcases hs3 with k | k | k
     ·exact cgn_sum1 x hx hT l h l2 h2 bd ok he k (by omega) _ _ _ CS
     ·exact cgn_sum2 x hx hT l h l2 h2 bd ok he k (by omega) _ _ _ CS
     ·exact cgn_sum3 x hx hT l h l2 h2 bd ok he k (by omega) _ _ _ CS
    ·rw [if_neg hs3]
     by_cases k6:x.kd=6
     ·rw [if_pos k6];exact cgn_join x hx hT l h l2 h2 bd ok he k6 (by omega) (by omega)
     ·rw [if_neg k6]
      by_cases k7:x.kd=7
      ·rw [if_pos k7];exact cgn_act x hx hT l h l2 h2 bd ok he k7 (by omega)
      ·rw [if_neg k7]
       by_cases k8:x.kd=8∧0 < x.P
       ·rw [if_pos k8];exact cgn_pad x hx hT l h l2 h2 bd ok he k8.1 (by omega) _ _ (fun w=>bord_yes x l h k8.2 w)
       ·rw [if_neg k8]
        by_cases k9:x.kd=8
        ·exact cgn_pad x hx hT l h l2 h2 bd ok he k9 (by omega) _ _ (fun w=>bord_no x l h (fun h=>k8 ⟨k9,h⟩) w)
        ·have:x.kd=4∨x.kd=5∨x.kd=9:=by omega
         rcases this with k | k | k
         ·exact cgn_same4 x hx hT l h l2 h2 bd ok he k (by omega)
         ·exact cgn_same5 x hx hT l h l2 h2 bd ok he k (by omega)
         ·exact cgn_same9 x hx hT l h l2 h2 bd ok he k (by omega)
theorem ndl_of {w:World} {B:Nat} {x:Nd} (h:NdOk w B x):∃ p:List Int × List Int,NdL w B x p.1 p.2:=by
 obtain⟨zs,a1,a2,a3,a4,a5⟩:=h.ws
 obtain⟨ys,b1,b2,b3,b4,b5⟩:=h.bs
 refine⟨(zs,ys),⟨h,a1,b1,⟨a2,b2⟩,?_,?_,a5,b5⟩⟩
 ·intro q
  by_cases hq:q < zs.length
  ·have e:zs.getD q 0=zs[q]:=by rw [List.getD_eq_getElem?_getD,List.getElem?_eq_getElem hq];rfl
   rw [e]
   simpa [Lit.wf,IntKind.min,IntKind.max,IntKind.signed,IntKind.bits] using a4 _ (List.getElem_mem hq)
  ·rw [List.getD_eq_getElem?_getD,List.getElem?_eq_none (Nat.le_of_not_lt hq)];exact⟨by decide,by decide⟩
 ·intro q
  by_cases hq:q < ys.length
  ·have e:ys.getD q 0=ys[q]:=by rw [List.getD_eq_getElem?_getD,List.getElem?_eq_getElem hq];rfl
   rw [e]
   simpa [Lit.wf,IntKind.min,IntKind.max,IntKind.signed,IntKind.bits] using b4 _ (List.getElem_mem hq)
  ·rw [List.getD_eq_getElem?_getD,List.getElem?_eq_none (Nat.le_of_not_lt hq)];exact⟨by decide,by decide⟩
theorem chead_no (WA BA:Option Addr) (nW cW nB cB:Nat) (ws bs:List Int) (hws:ws.length=nW) (hbs:bs.length=nB) (hwb:I8b ws) (hbb:∀ q, -2147483648≤bs.getD q 0∧bs.getD q 0≤2147483647) (hcw:nW≤cW) (hcb:nB≤cB) (hW2:nW≤20000) (hB2:nB≤20000) (l h:Int) (l1 : -128≤l) (l2:l≤127) (h1 : -128≤h) (h2:h≤127) (D:Int) (w:World) (hrw:Kit.Rd w w.heap.size WA (I8s ws)) (hrb:Kit.Rd w w.heap.size BA (I32v bs)) (hs:¬ (1≤nB∧nW % nB=0)) :
  Calls Tryd.prog 38 #[.agg #[.slice WA nW cW,.slice BA nB cB,.int .i32 D],.agg #[.int .i8 l,.int .i8 h]] w fun e w'=>e=.returned (.int .i64 9)∧Below w.heap.size w w':=by
 have CA:=hid (fun w:World=>call_no (.int .i64 3) (.int .i64 0) (.int .i64 0) 0 0 0 0 0 0 WA BA nW cW nB cB 0 0 0 0 0 0 0 0 l h (by by_cases h0:nB=0;exact .inl h0;exact .inr (fun e=>hs ⟨by omega,e⟩)) (by omega) (by omega) w)
 clear hrw hrb hs
 have hb1:Below w.heap.size w ((w.alloc (.cells #[.slice WA nW cW,.slice BA nB cB,.int .i32 D] 26)).alloc (.cells #[.int .i8 l,.int .i8 h] 75)):=((Below.refl _ _).alloc (le_refl _) _).alloc (by simp) _
 have HB0:=hid hb1
 clear hb1
 go_enter Tryd.func38,Tryd.ntmps38
 go_wp2_with (first
  | (go_at_call 59
     refine (CA.out _).mono ?_
     rintro e w1 ⟨A,c,rfl,hb⟩
     have HB1:=hid (HB0.out.trans (hb.mono HB0.out.size))
     clear hb))
 go_ret
 exact⟨rfl,HB1.out⟩
theorem chead_yes (WA BA:Option Addr) (nW cW nB cB:Nat) (ws bs:List Int) (hws:ws.length=nW) (hbs:bs.length=nB) (hwb:I8b ws) (hbb:∀ q, -2147483648≤bs.getD q 0∧bs.getD q 0≤2147483647) (hcw:nW≤cW) (hcb:nB≤cB) (hW2:nW≤20000) (hB2:nB≤20000) (l h:Int) (l1 : -128≤l) (l2:l≤127) (h1 : -128≤h) (h2:h≤127) (D:Int) (w:World) (hrw:Kit.Rd w w.heap.size WA (I8s ws)) (hrb:Kit.Rd w w.heap.size BA (I32v bs)) (hs:1≤nB∧nW % nB=0) (f:Bool) (hf:fitB (lsW ws bs nW nB l h 0 false) (grW ws bs nW nB l h 0 false)=f) (z:Int) (hz:(if f=true then (0:Int) else 10)=z) :
  Calls Tryd.prog 38 #[.agg #[.slice WA nW cW,.slice BA nB cB,.int .i32 D],.agg #[.int .i8 l,.int .i8 h]] w fun e w'=>e=.returned (.int .i64 z)∧Below w.heap.size w w':=by
 have CA:Hid (∀ wx,Below w.heap.size w wx→Calls Tryd.prog 59 #[.agg #[.int .i64 3,.int .i64 0,.int .i64 0,.int .i64 0,.int .i64 0,.int .i64 0,.int .i64 0,.int .i8 0,.int .i8 0,.slice WA nW cW,.slice BA nB cB,.int .i32 0,.int .i64 0,.int .i8 0,.int .i32 0,.int .i64 0,.int .i8 0,.int .i8 0,.int .i8 0],.int .i8 l,.int .i8 h] wx fun e w'=>∃ A c P Q,e=.returned (.slice A nB c)∧Hid (Kit.Rd w' w'.heap.size A (pairV P Q nB))∧Hid (holdF P Q nB=f)∧Below wx.heap.size wx w'):=hid (fun wx hb=>by
  refine (call_yes (.int .i64 3) (.int .i64 0) (.int .i64 0) 0 0 0 0 0 0 WA BA nW cW nB cB 0 0 0 0 0 0 0 0 ws bs hws hbs hwb hbb hcw hcb l h l1 l2 h1 h2 (by decide) (by decide) (nW / nB) hs.1 (za2 hs) (by omega) (by omega) false rfl wx ((hrw.below hb).more hb.size) ((hrb.below hb).more hb.size)).mono ?_
  rintro e w' ⟨v,rfl,hown,hb'⟩
  obtain⟨A,c,rfl, -, -,hrd⟩:=Kit.own_rd hown
  obtain⟨m,hm⟩:∃ m,nB=m+1:=⟨nB - 1,by omega⟩
  refine⟨A,c,_,_,rfl,hid hrd,hid ?_,hb'⟩
  rw [← hf]
  unfold lsW grW
  rw [lsR_lo,grR_hi,hm]
  exact hold_fit _ _ m)
 have n1:((nB:Int) == 0)=false:=by simp;omega
 have n2:¬ (nB:Int)=0:=by omega
 have HN:=hid hB2
 clear hrw hrb hs hf hws hbs hwb hbb
 have hb1:Below w.heap.size w ((w.alloc (.cells #[.slice WA nW cW,.slice BA nB cB,.int .i32 D] 26)).alloc (.cells #[.int .i8 l,.int .i8 h] 75)):=((Below.refl _ _).alloc (le_refl _) _).alloc (by simp) _
 have HB0:=hid hb1
 clear hb1
 go_enter Tryd.func38,Tryd.ntmps38
 go_upto_region 4 with (go_at_call 59;(refine (CA.out _ HB0.out).mono ?_);rintro e w1 ⟨A,c,P,Q,rfl,HR,HF,hb⟩;(have HB1:=hid (HB0.out.trans (hb.mono HB0.out.size)));clear hb)
 have CH:=hid (cholds_to A P Q nB c (by have:=HN.out;omega) w1 HR.out)
 rw [HF.out] at CH
 clear HR HF CA
 cases f
 ·obtain rfl:(10:Int)=z:=by simpa using hz
  go_wp2_with (go_at_call 60;(refine CH.out.mono ?_);rintro e w2 ⟨rfl,hb⟩;(have HB2:=hid (HB1.out.trans (hb.mono HB1.out.size)));clear hb)
  go_ret
  exact⟨rfl,HB2.out⟩
 ·obtain rfl:(0:Int)=z:=by simpa using hz
  go_wp2_with (go_at_call 60;(refine CH.out.mono ?_);rintro e w2 ⟨rfl,hb⟩;(have HB2:=hid (HB1.out.trans (hb.mono HB1.out.size)));clear hb)
  go_ret
  exact⟨rfl,HB2.out⟩
theorem chead_to (WA BA:Option Addr) (nW cW nB cB:Nat) (ws bs:List Int) (hws:ws.length=nW) (hbs:bs.length=nB) (hwb:I8b ws) (hbb:∀ q, -2147483648≤bs.getD q 0∧bs.getD q 0≤2147483647) (hcw:nW≤cW) (hcb:nB≤cB) (hW2:nW≤20000) (hB2:nB≤20000) (l h:Int) (l1 : -128≤l) (l2:l≤127) (h1 : -128≤h) (h2:h≤127) (D:Int) (w:World) (hrw:Kit.Rd w w.heap.size WA (I8s ws)) (hrb:Kit.Rd w w.heap.size BA (I32v bs)) :
  Calls Tryd.prog 38 #[.agg #[.slice WA nW cW,.slice BA nB cB,.int .i32 D],.agg #[.int .i8 l,.int .i8 h]] w fun e w'=>e=.returned (.int .i64 (headZ ws bs nW nB l h))∧Below w.heap.size w w':=by
 unfold headZ
 by_cases hs:1≤nB∧nW % nB=0
 ·rw [if_pos hs]
  exact chead_yes WA BA nW cW nB cB ws bs hws hbs hwb hbb hcw hcb hW2 hB2 l h l1 l2 h1 h2 D w hrw hrb hs _ rfl _ rfl
 ·rw [if_neg hs]
  exact chead_no WA BA nW cW nB cB ws bs hws hbs hwb hbb hcw hcb hW2 hB2 l h l1 l2 h1 h2 D w hrw hrb hs
end CGuard
end
section
namespace CGraph
open Plain CSat CFix CShape CTensor CConv CKind
def FewPost2 (X:Nat→Nd) (n:Nat) (w:World) (e:Ending) (w':World):Prop:=∃ b:Bool,e=.returned (.bool b)∧(b=true→n≤12∧∀ i,i < n→(X i).nW≤1000∧(X i).nB≤100)∧Below w.heap.size w w'
theorem few2_to (X:Nat→Nd) (n c:Nat) (A:Option Addr) (w:World) (hA:NodesAt w w.heap.size A n X) :
  Calls Tryd.prog 10 #[.slice A n c,.agg #[.int .i64 0,.int .i64 0,.int .i64 0,.slice none 0 0]] w (FewPost2 X n w):=by
 have HA:=hid hA
 have HB0:=hid ((Below.refl w.heap.size w).alloc (le_refl _) (.cells #[.int .i64 0,.int .i64 0,.int .i64 0,.slice none 0 0] 47))
 have q3:(w.alloc (.cells #[.int .i64 0,.int .i64 0,.int .i64 0,.slice none 0 0] 47)).cell? ⟨w.heap.size,3,none⟩=some (.slice none 0 0):=by rw [Kit.zal];rfl
 clear hA
 go_enter Tryd.func10,Tryd.ntmps10
 go_upto_region 1 with fail
 generalize w.alloc (.cells #[.int .i64 0,.int .i64 0,.int .i64 0,.slice none 0 0] 47)=W0 at HB0 q3 ⊢
 by_cases h:n≤12
 ·have h2:¬ (n:Int) > 12:=by omega
  go_wp2_with fail
  go_loop [5] (fun u=>∃ i:Nat,i≤n∧u=.int .i64 i∧Hid (∀ j,j < i→(X j).nW≤1000∧(X j).nB≤100)) (fun u=>n - (intOf u).toNat)
  case atStart=>exact⟨0,Nat.zero_le _,rfl,hid (fun j hj=>by omega)⟩
  case round =>
   obtain⟨i,hi,rfl,HI⟩:=hrel
   by_cases hlt:i < n
   ·obtain⟨ba,oa,rfl,hba,hra⟩:=(HA.out.below HB0.out) i hlt
    have i1:(i:Int) < (n:Int):=by omega
    have ib:(0:Int)≤(i:Int):=by omega
    have c9:=hra 9 (.slice (X i).WA (X i).nW (X i).cW) rfl
    have c10:=hra 10 (.slice (X i).BA (X i).nB (X i).cB) rfl
    clear hra hba
    obtain⟨x,hx⟩:∃ x,X i=x:=⟨_,rfl⟩
    rw [hx] at c9 c10
    have HXX:=hid hx
    clear hx
    by_cases a1:(x.nW:Int) > 1000
    ·go_wp2_with fail
     go_ret
     exact⟨false,rfl,fun h=>(nomatch h),HB0.out⟩
    ·by_cases a2:(x.nB:Int) > 100
     ·go_wp2_with fail
      go_ret
      exact⟨false,rfl,fun h=>(nomatch h),HB0.out⟩
     ·go_wp2_with fail
      go_round
      case rel=>exact⟨i+1,by omega,by go_num,hid (fun j hj=>by
       rcases (show j < i∨j=i by omega) with h7 | rfl
       ·exact HI.out j h7
       ·rw [HXX.out];exact⟨by omega,by omega⟩)⟩
      case measure=>simp [intOf];omega
   ·obtain rfl:i=n:=by omega
    go_wp2_with fail
    go_ret
    exact⟨true,rfl,fun _=>⟨h,HI.out⟩,HB0.out⟩
 ·have h2:(n:Int) > 12:=by omega
  go_wp2_with fail
  go_ret
  exact⟨false,rfl,fun h=>(nomatch h),HB0.out⟩
end CGraph
end
end Go.Proofs.YtoffcaldhojjoaaDoor
