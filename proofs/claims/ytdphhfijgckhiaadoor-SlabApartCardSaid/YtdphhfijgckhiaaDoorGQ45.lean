/- -/
import Derived.Test.YtdphhfijgckhiaaDoorGQ37
import Derived.Test.YtdphhfijgckhiaaDoorGQ38
import Derived.Test.YtdphhfijgckhiaaDoorGQ44
open Go.Lib (hid)
open Nat (le_refl lt_of_succ_lt lt_succ_self)
set_option linter.unusedVariables false
set_option linter.unusedSimpArgs false
set_option maxRecDepth 100000
set_option maxHeartbeats 16000000
namespace Go.Proofs.YtdphhfijgckhiaaDoor
namespace CConv
end CConv
namespace CFix
end CFix
namespace CKind
end CKind
namespace CShape
end CShape
namespace CTensor
end CTensor
open Go Go.ChangeShapes Go.WideShapes Go.ChangeAt Go.RowKit Go.Deep
section
namespace CSlab
open Plain CSat CFix CShape CTensor CConv CKind CGraph
def szF (X:Nat→Nd) (t0:Tri) (n k:Nat):Int:=let a:=(shL X t0 n).getD k tri0;zak a.1 a.2.1 a.2.2
theorem szF_bd (X:Nat→Nd) (t0:Tri) (n k:Nat):0≤szF X t0 n k∧szF X t0 n k≤1024:=elemsZ_bd _ _ _
theorem szF_at {X:Nat→Nd} {t0:Tri} {n k:Nat} {a:Tri} (h:(shL X t0 n)[k]?=some a):zak a.1 a.2.1 a.2.2=szF X t0 n k:=by
 unfold szF;rw [List.getD_eq_getElem?_getD,h];rfl
def atF (X:Nat→Nd) (t0:Tri) (n:Nat):Nat→Int:=CArena.plc (szF X t0 n) (lastZ X n)
def rmF (X:Nat→Nd) (t0:Tri) (n:Nat):Int:=CArena.roomZ (szF X t0 n) (atF X t0 n) (n+1)
def OfPost (X:Nat→Nd) (t0:Tri) (n:Nat) (w:World) (e:Ending) (w':World):Prop :=
 ((∃ k z,outS X t0 n=some (k,z)∧e=.returned (.tuple #[.agg #[.slice none 0 0,.slice none 0 0,.int .i64 0],.int .i64 k,.int .i64 z])) ∨
   (outS X t0 n=none∧∃ v1 v2,e=.returned (.tuple #[.agg #[v1,v2,.int .i64 (rmF X t0 n)],.int .i64 (n:Int),.int .i64 0])∧w'.ownsRow w.heap.size 24 3 v1 (n+1) (tvV (shL X t0 n))∧w'.ownsRow w.heap.size 3 1 v2 (n+1) (CArena.rowV (atF X t0 n) (n+1))))∧Below w.heap.size w w'
theorem results_ctt {P:Program} {fn:Func} {p u v:Tmp} {ty:TypeId} (h:fn.results=#[.cell p ty,.tmp u,.tmp v]) (tmps:Array Value) (w:World) (b o:Nat) (cs:List Value) (d:TypeDesc)
  (hp:tmps.getD p undef=.pointer (some ⟨b,o,none⟩)) (hc:w.rangeAt b o cs) (hu:P.underlying ty=some d) (hd:d.isRow=true) (hi:(P.info? ty).map (·.size)=some cs.length) :
  (results fn tmps).run P w=.ok (.tuple #[.agg cs.toArray,tmps.getD u undef,tmps.getD v undef]) w:=by
 have hp':tmps[p]?.getD undef=.pointer (some ⟨b,o,none⟩):=by simpa using hp
 simp [results,h,hp',asAddr,run_loadVar_mid w b o ty cs d hc hu hd hi]
def FreshP (B:Nat) (wd:World):Prop :=
 (wd.cell? ⟨B,0,none⟩=some (.slice none 0 0)∧wd.cell? ⟨B,1,none⟩=some (.slice none 0 0)∧wd.cell? ⟨B,2,none⟩=some (.int .i64 0)) ∧
 wd.frozen? ⟨B,0,none⟩=false∧wd.frozen? ⟨B,1,none⟩=false∧wd.frozen? ⟨B,2,none⟩=false
theorem FreshP.new (T:TypeId) (w:World):FreshP w.heap.size (w.alloc (.cells #[.slice none 0 0,.slice none 0 0,.int .i64 0] T)) :=
 ⟨⟨Kit.zaf _ _ _ _,Kit.zaf _ _ _ _,Kit.zaf _ _ _ _⟩,World.frozen?_alloc_at _ _ _ _ rfl,World.frozen?_alloc_at _ _ _ _ rfl,World.frozen?_alloc_at _ _ _ _ rfl⟩
theorem FreshP.below {B B':Nat} {w w':World} (h:FreshP B w) (hB:B < B') (hb:Below B' w w'):FreshP B w':=by
 obtain⟨⟨h1,h2,h3⟩,h5,h6,h7⟩:=h
 exact⟨⟨(hb.cell (p:=⟨B,0,none⟩) hB).trans h1,(hb.cell (p:=⟨B,1,none⟩) hB).trans h2,(hb.cell (p:=⟨B,2,none⟩) hB).trans h3⟩,
  (hb.frozen (p:=⟨B,0,none⟩) hB).trans h5,(hb.frozen (p:=⟨B,1,none⟩) hB).trans h6,(hb.frozen (p:=⟨B,2,none⟩) hB).trans h7⟩
theorem stopAt_nz {X:Nat→Nd} {t0:Tri} : ∀ {n:Nat} {r:Nat × Int},zat X t0 n=some r→r.2≠0
 | 0,r,h=>by cases h
 | n+1,r,h=>by
   rw [zat] at h
   cases hs:zat X t0 n with
   | some q=>rw [hs] at h;cases h;exact stopAt_nz hs
   | none =>
     rw [hs] at h
     dsimp only at h
     split at h
     ·cases h
     ·rename_i hz;cases h;exact hz
theorem outS_nz {X:Nat→Nd} {t0:Tri} {n:Nat} {k z:Int} (h:outS X t0 n=some (k,z)):z≠0:=by
 unfold outS at h
 split at h
 ·cases h;decide
 ·split at h
  ·cases h;decide
  ·split at h
   ·cases h;decide
   ·cases hs:zat X t0 n with
    | none=>rw [hs] at h;cases h
    | some r=>rw [hs] at h;cases h;exact stopAt_nz hs
theorem own_setS {w:World} {base:Nat} {e:TypeId} {size n:Nat} {v:Value} {xs:List Value} (h:w.ownsRow base e size v n xs) (a:Addr) (u:Value) (ha:a.block < base):(w.setCell a u).ownsRow base e size v n xs:=by
 refine h.kept (row:=some a.block) ⟨rfl,rfl,rfl,by simp,fun k _ hk=>Below.heap_setCell _ _ _ k (fun e=>hk (by rw [e]))⟩ ?_
 cases hv:v.ownBlock with
 | none=>exact .inl rfl
 | some q=>exact .inr (fun e=>by have:=Kit.zax h q hv;cases e;omega)
theorem own_set3 {w:World} {base g:Nat} {e:TypeId} {size n:Nat} {v:Value} {xs:List Value} {x y z:Value} (h:w.ownsRow base e size v n xs) (hg:g < base):(((w.setCell ⟨g,0,none⟩ x).setCell ⟨g,1,none⟩ y).setCell ⟨g,2,none⟩ z).ownsRow base e size v n xs :=
 own_setS (own_setS (own_setS h _ _ hg) _ _ hg) _ _ hg
theorem of_to (X:Nat→Nd) (t0:Tri) (n c:Nat) (hn:n≤50) (A:Option Addr) (w:World) (hT:zam w) (hX:∀ j,j < n→(X j).Small) (hA:zaq w w.heap.size A n X) :
  Calls Tryd.prog 7 #[.slice A n c,.agg #[.int .i64 t0.1,.int .i64 t0.2.1,.int .i64 t0.2.2]] w (OfPost X t0 n w):=by
 have HT:=hid hT
 have HA:=hid hA
 have HX:=hid hX
 have hb1:=(Below.refl w.heap.size w).alloc (le_refl _) (.cells #[.int .i64 t0.1,.int .i64 t0.2.1,.int .i64 t0.2.2] 24)
 have hb2:=hb1.alloc hb1.size (.cells #[.slice none 0 0,.slice none 0 0,.int .i64 0] 33)
 have HB0:=hid hb2
 have hfp:=FreshP.new 33 (w.alloc (.cells #[.int .i64 t0.1,.int .i64 t0.2.1,.int .i64 t0.2.2] 24))
 rw [World.size_alloc] at hfp
 have HFP:=hid hfp
 have HSZ:Hid (w.heap.size+2≤((w.alloc (.cells #[.int .i64 t0.1,.int .i64 t0.2.1,.int .i64 t0.2.2] 24)).alloc (.cells #[.slice none 0 0,.slice none 0 0,.int .i64 0] 33)).heap.size):=hid (by simp)
 obtain⟨i0,hi0,hi1,hi2,hi3⟩:=CGraph.info_parts info_int
 have hsh:=fun (wx:World) (hT:zam wx) (hA:zaq wx wx.heap.size A n X)=>cshapes_to X t0 n c hn A wx hT hX hA
 have CSH:=hid hsh
 have hcl:=fun (wx:World) (hA:zaq wx wx.heap.size A n X)=>clast_to X n c hn A wx hA
 have CL:=hid hcl
 obtain⟨S,hS⟩:∃ S,szF X t0 n=S:=⟨_,rfl⟩
 have hSb:∀ k,0≤S k∧S k≤1024:=fun k=>by rw [← hS];exact szF_bd X t0 n k
 have hcp:=fun (A1 A2:Option Addr) (c1 c2:Nat) (wx:World) (h1:Kit.Rd wx wx.heap.size A1 (CArena.rowV S (n+1))) (h2:Kit.Rd wx wx.heap.size A2 (CArena.rowV (lastZ X n) (n+1))) =>
  CArena.place_yes S (lastZ X n) (n+1) c1 c2 (by omega) (fun k _=>⟨(hSb k).1,by have:=(hSb k).2;omega⟩) A1 A2 wx h1 h2
 have CP:=hid hcp
 have HS:=hid hS
 have hp:CArena.plc S (lastZ X n)=atF X t0 n:=by unfold atF;rw [hS]
 have hr:CArena.roomZ S (CArena.plc S (lastZ X n)) (n+1)=rmF X t0 n:=by unfold rmF;rw [hp,hS]
 have HP:=hid hp
 have HRM:=hid hr
 have c0:=hb1
 clear hT hX hA hb1 hb2 hfp hsh hcl hcp hS hp hr c0 hSb
 go_enter Tryd.func7,Tryd.ntmps7
 go_upto_region 1 with fail
 have Q0:((w.alloc (.cells #[.int .i64 t0.1,.int .i64 t0.2.1,.int .i64 t0.2.2] 24)).alloc (.cells #[.slice none 0 0,.slice none 0 0,.int .i64 0] 33)).rangeAt w.heap.size 0 [.int .i64 t0.1,.int .i64 t0.2.1,.int .i64 t0.2.2] :=
  Kit.zae (by go_cell) (by go_cell) (by go_cell)
 have q0:=Q0 0 _ rfl
 have q1:=Q0 1 _ rfl
 have q2:=Q0 2 _ rfl
 simp only [Nat.zero_add,Nat.add_zero] at q0 q1 q2
 clear Q0
 generalize (w.alloc (.cells #[.int .i64 t0.1,.int .i64 t0.2.1,.int .i64 t0.2.2] 24)).alloc (.cells #[.slice none 0 0,.slice none 0 0,.int .i64 0] 33)=W0 at q0 q1 q2 HB0 HFP HSZ ⊢
 go_wp2_with fail
 go_at_call 13
 refine (CSH.out _ (HT.out.below HB0.out HT.out.size) ((HA.out.below HB0.out).more HB0.out.size)).mono ?_
 rintro e w2 ⟨hres,hb⟩
 have HB2:=hid (HB0.out.trans (hb.mono HB0.out.size))
 replace HFP:=hid (HFP.out.below (B':=W0.heap.size) (by have:=HSZ.out;omega) hb)
 have HSZ2:=hid (Nat.le_trans HSZ.out hb.size)
 have HW0:=hid HSZ.out
 have HRES:=hid hres
 clear hb hres q0 q1 q2 HSZ
 rcases HRES.out with ⟨k,z,hs,rfl⟩ | ⟨hs,v,rfl,hown⟩
 ·obtain⟨⟨z0,z1,z2⟩,z4,z5,z6⟩:=HFP.out
  have hz:z≠0:=outS_nz hs
  have hz1:(z != 0)=true:=by simpa using hz
  have HS9:=hid hs
  clear hs HRES
  go_wp2_with fail
  refine bodyPost_ret (results_ctt rfl _ _ (w.heap.size+1) 0 [.slice none 0 0,.slice none 0 0,.int .i64 0] _ rfl (Kit.zae (by go_cell) (by go_cell) (by go_cell)) Tryd.underlying33 rfl (by kernel_rfl)) rfl ?_
  exact⟨.inl ⟨k,z,HS9.out,rfl⟩,((HB2.out.setCell (p:=⟨w.heap.size+1,0,none⟩) (by simp) _).setCell (p:=⟨w.heap.size+1,1,none⟩) (by simp) _).setCell (p:=⟨w.heap.size+1,2,none⟩) (by simp) _⟩
 ·obtain⟨A5,c5,rfl, -, -,hrd⟩:=Kit.zba hown
  have HOS:=hid (Kit.own_base hown HW0.out)
  have HRS:=hid hrd
  have HS9:=hid hs
  clear hown hrd hs HRES
  go_wp2_with fail
  have n1:((n+1:Nat):Int)=(n:Int)+1:=by omega
  go_loopw [10,30] (fun v u wr=>∃ k:Nat,k≤n+1∧u=.int .i64 k∧Hid (wr.ownsRow w2.heap.size 3 1 v k (CArena.rowV S k))∧Hid (Below w2.heap.size w2 wr)) (fun _ u _=>n+1 - (intOf u).toNat)
  case atStart=>exact⟨0,Nat.zero_le _,rfl,hid (by simpa [CArena.rowV] using World.ownsRow_nil _ _ _ _),hid (Below.refl _ _)⟩
  case round =>
   obtain⟨k,hk,rfl,HO,HB⟩:=hrel
   by_cases hlt:k < n+1
   ·obtain⟨a,ha, -⟩:=tvV_at (L:=shL X t0 n) (k:=k) (shL_len X t0 n) hlt
    have hsa:=szF_at ha
    rw [HS.out] at hsa
    obtain⟨b5,o5,rfl,x5,h5⟩:=tv_cells HRS.out (by rw [shL_len];omega)
    have r5:=h5 k a ha
    have g0:=(HB.out.cell (p:=⟨b5,o5+k * 3,none⟩) x5).trans (r5 0 _ rfl)
    have g1:=(HB.out.cell (p:=⟨b5,o5+k * 3+1,none⟩) x5).trans (r5 1 _ rfl)
    have g2:=(HB.out.cell (p:=⟨b5,o5+k * 3+2,none⟩) x5).trans (r5 2 _ rfl)
    have k0:(0:Int)≤(k:Int):=by omega
    have k1:(k:Int) < ((n+1:Nat):Int):=by omega
    have k2:(k:Int) < (n:Int)+1:=by omega
    obtain⟨Av,cv,rfl, -, -, -⟩:=Kit.zba HO.out
    have CE:=hid (fun wx:World=>zbc a.1 a.2.1 a.2.2 (S k) hsa wx)
    clear ha hsa h5 r5 x5
    go_wp2_with (first
     | (go_at_call 14
        refine (CE.out _).mono ?_
        rintro e w3 ⟨rfl,hb3⟩
        have hh:Below wr.heap.size wr w3:=((Below.refl _ _).alloc (le_refl _) _).trans (hb3.mono (by simp))
        have HB3:=hid (HB.out.trans (hh.mono HB.out.size))
        have HO3:=hid (Kit.own_below HO.out hh)
        clear hb3 hh g0 g1 g2)
     | (at_builtin
        refine Kit.zau _ rfl (.tmp 34) (.tmp 37) _ rfl w2.heap.size 3 i0 (.int .i64 0) 1 8 Tryd.underlying31 hi0 hi1 hi2 hi3 rfl (by decide) _ k (CArena.rowV S k) rfl (HO3.out.alloc _) _ _ 1 1 [.int .i64 (S k)] rfl rfl (Kit.Rd.new _ _ _ (lt_succ_self _)) (Kit.ints_one .i64 [S k]) (by unfold maxLen;omega) (by omega) (by have:=HB3.out.size;simp;omega) ?_
        intro v5 w5 hown5 hg5 _
        have hB5:Below w2.heap.size w2 w5:=(HB3.out.alloc HB3.out.size _).grown hg5 (by have:=HB3.out.size;simp;omega) (fun q hq=>Kit.zax HO3.out q hq)
        rw [CArena.rowV_succ S k (S k) rfl] at hown5
        have HO5:=hid hown5
        have HB5:=hid hB5
        clear hown5 hg5 hB5))
    go_roundw
    case rel=>exact⟨k+1,by omega,by go_num,HO5,HB5⟩
    case measure=>simp [intOf];omega
   ·obtain rfl:k=n+1:=by omega
    obtain⟨Av,cv,rfl, -, -,hrd⟩:=Kit.zba HO.out
    have HRD:=hid hrd
    clear hrd
    have HBT:=hid (HB2.out.trans (HB.out.mono HB2.out.size))
    obtain⟨g,hg⟩:∃ g,w2.heap.size=g:=⟨_,rfl⟩
    go_wp2_with fail
    go_at_call 16
    refine (CL.out _ ((HA.out.below HBT.out).more HBT.out.size)).mono ?_
    rintro e w4 ⟨A7,c7,rfl,hr7,hb4⟩
    have HR7:=hid (show Kit.Rd w4 w4.heap.size A7 (CArena.rowV (lastZ X n) (n+1)) from hr7)
    have HB4:=hid (HB.out.trans (hb4.mono HB.out.size))
    replace HRD:=hid ((HRD.out.below hb4).more hb4.size)
    clear hr7 hb4 HBT
    go_wp2_with fail
    go_at_call 15
    refine (CP.out _ _ _ _ _ HRD.out HR7.out).mono ?_
    rintro e w5 ⟨v5,rfl,hown5,hb5⟩
    have HB5:=hid (HB4.out.trans (hb5.mono HB4.out.size))
    rw [HRM.out]
    rw [HP.out] at hown5
    have HO5:=hid (Kit.own_base hown5 (show w.heap.size+2≤_ from Nat.le_trans HSZ2.out HB4.out.size))
    have HO1:=hid (Kit.own_below HOS.out HB5.out)
    replace HFP:=hid (HFP.out.below (B':=w2.heap.size) (by have:=HSZ2.out;omega) HB5.out)
    have HBA:=hid (HB2.out.trans (HB5.out.mono HB2.out.size))
    obtain⟨A9,c9,rfl, -, -, -⟩:=Kit.zba hown5
    clear hown5 hb5 HB4 HB5 HB HO HRD HR7 HOS HRS
    obtain⟨⟨z0,z1,z2⟩,z4,z5,z6⟩:=HFP.out
    go_wp2_with fail
    refine bodyPost_ret (results_ctt rfl _ _ (w.heap.size+1) 0 [.slice A5 (n+1) c5,.slice A9 (n+1) c9,.int .i64 (rmF X t0 n)] _ rfl (Kit.zae (by go_cell) (by go_cell) (by go_cell)) Tryd.underlying33 rfl (by kernel_rfl)) rfl ?_
    exact⟨.inr ⟨HS9.out,_,_,rfl,Kit.own_base (own_set3 HO1.out (by omega)) (by omega),Kit.own_base (own_set3 HO5.out (by omega)) (by omega)⟩,((HBA.out.setCell (p:=⟨w.heap.size+1,0,none⟩) (by simp) _).setCell (p:=⟨w.heap.size+1,1,none⟩) (by simp) _).setCell (p:=⟨w.heap.size+1,2,none⟩) (by simp) _⟩
end CSlab
end
end Go.Proofs.YtdphhfijgckhiaaDoor
