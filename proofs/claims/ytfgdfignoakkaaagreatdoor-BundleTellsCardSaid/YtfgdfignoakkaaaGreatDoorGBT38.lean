/- -/
import Derived.Test.YtfgdfignoakkaaaGreatDoorGBT32
open Go.Lib (hid)
open Nat (le_refl lt_of_succ_lt lt_succ_self)
set_option linter.unusedVariables false
set_option linter.unusedSimpArgs false
set_option maxRecDepth 100000
set_option maxHeartbeats 16000000
namespace Go.Proofs.YtfgdfignoakkaaaGreatDoor
namespace CConv
end CConv
namespace CFix
end CFix
namespace CGraph
end CGraph
namespace CJoin
end CJoin
namespace CKind
end CKind
namespace CSat
end CSat
namespace CShape
end CShape
namespace CSpan
end CSpan
namespace CTensor
end CTensor
open Go Go.ChangeShapes Go.WideShapes Go.ChangeAt Go.RowKit Go.Deep
section
namespace CGuard
open Plain CSat CFix CShape CTensor CConv CSpan CKind CGraph CJoin
theorem gear_to (v m:Int) (w:World):Calls Tryz.prog 148 #[.int .i64 v,.int .i64 m] w fun e w'=>e=.returned (.bool (decide (0≤v∧v < m)))∧w=w':=by
 by_cases h:0≤v
 ·by_cases h2:v < m
  ·rw [show decide (0≤v∧v < m)=true by simp;omega]
   go_enter Tryz.func148,Tryz.ntmps148
   go_wp2_with fail
   go_ret
   exact⟨rfl,rfl⟩
  ·rw [show decide (0≤v∧v < m)=false by simp;omega]
   go_enter Tryz.func148,Tryz.ntmps148
   go_wp2_with fail
   go_ret
   exact⟨rfl,rfl⟩
 ·rw [show decide (0≤v∧v < m)=false by simp;omega]
  go_enter Tryz.func148,Tryz.ntmps148
  go_wp2_with fail
  go_ret
  exact⟨rfl,rfl⟩
def nxZ (y:NdW) (L:List Rch):Int × Int × Int:=if zb2 y.1 L.length=false then (0,0,8) else nodeG y L
def NxtAt (g:Nat) (x:Nd) (wd:World):Prop:=NdAt g x wd∧FreshR (g+1) wd∧g+2≤wd.heap.size
theorem NxtAt.new (w:World) (x:Nd):NxtAt w.heap.size x ((w.alloc (.cells x.val 54)).alloc (.cells #[.int .i8 0,.int .i8 0] 172))∧Below w.heap.size w ((w.alloc (.cells x.val 54)).alloc (.cells #[.int .i8 0,.int .i8 0] 172)):=by
 have b2:Below (w.heap.size+1) (w.alloc (.cells x.val 54)) ((w.alloc (.cells x.val 54)).alloc (.cells #[.int .i8 0,.int .i8 0] 172)):=(Below.refl _ _).alloc (by simp) _
 have q:=FreshR.new 172 (w.alloc (.cells x.val 54))
 rw [World.size_alloc] at q
 exact⟨⟨(NdAt.new x 54 w).below (lt_succ_self _) b2,q,by simp⟩,((Below.refl _ _).alloc (le_refl _) _).trans (b2.mono (by omega))⟩
theorem cnx_na6 (x:Nd) (A:Option Addr) (m c:Nat) (hm:m≤50) (hk:x.kd=6) (h:¬ (0≤x.na∧x.na < (m:Int))) (w:World) :
  Calls Tryz.prog 131 #[.slice A m c,.agg x.val] w fun e w'=>e=.returned (.tuple #[.agg #[.int .i8 0,.int .i8 0],.int .i64 8])∧Below w.heap.size w w':=by
 have k6:(x.kd == 6)=true:=by simp [hk]
 have CE:Hid (∀ w:World,Calls Tryz.prog 148 #[.int .i64 x.na,.int .i64 (m:Int)] w fun e w'=>e=.returned (.bool false)∧w=w'):=hid (fun w=>by have:=gear_to x.na (m:Int) w;rw [show decide (0≤x.na∧x.na < (m:Int))=false by simp;omega] at this;exact this)
 obtain⟨hg0,hw0⟩:=NxtAt.new w x
 have HG:=hid hg0
 have HW:=hid hw0
 clear hg0 hw0
 go_enter Tryz.func131,Tryz.ntmps131
 go_upto_region 1 with fail
 generalize (w.alloc (.cells x.val 54)).alloc (.cells #[.int .i8 0,.int .i8 0] 172)=W0 at HG HW ⊢
 have c0:=HG.out.1.at 0 _ rfl
 have c1:=HG.out.1.at 1 _ rfl
 have c2:=HG.out.1.at 2 _ rfl
 go_upto_region 6 with (first
  | (go_at_call 148;(with_reducible refine (CE.out _).mono ?_);rintro e w1 ⟨rfl,rfl⟩))
 obtain⟨⟨z0,z1⟩,z2,z3⟩:=HG.out.2.1
 go_wp2_with fail
 refine bodyPost_ret (Kit.zaa rfl _ _ (w.heap.size+1) 0 [.int .i8 (0),.int .i8 (0)] _ rfl (Kit.zar (by go_cell) (by go_cell)) Tryz.underlying172 rfl (by kernel_rfl)) rfl ?_
 exact⟨rfl,(HW.out.setCell (p:=⟨w.heap.size+1,0,none⟩) (Nat.le_add_right _ _) _).setCell (p:=⟨w.heap.size+1,1,none⟩) (Nat.le_add_right _ _) _⟩
theorem cnx_na (x:Nd) (A:Option Addr) (m c:Nat) (hm:m≤50) (hk:¬ x.kd=6) (h:¬ (0≤x.na∧x.na < (m:Int))) (w:World) :
  Calls Tryz.prog 131 #[.slice A m c,.agg x.val] w fun e w'=>e=.returned (.tuple #[.agg #[.int .i8 0,.int .i8 0],.int .i64 8])∧Below w.heap.size w w':=by
 have k6:(x.kd == 6)=false:=by simp [hk]
 have CE:Hid (∀ w:World,Calls Tryz.prog 148 #[.int .i64 x.na,.int .i64 (m:Int)] w fun e w'=>e=.returned (.bool false)∧w=w'):=hid (fun w=>by have:=gear_to x.na (m:Int) w;rw [show decide (0≤x.na∧x.na < (m:Int))=false by simp;omega] at this;exact this)
 obtain⟨hg0,hw0⟩:=NxtAt.new w x
 have HG:=hid hg0
 have HW:=hid hw0
 clear hg0 hw0
 go_enter Tryz.func131,Tryz.ntmps131
 go_upto_region 1 with fail
 generalize (w.alloc (.cells x.val 54)).alloc (.cells #[.int .i8 0,.int .i8 0] 172)=W0 at HG HW ⊢
 have c0:=HG.out.1.at 0 _ rfl
 have c1:=HG.out.1.at 1 _ rfl
 have c2:=HG.out.1.at 2 _ rfl
 go_upto_region 6 with (first
  | (go_at_call 148;(with_reducible refine (CE.out _).mono ?_);rintro e w1 ⟨rfl,rfl⟩))
 obtain⟨⟨z0,z1⟩,z2,z3⟩:=HG.out.2.1
 go_wp2_with fail
 refine bodyPost_ret (Kit.zaa rfl _ _ (w.heap.size+1) 0 [.int .i8 (0),.int .i8 (0)] _ rfl (Kit.zar (by go_cell) (by go_cell)) Tryz.underlying172 rfl (by kernel_rfl)) rfl ?_
 exact⟨rfl,(HW.out.setCell (p:=⟨w.heap.size+1,0,none⟩) (Nat.le_add_right _ _) _).setCell (p:=⟨w.heap.size+1,1,none⟩) (Nat.le_add_right _ _) _⟩
theorem cnx_nb (x:Nd) (A:Option Addr) (m c:Nat) (hm:m≤50) (hk:x.kd=6) (h:0≤x.na∧x.na < (m:Int)) (h2:¬ (0≤x.nb∧x.nb < (m:Int))) (w:World) :
  Calls Tryz.prog 131 #[.slice A m c,.agg x.val] w fun e w'=>e=.returned (.tuple #[.agg #[.int .i8 0,.int .i8 0],.int .i64 8])∧Below w.heap.size w w':=by
 have k6:(x.kd == 6)=true:=by simp [hk]
 have CE:Hid (∀ w:World,Calls Tryz.prog 148 #[.int .i64 x.na,.int .i64 (m:Int)] w fun e w'=>e=.returned (.bool true)∧w=w'):=hid (fun w=>by have:=gear_to x.na (m:Int) w;rw [show decide (0≤x.na∧x.na < (m:Int))=true by simp;omega] at this;exact this)
 have CE2:Hid (∀ w:World,Calls Tryz.prog 148 #[.int .i64 x.nb,.int .i64 (m:Int)] w fun e w'=>e=.returned (.bool false)∧w=w'):=hid (fun w=>by have:=gear_to x.nb (m:Int) w;rw [show decide (0≤x.nb∧x.nb < (m:Int))=false by simp;omega] at this;exact this)
 obtain⟨hg0,hw0⟩:=NxtAt.new w x
 have HG:=hid hg0
 have HW:=hid hw0
 clear hg0 hw0
 go_enter Tryz.func131,Tryz.ntmps131
 go_upto_region 1 with fail
 generalize (w.alloc (.cells x.val 54)).alloc (.cells #[.int .i8 0,.int .i8 0] 172)=W0 at HG HW ⊢
 have c0:=HG.out.1.at 0 _ rfl
 have c1:=HG.out.1.at 1 _ rfl
 have c2:=HG.out.1.at 2 _ rfl
 go_upto_region 6 with (first
  | (go_at_call 148;(with_reducible refine (CE.out _).mono ?_);rintro e w1 ⟨rfl,rfl⟩)
  | (go_at_call 148;(with_reducible refine (CE2.out _).mono ?_);rintro e w1 ⟨rfl,rfl⟩))
 obtain⟨⟨z0,z1⟩,z2,z3⟩:=HG.out.2.1
 go_wp2_with fail
 refine bodyPost_ret (Kit.zaa rfl _ _ (w.heap.size+1) 0 [.int .i8 (0),.int .i8 (0)] _ rfl (Kit.zar (by go_cell) (by go_cell)) Tryz.underlying172 rfl (by kernel_rfl)) rfl ?_
 exact⟨rfl,(HW.out.setCell (p:=⟨w.heap.size+1,0,none⟩) (Nat.le_add_right _ _) _).setCell (p:=⟨w.heap.size+1,1,none⟩) (Nat.le_add_right _ _) _⟩
theorem cnx_yes6 {w:World} (x:Nd) (A:Option Addr) (m c:Nat) (hm:m≤50) (L:List Rch) (hl:L.length=m) (hr:Kit.Rd w w.heap.size A (rvV L)) (hk:x.kd=6) (h2:0≤x.nb∧x.nb < (m:Int)) (kb:Nat) (hkb:x.nb=kb)  (h:0≤x.na∧x.na < (m:Int)) (ka:Nat) (hka:x.na=ka) (a b:Rch) (ha:L[ka]?=some a) (hb0:L[kb]?=some b) (ra rb rc:Int)
  (hC:∀ wx,Below w.heap.size w wx→Calls Tryz.prog 149 #[.agg x.val,.agg #[.int .i8 a.1,.int .i8 a.2],.agg #[.int .i8 b.1,.int .i8 b.2]] wx fun e w'=>e=.returned (.tuple #[.agg #[.int .i8 ra,.int .i8 rb],.int .i64 rc])∧Below wx.heap.size wx w') :
  Calls Tryz.prog 131 #[.slice A m c,.agg x.val] w fun e w'=>e=.returned (.tuple #[.agg #[.int .i8 ra,.int .i8 rb],.int .i64 rc])∧Below w.heap.size w w':=by
 have k6:(x.kd == 6)=true:=by simp [hk]
 have CE:Hid (∀ w:World,Calls Tryz.prog 148 #[.int .i64 x.na,.int .i64 (m:Int)] w fun e w'=>e=.returned (.bool true)∧w=w'):=hid (fun w=>by have:=gear_to x.na (m:Int) w;rw [show decide (0≤x.na∧x.na < (m:Int))=true by simp;omega] at this;exact this)
 have CE2:Hid (∀ w:World,Calls Tryz.prog 148 #[.int .i64 x.nb,.int .i64 (m:Int)] w fun e w'=>e=.returned (.bool true)∧w=w'):=hid (fun w=>by have:=gear_to x.nb (m:Int) w;rw [show decide (0≤x.nb∧x.nb < (m:Int))=true by simp;omega] at this;exact this)
 have e2:Hid (x.val.toList[2]?=some (.int .i64 (kb:Int))):=hid (by rw [← hkb];rfl)
 obtain⟨ba,oa,rfl,hba,hce⟩:=rv_cells hr (by omega)
 have HCA:=hid (hce ka a ha)
 have HCB:=hid (hce kb b hb0)
 have HBA:=hid hba
 have CN:=hid hC
 have i0:(0:Int)≤(ka:Int):=by omega
 have i1:(ka:Int) < (m:Int):=by omega
 have j0:(0:Int)≤(kb:Int):=by omega
 have j1:(kb:Int) < (m:Int):=by omega
 have e1:Hid (x.val.toList[1]?=some (.int .i64 (ka:Int))):=hid (by rw [← hka];rfl)
 rw [hka] at CE
 rw [hkb] at CE2
 clear hC hba hce hr ha hb0 hl
 obtain⟨hg0,hw0⟩:=NxtAt.new w x
 have HG:=hid hg0
 have HW:=hid hw0
 clear hg0 hw0
 go_enter Tryz.func131,Tryz.ntmps131
 go_upto_region 1 with fail
 generalize (w.alloc (.cells x.val 54)).alloc (.cells #[.int .i8 0,.int .i8 0] 172)=W0 at HG HW ⊢
 have c0:=HG.out.1.at 0 _ rfl
 have c1:W0.cell? ⟨w.heap.size,1,none⟩=some (.int .i64 (ka:Int)):=HG.out.1.at 1 _ e1.out
 have c2:W0.cell? ⟨w.heap.size,2,none⟩=some (.int .i64 (kb:Int)):=HG.out.1.at 2 _ e2.out
 clear hka hkb h h2
 go_upto_region 7 with (first
  | (go_at_call 148;(with_reducible refine (CE.out _).mono ?_);rintro e w1 ⟨rfl,rfl⟩)
  | (go_at_call 148;(with_reducible refine (CE2.out _).mono ?_);rintro e w1 ⟨rfl,rfl⟩))
 have HFR:=hid HG.out.2.1
 have HS9:=hid HG.out.2.2
 have HN:=hid HG.out.1
 have HSA:Hid (∀ wS,Below (w.heap.size+1) W0 wS→wS.cell? ⟨ba,oa+ka * 2,none⟩=some (.int .i8 a.1)∧wS.cell? ⟨ba,oa+ka * 2+1,none⟩=some (.int .i8 a.2)) :=
  hid (fun wS q=>have hh:=HW.out.trans (q.mono (Nat.le_succ _)); ⟨(hh.cell (p:=⟨ba,oa+ka * 2,none⟩) HBA.out).trans (HCA.out 0 _ rfl),(hh.cell (p:=⟨ba,oa+ka * 2+1,none⟩) HBA.out).trans (HCA.out 1 _ rfl)⟩)
 have HSB:Hid (∀ wS,Below (w.heap.size+1) W0 wS→wS.cell? ⟨ba,oa+kb * 2,none⟩=some (.int .i8 b.1)∧wS.cell? ⟨ba,oa+kb * 2+1,none⟩=some (.int .i8 b.2)) :=
  hid (fun wS q=>have hh:=HW.out.trans (q.mono (Nat.le_succ _)); ⟨(hh.cell (p:=⟨ba,oa+kb * 2,none⟩) HBA.out).trans (HCB.out 0 _ rfl),(hh.cell (p:=⟨ba,oa+kb * 2+1,none⟩) HBA.out).trans (HCB.out 1 _ rfl)⟩)
 clear HG c0 c1 c2
 refine wp_region_held_drew (S:=fun wS=>Below (w.heap.size+1) W0 wS) (by kernel_rfl) (Below.refl _ _).drew (fun hHeld=>?_)
 replace HFR:=hid (HFR.out.below (B':=W0.heap.size) (by have:=HS9.out;omega) (Below.refl _ _).drew)
 have HWD:=hid HW.out.drew
 have HSD:Hid (w.heap.size+2≤W0.drew.heap.size):=hid HS9.out
 generalize W0.drew=Wd at HFR HWD HSD hHeld ⊢
 refine Tk.t 0 (v:=.agg x.val) rfl (zav _ rfl (by rfl) _ x rfl (fun _ q=>HN.out.below (lt_succ_self _) q)) (by assumption) ?_
 try simp only [Tk.put]
 refine Tk.x 1 rfl ?_
 try simp only [Tk.put]
 refine Tk.x 2 rfl ?_
 try simp only [Tk.put]
 refine Tk.y 3 (v:=.int .i64 (ka:Int)) rfl ?_ ?_
 ·intro wS hSw
  have q:=(HN.out.below (lt_succ_self _) hSw).at 1 _ e1.out
  first | (go_simp;done) | (go_simp;with_reducible rfl)
 try simp only [Tk.put]
 refine Tk.x 4 rfl ?_
 try simp only [Tk.put]
 refine Tk.y 5 (v:=.agg #[.int .i8 a.1,.int .i8 a.2]) rfl ?_ ?_
 ·intro wS hSw
  obtain⟨q0,q1⟩:=HSA.out wS hSw
  first | (go_simp;done) | (go_simp;with_reducible rfl)
 try simp only [Tk.put]
 refine Tk.x 6 rfl ?_
 try simp only [Tk.put]
 refine Tk.x 7 rfl ?_
 try simp only [Tk.put]
 refine Tk.x 8 rfl ?_
 try simp only [Tk.put]
 refine Tk.y 9 (v:=.agg #[.int .i8 b.1,.int .i8 b.2]) rfl ?_ ?_
 ·intro wS hSw
  obtain⟨q0,q1⟩:=HSB.out wS hSw
  first | (go_simp;done) | (go_simp;with_reducible rfl)
 try simp only [Tk.put]
 refine Tk.s 10 rfl (fun K hK=>?_)
 go_simp
 go_at_call 149
 refine (CN.out _ HWD.out).mono ?_
 rintro e w3 ⟨rfl,hb⟩
 have hS2:=hHeld.trans (hb.mono (by have:=HSD.out;omega))
 replace HFR:=hid (HFR.out.below (B':=Wd.heap.size) (by have:=HSD.out;omega) hb)
 replace HWD:=hid (HWD.out.trans (hb.mono HWD.out.size))
 clear hb hHeld
 dsimp only
 refine hK.out _ _ hS2 (fun hHeld=>?_)
 clear hK K hS2
 try simp only [Tk.put]
 refine Tk.x 11 rfl ?_
 try simp only [Tk.put]
 refine Tk.x 12 rfl ?_
 try simp only [Tk.put]
 obtain⟨⟨z0,z1⟩,z2,z3⟩:=HFR.out
 refine Tk.s 13 rfl (fun K hK=>?_)
 go_simp
 refine hK.out _ _ ?_ (fun hHeld=>?_)
 ·exact (hHeld.setCell (p:=⟨w.heap.size+1,0,none⟩) (le_refl _) _).setCell (p:=⟨w.heap.size+1,1,none⟩) (le_refl _) _
 clear hK K
 try simp only [Tk.put]
 refine Tk.x 14 rfl ?_
 try simp only [Tk.put]
 refine wpAnyH_done (by kernel_rfl) ?_ _
 clear hHeld
 go_wp2_with fail
 refine bodyPost_ret (Kit.zaa rfl _ _ (w.heap.size+1) 0 [.int .i8 (ra),.int .i8 (rb)] _ rfl (Kit.zar (by go_cell) (by go_cell)) Tryz.underlying172 rfl (by kernel_rfl)) rfl ?_
 exact⟨rfl,(HWD.out.setCell (p:=⟨w.heap.size+1,0,none⟩) (Nat.le_add_right _ _) _).setCell (p:=⟨w.heap.size+1,1,none⟩) (Nat.le_add_right _ _) _⟩
theorem cnx_yes {w:World} (x:Nd) (A:Option Addr) (m c:Nat) (hm:m≤50) (L:List Rch) (hl:L.length=m) (hr:Kit.Rd w w.heap.size A (rvV L)) (hk:¬ x.kd=6) (h:0≤x.na∧x.na < (m:Int)) (ka:Nat) (hka:x.na=ka) (a b:Rch) (ha:L[ka]?=some a) (hb0:L[ka]?=some b) (ra rb rc:Int)
  (hC:∀ wx,Below w.heap.size w wx→Calls Tryz.prog 149 #[.agg x.val,.agg #[.int .i8 a.1,.int .i8 a.2],.agg #[.int .i8 b.1,.int .i8 b.2]] wx fun e w'=>e=.returned (.tuple #[.agg #[.int .i8 ra,.int .i8 rb],.int .i64 rc])∧Below wx.heap.size wx w') :
  Calls Tryz.prog 131 #[.slice A m c,.agg x.val] w fun e w'=>e=.returned (.tuple #[.agg #[.int .i8 ra,.int .i8 rb],.int .i64 rc])∧Below w.heap.size w w':=by
 have k6:(x.kd == 6)=false:=by simp [hk]
 have CE:Hid (∀ w:World,Calls Tryz.prog 148 #[.int .i64 x.na,.int .i64 (m:Int)] w fun e w'=>e=.returned (.bool true)∧w=w'):=hid (fun w=>by have:=gear_to x.na (m:Int) w;rw [show decide (0≤x.na∧x.na < (m:Int))=true by simp;omega] at this;exact this)
 obtain⟨ba,oa,rfl,hba,hce⟩:=rv_cells hr (by omega)
 have HCA:=hid (hce ka a ha)
 have HCB:=hid (hce ka b hb0)
 have HBA:=hid hba
 have CN:=hid hC
 have i0:(0:Int)≤(ka:Int):=by omega
 have i1:(ka:Int) < (m:Int):=by omega
 have j0:(0:Int)≤(ka:Int):=by omega
 have j1:(ka:Int) < (m:Int):=by omega
 have e1:Hid (x.val.toList[1]?=some (.int .i64 (ka:Int))):=hid (by rw [← hka];rfl)
 rw [hka] at CE
 skip
 clear hC hba hce hr ha hb0 hl
 obtain⟨hg0,hw0⟩:=NxtAt.new w x
 have HG:=hid hg0
 have HW:=hid hw0
 clear hg0 hw0
 go_enter Tryz.func131,Tryz.ntmps131
 go_upto_region 1 with fail
 generalize (w.alloc (.cells x.val 54)).alloc (.cells #[.int .i8 0,.int .i8 0] 172)=W0 at HG HW ⊢
 have c0:=HG.out.1.at 0 _ rfl
 have c1:W0.cell? ⟨w.heap.size,1,none⟩=some (.int .i64 (ka:Int)):=HG.out.1.at 1 _ e1.out
 clear hka h
 go_upto_region 7 with (first
  | (go_at_call 148;(with_reducible refine (CE.out _).mono ?_);rintro e w1 ⟨rfl,rfl⟩))
 have HFR:=hid HG.out.2.1
 have HS9:=hid HG.out.2.2
 have HN:=hid HG.out.1
 have HSA:Hid (∀ wS,Below (w.heap.size+1) W0 wS→wS.cell? ⟨ba,oa+ka * 2,none⟩=some (.int .i8 a.1)∧wS.cell? ⟨ba,oa+ka * 2+1,none⟩=some (.int .i8 a.2)) :=
  hid (fun wS q=>have hh:=HW.out.trans (q.mono (Nat.le_succ _)); ⟨(hh.cell (p:=⟨ba,oa+ka * 2,none⟩) HBA.out).trans (HCA.out 0 _ rfl),(hh.cell (p:=⟨ba,oa+ka * 2+1,none⟩) HBA.out).trans (HCA.out 1 _ rfl)⟩)
 have HSB:Hid (∀ wS,Below (w.heap.size+1) W0 wS→wS.cell? ⟨ba,oa+ka * 2,none⟩=some (.int .i8 b.1)∧wS.cell? ⟨ba,oa+ka * 2+1,none⟩=some (.int .i8 b.2)) :=
  hid (fun wS q=>have hh:=HW.out.trans (q.mono (Nat.le_succ _)); ⟨(hh.cell (p:=⟨ba,oa+ka * 2,none⟩) HBA.out).trans (HCB.out 0 _ rfl),(hh.cell (p:=⟨ba,oa+ka * 2+1,none⟩) HBA.out).trans (HCB.out 1 _ rfl)⟩)
 clear HG c0 c1
 refine wp_region_held_drew (S:=fun wS=>Below (w.heap.size+1) W0 wS) (by kernel_rfl) (Below.refl _ _).drew (fun hHeld=>?_)
 replace HFR:=hid (HFR.out.below (B':=W0.heap.size) (by have:=HS9.out;omega) (Below.refl _ _).drew)
 have HWD:=hid HW.out.drew
 have HSD:Hid (w.heap.size+2≤W0.drew.heap.size):=hid HS9.out
 generalize W0.drew=Wd at HFR HWD HSD hHeld ⊢
 refine Tk.t 0 (v:=.agg x.val) rfl (zav _ rfl (by rfl) _ x rfl (fun _ q=>HN.out.below (lt_succ_self _) q)) (by assumption) ?_
 try simp only [Tk.put]
 refine Tk.x 1 rfl ?_
 try simp only [Tk.put]
 refine Tk.x 2 rfl ?_
 try simp only [Tk.put]
 refine Tk.y 3 (v:=.int .i64 (ka:Int)) rfl ?_ ?_
 ·intro wS hSw
  have q:=(HN.out.below (lt_succ_self _) hSw).at 1 _ e1.out
  first | (go_simp;done) | (go_simp;with_reducible rfl)
 try simp only [Tk.put]
 refine Tk.x 4 rfl ?_
 try simp only [Tk.put]
 refine Tk.y 5 (v:=.agg #[.int .i8 a.1,.int .i8 a.2]) rfl ?_ ?_
 ·intro wS hSw
  obtain⟨q0,q1⟩:=HSA.out wS hSw
  first | (go_simp;done) | (go_simp;with_reducible rfl)
 try simp only [Tk.put]
 refine Tk.x 6 rfl ?_
 try simp only [Tk.put]
 refine Tk.x 7 rfl ?_
 try simp only [Tk.put]
 refine Tk.x 8 rfl ?_
 try simp only [Tk.put]
 refine Tk.y 9 (v:=.agg #[.int .i8 b.1,.int .i8 b.2]) rfl ?_ ?_
 ·intro wS hSw
  obtain⟨q0,q1⟩:=HSB.out wS hSw
  first | (go_simp;done) | (go_simp;with_reducible rfl)
 try simp only [Tk.put]
 refine Tk.s 10 rfl (fun K hK=>?_)
 go_simp
 go_at_call 149
 refine (CN.out _ HWD.out).mono ?_
 rintro e w3 ⟨rfl,hb⟩
 have hS2:=hHeld.trans (hb.mono (by have:=HSD.out;omega))
 replace HFR:=hid (HFR.out.below (B':=Wd.heap.size) (by have:=HSD.out;omega) hb)
 replace HWD:=hid (HWD.out.trans (hb.mono HWD.out.size))
 clear hb hHeld
 dsimp only
 refine hK.out _ _ hS2 (fun hHeld=>?_)
 clear hK K hS2
 try simp only [Tk.put]
 refine Tk.x 11 rfl ?_
 try simp only [Tk.put]
 refine Tk.x 12 rfl ?_
 try simp only [Tk.put]
 obtain⟨⟨z0,z1⟩,z2,z3⟩:=HFR.out
 refine Tk.s 13 rfl (fun K hK=>?_)
 go_simp
 refine hK.out _ _ ?_ (fun hHeld=>?_)
 ·exact (hHeld.setCell (p:=⟨w.heap.size+1,0,none⟩) (le_refl _) _).setCell (p:=⟨w.heap.size+1,1,none⟩) (le_refl _) _
 clear hK K
 try simp only [Tk.put]
 refine Tk.x 14 rfl ?_
 try simp only [Tk.put]
 refine wpAnyH_done (by kernel_rfl) ?_ _
 clear hHeld
 go_wp2_with fail
 refine bodyPost_ret (Kit.zaa rfl _ _ (w.heap.size+1) 0 [.int .i8 (ra),.int .i8 (rb)] _ rfl (Kit.zar (by go_cell) (by go_cell)) Tryz.underlying172 rfl (by kernel_rfl)) rfl ?_
 exact⟨rfl,(HWD.out.setCell (p:=⟨w.heap.size+1,0,none⟩) (Nat.le_add_right _ _) _).setCell (p:=⟨w.heap.size+1,1,none⟩) (Nat.le_add_right _ _) _⟩
theorem cnext_to {w:World} (y:NdW) (L:List Rch) (m:Nat) (hl:L.length=m) (hm:m≤50) (hb:∀ (q:Nat) (a:Rch),L[q]?=some a→RBd a) (A:Option Addr) (c:Nat) (hT:zad w) (hx:y.1.Small) (hr:Kit.Rd w w.heap.size A (rvV L)) (hL:NdL w w.heap.size y.1 y.2.1 y.2.2) (hW2:y.1.nW≤20000) (hB2:y.1.nB≤20000) :
  Calls Tryz.prog 131 #[.slice A m c,.agg y.1.val] w fun e w'=>e=.returned (.tuple #[.agg #[.int .i8 (nxZ y L).1,.int .i8 (nxZ y L).2.1],.int .i64 (nxZ y L).2.2])∧Below w.heap.size w w':=by
 obtain⟨x,ws,bs⟩:=y
 simp only [] at hx hL hW2 hB2 ⊢
 unfold nxZ
 cases ht:zb2 x L.length with
 | false =>
   rw [if_pos rfl]
   unfold zb2 at ht
   rw [hl] at ht
   simp only [decide_eq_false_iff_not] at ht
   by_cases hk:x.kd=6
   ·by_cases h:0≤x.na∧x.na < (m:Int)
    ·exact cnx_nb x A m c hm hk h (fun h2=>ht ⟨h.1,h.2,fun _=>h2⟩) w
    ·exact cnx_na6 x A m c hm hk h w
   ·exact cnx_na x A m c hm hk (fun h=>ht ⟨h.1,h.2,fun h6=>absurd h6 hk⟩) w
 | true =>
   rw [if_neg (by simp)]
   unfold zb2 at ht
   rw [hl] at ht
   simp only [decide_eq_true_eq] at ht
   obtain⟨h1,h2,h3⟩:=ht
   obtain⟨ka,hka⟩:∃ ka:Nat,x.na=ka:=⟨x.na.toNat,by omega⟩
   obtain⟨a,ha1,ha2⟩:=rcL_at (L:=L) (k:=ka) hl (by omega)
   have ea:(L.getD x.na.toNat rch0)=a:=by rw [hka,Int.toNat_natCast];exact ha2
   have ba:=hb ka a ha1
   by_cases hk:x.kd=6
   ·obtain⟨g1,g2⟩:=h3 hk
    obtain⟨kb,hkb⟩:∃ kb:Nat,x.nb=kb:=⟨x.nb.toNat,by omega⟩
    obtain⟨b,hb1,hb2⟩:=rcL_at (L:=L) (k:=kb) hl (by omega)
    have bb:=hb kb b hb1
    have eb:(L.getD (sndZ x).toNat rch0)=b:=by unfold sndZ;rw [if_pos hk,hkb,Int.toNat_natCast];exact hb2
    unfold nodeG
    simp only [ea,eb]
    exact cnx_yes6 x A m c hm L hl hr hk ⟨g1,g2⟩ kb hkb ⟨h1,h2⟩ ka hka a b ha1 hb1 _ _ _ (fun wx hw=>cgnode_to x hx (hT.grown hw) a.1 a.2 b.1 b.2 ⟨ba.1,ba.2,bb.1,bb.2⟩ ws bs (NdL.belowG hL hw) hW2 hB2)
   ·have eb:(L.getD (sndZ x).toNat rch0)=a:=by unfold sndZ;rw [if_neg hk];exact ea
    unfold nodeG
    simp only [ea,eb]
    exact cnx_yes x A m c hm L hl hr hk ⟨h1,h2⟩ ka hka a a ha1 ha1 _ _ _ (fun wx hw=>cgnode_to x hx (hT.grown hw) a.1 a.2 a.1 a.2 ⟨ba.1,ba.2,ba.1,ba.2⟩ ws bs (NdL.belowG hL hw) hW2 hB2)
end CGuard
end
end Go.Proofs.YtfgdfignoakkaaaGreatDoor
