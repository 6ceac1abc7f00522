/- -/
import Derived.Test.YtjhlkmnpfibgaaaDoorGT46
open Go.Lib (hid)
open Nat (le_refl lt_of_succ_lt lt_succ_self)
set_option linter.unusedVariables false
set_option linter.unusedSimpArgs false
set_option maxRecDepth 100000
set_option maxHeartbeats 16000000
namespace Go.Proofs.YtjhlkmnpfibgaaaDoor
namespace CConv
end CConv
namespace CDense
end CDense
namespace CSat
end CSat
namespace CTensor
end CTensor
open Go Go.ChangeShapes Go.WideShapes Go.ChangeAt Go.RowKit Go.Deep
section
namespace CCost
open Plain CSat CFix CShape CTensor CConv CKind CGraph CDense CBund
abbrev St:=Int × Int × Int × Nat
def stepS (s:St) (c:Int):St:=(min (if s.2.2.2=0 then c else s.1) c,max (if s.2.2.2=0 then c else s.2.1) c,s.2.2.1+c,s.2.2.2+1)
def rowS (F:Nat→Int) (s:St):Nat→St
 | 0=>s
 | k+1=>stepS (rowS F s k) (F k)
def tabS (F:Nat→Nat→Int) (cn:Nat→Nat):Nat→St
 | 0=>(0,0,0,0)
 | j+1=>rowS (F j) (tabS F cn j) (cn j)
def eLo (s:St):Int:=if s.2.2.2=0 then 9223372036854775807 else s.1
def eHi (s:St):Int:=if s.2.2.2=0 then -9223372036854775808 else s.2.1
structure StOk (s:St) (q:Nat):Prop where
 okq:s.2.2.2≤q
 okn:s.2.2.2=0→s.1=0∧s.2.1=0∧s.2.2.1=0
 oke:s.2.2.2≠0 → -2147483648≤s.1∧s.1≤s.2.1∧s.2.1≤2147483647
 oks : -2147483648 * (s.2.2.2:Int)≤s.2.2.1∧s.2.2.1≤2147483647 * (s.2.2.2:Int)
def I32 (c:Int):Prop := -2147483648≤c∧c≤2147483647
theorem StOk.step {s:St} {q:Nat} (h:StOk s q) {c:Int} (hc:I32 c):StOk (stepS s c) (q+1):=by
 obtain⟨h1,h2,h3,h4⟩:=h
 obtain⟨c1,c2⟩:=hc
 refine⟨?_,?_,?_,?_⟩
 ·show s.2.2.2+1≤q+1;omega
 ·intro h;exact absurd h (Nat.succ_ne_zero _)
 ·intro _
  show -2147483648≤min _ c∧min _ c≤max _ c∧max _ c≤2147483647
  by_cases h0:s.2.2.2=0
  ·rw [if_pos h0,if_pos h0];omega
  ·rw [if_neg h0,if_neg h0];have:=h3 h0;omega
 ·show -2147483648 * ((s.2.2.2+1:Nat):Int)≤s.2.2.1+c∧s.2.2.1+c≤2147483647 * ((s.2.2.2+1:Nat):Int)
  omega
theorem StOk.row {F:Nat→Int} {s:St} {q:Nat} (h:StOk s q):∀ k,(∀ j,j < k→I32 (F j))→StOk (rowS F s k) (q+k)
 | 0,_=>h
 | k+1,hF=>StOk.step (StOk.row h k (fun j hj=>hF j (by omega))) (hF k (by omega))
theorem StOk.tab {F:Nat→Nat→Int} {cn:Nat→Nat} : ∀ n,(∀ j,j < n→cn j≤50)→(∀ j k,j < n→k < cn j→I32 (F j k))→StOk (tabS F cn n) (50 * n)
 | 0,_,_=>⟨le_refl _,fun _=>⟨rfl,rfl,rfl⟩,fun h=>absurd rfl h,(by decide : -2147483648 * ((0:Nat):Int)≤0∧(0:Int)≤2147483647 * ((0:Nat):Int))⟩
 | n+1,hc,hF=>by
   have h:=StOk.row (F:=F n) (StOk.tab n (fun j hj=>hc j (by omega)) (fun j k hj hk=>hF j k (by omega) hk)) (cn n) (fun k hk=>hF n k (by omega) hk)
   have:=hc n (by omega)
   exact⟨Nat.le_trans h.okq (by omega),h.okn,h.oke,h.oks⟩
theorem eLo_step {s:St} {q:Nat} (h:StOk s q) {c:Int} (hc:I32 c):(if c < eLo s then c else eLo s)=eLo (stepS s c):=by
 have e:eLo (stepS s c)=min (if s.2.2.2=0 then c else s.1) c:=if_neg (Nat.succ_ne_zero _)
 rw [e]
 unfold eLo
 obtain⟨c1,c2⟩:=hc
 by_cases h0:s.2.2.2=0
 ·rw [if_pos h0,if_pos h0];split <;> omega
 ·rw [if_neg h0,if_neg h0];split <;> omega
theorem eHi_step {s:St} {q:Nat} (h:StOk s q) {c:Int} (hc:I32 c):(if eHi s < c then c else eHi s)=eHi (stepS s c):=by
 have e:eHi (stepS s c)=max (if s.2.2.2=0 then c else s.2.1) c:=if_neg (Nat.succ_ne_zero _)
 rw [e]
 unfold eHi
 obtain⟨c1,c2⟩:=hc
 by_cases h0:s.2.2.2=0
 ·rw [if_pos h0,if_pos h0];split <;> omega
 ·rw [if_neg h0,if_neg h0];split <;> omega
def ArrAt (B:Nat) (lo hi:Int) (w:World):Prop:=w.cell? ⟨B,0,none⟩=some (.int .i64 lo)∧w.cell? ⟨B,1,none⟩=some (.int .i64 hi)∧w.frozen? ⟨B,0,none⟩=false∧w.frozen? ⟨B,1,none⟩=false
theorem ArrAt.new (lo hi:Int) (T:TypeId) (w:World):ArrAt w.heap.size lo hi (w.alloc (.cells #[.int .i64 lo,.int .i64 hi] T)):=⟨Kit.zak _ _ _ _,Kit.zak _ _ _ _,World.frozen?_alloc_at _ _ _ _ rfl,World.frozen?_alloc_at _ _ _ _ rfl⟩
theorem ArrAt.below {B B':Nat} {lo hi:Int} {w w':World} (h:ArrAt B lo hi w) (hB:B < B') (hb:Below B' w w'):ArrAt B lo hi w' :=
 ⟨(hb.cell (p:=⟨B,0,none⟩) hB).trans h.1,(hb.cell (p:=⟨B,1,none⟩) hB).trans h.2.1,(hb.frozen (p:=⟨B,0,none⟩) hB).trans h.2.2.1,(hb.frozen (p:=⟨B,1,none⟩) hB).trans h.2.2.2⟩
theorem ArrAt.set {B:Nat} {lo hi:Int} {w:World} (h:ArrAt B lo hi w) (a b:Int):ArrAt B a b ((w.setCell ⟨B,0,none⟩ (.int .i64 a)).setCell ⟨B,1,none⟩ (.int .i64 b)):=by
 obtain⟨h0,h1,h2,h3⟩:=h
 exact⟨by go_cell,by go_cell,by go_cell,by go_cell⟩
theorem ArrAt.other {B q i:Nat} {lo hi:Int} {u:Value} {w:World} (h:ArrAt B lo hi w) (hq:q≠B):ArrAt B lo hi (w.setCell ⟨q,i,none⟩ u):=by
 obtain⟨h0,h1,h2,h3⟩:=h
 have hne:∀ j,(⟨B,j,none⟩:Addr)≠⟨q,i,none⟩:=fun j e=>by injection e;omega
 exact⟨(World.cell?_setCell_other _ _ _ _ (fun e=>by injection e;omega)).trans h0,(World.cell?_setCell_other _ _ _ _ (fun e=>by injection e;omega)).trans h1,(by rw [World.frozen?_setCell];exact h2),(by rw [World.frozen?_setCell];exact h3)⟩
theorem row_cell {w:World} {B:Nat} {A:Option Addr} {F:Nat→Int} {n:Nat} (h:Kit.Rd w B A (rowI F n)) (hn:0 < n):∃ b o,A=some ⟨b,o,none⟩∧b < B∧∀ k,k < n→w.cell? ⟨b,o+k,none⟩=some (.int .i64 (F k)):=rdI_at h hn
theorem widc_to (F:Nat→Int) (s:St) (q:Nat) (hs:StOk s q) (n c:Nat) (hn:n≤50) (hF:∀ j,j < n→I32 (F j)) (A:Option Addr) (w:World) (hr:Kit.Rd w w.heap.size A (rowI F n)) :
  Calls Tryd.prog 27 #[.agg #[.int .i64 (eLo s),.int .i64 (eHi s)],.slice A n c] w fun e w'=>e=.returned (.agg #[.int .i64 (eLo (rowS F s n)),.int .i64 (eHi (rowS F s n))])∧Below w.heap.size w w':=by
 obtain⟨lo,hlo⟩:∃ lo,eLo s=lo:=⟨_,rfl⟩
 obtain⟨hi,hhi⟩:∃ hi,eHi s=hi:=⟨_,rfl⟩
 rw [hlo,hhi]
 have b2:Below (w.heap.size+1) (w.alloc (.cells #[.int .i64 lo,.int .i64 hi] 80)) ((w.alloc (.cells #[.int .i64 lo,.int .i64 hi] 80)).alloc (.cells #[.int .i64 0,.int .i64 0] 80)):=(Below.refl _ _).alloc (by simp) _
 have HA0:=hid ((ArrAt.new lo hi 80 w).below (lt_succ_self _) b2)
 have q3:=ArrAt.new 0 0 80 (w.alloc (.cells #[.int .i64 lo,.int .i64 hi] 80))
 rw [World.size_alloc] at q3
 have HR0:=hid q3
 have HB0:Hid (Below w.heap.size w ((w.alloc (.cells #[.int .i64 lo,.int .i64 hi] 80)).alloc (.cells #[.int .i64 0,.int .i64 0] 80))):=hid (((Below.refl _ _).alloc (le_refl _) _).trans (b2.mono (by omega)))
 have HSZ:Hid (w.heap.size+2≤((w.alloc (.cells #[.int .i64 lo,.int .i64 hi] 80)).alloc (.cells #[.int .i64 0,.int .i64 0] 80)).heap.size):=hid (by simp)
 have HRD:=hid hr
 have HS:=hid hs
 have HFF:=hid hF
 have HLO:=hid hlo
 have HHI:=hid hhi
 clear b2 q3 hr hs hF hlo hhi
 go_enter Tryd.func27,Tryd.ntmps27
 go_upto_region 1 with fail
 generalize (w.alloc (.cells #[.int .i64 lo,.int .i64 hi] 80)).alloc (.cells #[.int .i64 0,.int .i64 0] 80)=W0 at HA0 HR0 HB0 HSZ ⊢
 go_wp2_with fail
 go_loopw [9] (fun x wr=>∃ k:Nat,k≤n∧x=.int .i64 k∧Hid (ArrAt w.heap.size (eLo (rowS F s k)) (eHi (rowS F s k)) wr)∧Hid (ArrAt (w.heap.size+1) 0 0 wr)∧Hid (Below w.heap.size w wr)) (fun x _=>n - (intOf x).toNat)
 case atStart=>exact⟨0,Nat.zero_le _,rfl,hid (by rw [show rowS F s 0=s from rfl,HLO.out,HHI.out];exact HA0.out),HR0,HB0⟩
 case round =>
  obtain⟨k,hk,rfl,HA,HR,HB⟩:=hrel
  clear HA0 HR0 HB0 HSZ
  by_cases hlt:k < n
  ·obtain⟨bb,ob,rfl,hbb,hcc⟩:=row_cell HRD.out (by omega)
   have c9:=(HB.out.cell (p:=⟨bb,ob+k,none⟩) hbb).trans (hcc k hlt)
   have k0:(0:Int)≤(k:Int):=by omega
   have k1:(k:Int) < (n:Int):=by omega
   have hok:=HS.out.row k (fun j hj=>HFF.out j (by omega))
   have e1:=eLo_step hok (HFF.out k hlt)
   have e2:=eHi_step hok (HFF.out k hlt)
   obtain⟨cv,hcv⟩:∃ cv,F k=cv:=⟨_,rfl⟩
   rw [hcv] at c9 e1 e2
   obtain⟨l9,hl9⟩:∃ l9,eLo (stepS (rowS F s k) cv)=l9:=⟨_,rfl⟩
   obtain⟨h9,hh9⟩:∃ h9,eHi (stepS (rowS F s k) cv)=h9:=⟨_,rfl⟩
   rw [hl9] at e1
   rw [hh9] at e2
   have HL9:Hid (eLo (rowS F s (k+1))=l9):=hid (by rw [rowS,hcv];exact hl9)
   have HH9:Hid (eHi (rowS F s (k+1))=h9):=hid (by rw [rowS,hcv];exact hh9)
   generalize eLo (rowS F s k)=l8 at HA e1
   generalize eHi (rowS F s k)=h8 at HA e2
   obtain⟨p0,p1,p2,p3⟩:=HA.out
   have k9:(k:Int)≤50:=by omega
   clear hcc hbb hok hcv hl9 hh9
   go_wp2_with fail
   go_roundw
   case rel=>exact⟨k+1,by omega,by go_num,hid (by rw [HL9.out,HH9.out];exact HA.out.set l9 h9),hid ((HR.out.other (by omega)).other (by omega)),hid ((HB.out.setCell (p:=⟨w.heap.size,0,none⟩) (le_refl _) _).setCell (p:=⟨w.heap.size,1,none⟩) (le_refl _) _)⟩
   case measure=>simp [intOf];omega
  ·obtain rfl:k=n:=by omega
   obtain⟨p0,p1,p2,p3⟩:=HA.out
   obtain⟨r0,r1,r2,r3⟩:=HR.out
   obtain⟨l8,hl8⟩:∃ l8,eLo (rowS F s k)=l8:=⟨_,rfl⟩
   obtain⟨h8,hh8⟩:∃ h8,eHi (rowS F s k)=h8:=⟨_,rfl⟩
   rw [hl8] at p0
   rw [hh8] at p1
   have HE8:=hid (And.intro hl8 hh8)
   clear hl8 hh8
   go_wp2_with fail
   refine bodyPost_ret (Kit.results_c rfl _ _ (w.heap.size+1) 0 [.int .i64 l8,.int .i64 h8] _ rfl (Kit.range_2 (by go_cell) (by go_cell)) Tryd.underlying80 rfl (by kernel_rfl)) rfl ?_
   exact⟨by rw [HE8.out.1,HE8.out.2],(HB.out.setCell (p:=⟨w.heap.size+1,0,none⟩) (Nat.le_add_right _ _) _).setCell (p:=⟨w.heap.size+1,1,none⟩) (Nat.le_add_right _ _) _⟩
theorem cends_to (F:Nat→Nat→Int) (cn:Nat→Nat) (n c:Nat) (hn:n≤20) (hc:∀ j,j < n→cn j≤50) (hF:∀ j k,j < n→k < cn j→I32 (F j k)) (V:Nat→Value) (A:Option Addr) (w:World) (hr:Kit.Rd w w.heap.size A (vL V n))
  (hV:∀ j,j < n→∃ Aj cj,V j=.slice Aj (cn j) cj∧Kit.Rd w w.heap.size Aj (rowI (F j) (cn j))) :
  Calls Tryd.prog 16 #[.slice A n c] w fun e w'=>e=.returned (.tuple #[.int .i64 (tabS F cn n).1,.int .i64 (tabS F cn n).2.1,.int .i64 (tabS F cn n).2.2.1])∧Below w.heap.size w w':=by
 have HA0:=hid (ArrAt.new 9223372036854775807 (-9223372036854775808) 80 w)
 have HB0:Hid (Below w.heap.size w (w.alloc (.cells #[.int .i64 9223372036854775807,.int .i64 (-9223372036854775808)] 80))):=hid ((Below.refl _ _).alloc (le_refl _) _)
 have HS0:Hid (w.heap.size+1≤(w.alloc (.cells #[.int .i64 9223372036854775807,.int .i64 (-9223372036854775808)] 80)).heap.size):=hid (by simp)
 have HRD:=hid hr
 have HV:=hid hV
 have HFF:=hid hF
 have HCN:=hid hc
 have HOK:=hid (fun j (hj:j≤n)=>StOk.tab (F:=F) (cn:=cn) j (fun i hi=>hc i (by omega)) (fun i k hi hk=>hF i k (by omega) hk))
 clear hr hV hF hc
 go_enter Tryd.func16,Tryd.ntmps16
 go_upto_region 2 with fail
 generalize w.alloc (.cells #[.int .i64 9223372036854775807,.int .i64 (-9223372036854775808)] 80)=W0 at HA0 HB0 HS0 ⊢
 go_wp2_with fail
 go_loopw [4,13] (fun a x wr=>∃ j:Nat,j≤n∧x=.int .i64 j∧a=.int .i64 (tabS F cn j).2.2.1∧Hid (ArrAt w.heap.size (eLo (tabS F cn j)) (eHi (tabS F cn j)) wr)∧Hid (Below w.heap.size w wr)∧Hid (w.heap.size+1≤wr.heap.size)) (fun _ x _=>n - (intOf x).toNat)
 case atStart=>exact⟨0,Nat.zero_le _,rfl,rfl,HA0,HB0,HS0⟩
 case round =>
  obtain⟨j,hj,rfl,rfl,HA,HB,HS⟩:=hrel
  clear HA0 HB0 HS0
  by_cases hlt:j < n
  ·obtain⟨Aj,cj,hvj,hrj⟩:=HV.out j hlt
   obtain⟨bb,ob,rfl,hbb,hcc⟩:=HRD.out.plain (by rw [vL_len];omega)
   have c9:=(HB.out.cell (p:=⟨bb,ob+j,none⟩) hbb).trans (hcc j _ (vL_at V hlt))
   rw [hvj] at c9
   have j0:(0:Int)≤(j:Int):=by omega
   have j1:(j:Int) < (n:Int):=by omega
   have j9:(j:Int)≤20:=by omega
   obtain⟨m,hm⟩:∃ m,cn j=m:=⟨_,rfl⟩
   have hm50:m≤50:=by rw [← hm];exact HCN.out j hlt
   have HM:=hid hm
   rw [hm] at c9 hrj
   have HRJ:=hid hrj
   have CW:=hid (fun wx (hr:Kit.Rd wx wx.heap.size Aj (rowI (F j) m))=>widc_to (F j) (tabS F cn j) _ (HOK.out j (by omega)) m cj hm50 (fun k hk=>HFF.out j k hlt (by rw [hm];exact hk)) Aj wx hr)
   have HSJ:Hid (∀ k,k≤m→StOk (rowS (F j) (tabS F cn j) k) (50 * j+k)):=hid (fun k hk=>(HOK.out j (by omega)).row k (fun q hq=>HFF.out j q hlt (by rw [hm];omega)))
   have HFJ:Hid (∀ k,k < m→I32 (F j k)):=hid (fun k hk=>HFF.out j k hlt (by rw [hm];exact hk))
   have HNX:Hid (tabS F cn (j+1)=rowS (F j) (tabS F cn j) m):=hid (by rw [tabS,hm])
   obtain⟨l8,hl8⟩:∃ l8,eLo (tabS F cn j)=l8:=⟨_,rfl⟩
   obtain⟨h8,hh8⟩:∃ h8,eHi (tabS F cn j)=h8:=⟨_,rfl⟩
   obtain⟨l9,hl9⟩:∃ l9,eLo (rowS (F j) (tabS F cn j) m)=l9:=⟨_,rfl⟩
   obtain⟨h9,hh9⟩:∃ h9,eHi (rowS (F j) (tabS F cn j) m)=h9:=⟨_,rfl⟩
   rw [hl8,hh8] at HA
   rw [hl8,hh8,hl9,hh9] at CW
   have HL9:=hid hl9
   have HH9:=hid hh9
   obtain⟨p0,p1,p2,p3⟩:=HA.out
   clear hvj hbb hcc hm hrj hl8 hh8 hl9 hh9
   go_upto_region 6 with (go_at_call 27;(refine (CW.out _ ((HRJ.out.below HB.out).more HB.out.size)).mono ?_);rintro e w3 ⟨rfl,hb⟩;(have HB3:=hid (HB.out.trans (hb.mono HB.out.size)));(have HS3:=hid (Nat.le_trans HS.out hb.size));(have HA3:=hid (HA.out.below (B':=wr.heap.size) (by have:=HS.out;omega) hb));clear hb p0 p1 p2 p3;obtain⟨p0,p1,p2,p3⟩:=HA3.out)
   have HA4:=hid (HA3.out.set l9 h9)
   have HB4:=hid ((HB3.out.setCell (p:=⟨w.heap.size,0,none⟩) (le_refl _) (.int .i64 l9)).setCell (p:=⟨w.heap.size,1,none⟩) (le_refl _) (.int .i64 h9))
   have HS4:Hid (w.heap.size+1≤((w3.setCell ⟨w.heap.size,0,none⟩ (.int .i64 l9)).setCell ⟨w.heap.size,1,none⟩ (.int .i64 h9)).heap.size):=hid (by simp only [World.size_setCell];exact HS3.out)
   generalize (w3.setCell ⟨w.heap.size,0,none⟩ (.int .i64 l9)).setCell ⟨w.heap.size,1,none⟩ (.int .i64 h9)=W4 at HA4 HB4 HS4 ⊢
   clear p0 p1 p2 p3 HA3 HB3 HS3 CW HA HB HS c9
   go_wp2_with fail
   go_loopw [4,22] (fun a x wi=>∃ k:Nat,k≤m∧x=.int .i64 k∧a=.int .i64 (rowS (F j) (tabS F cn j) k).2.2.1∧Hid (Below W4.heap.size W4 wi)) (fun _ x _=>m - (intOf x).toNat)
   case atStart=>exact⟨0,Nat.zero_le _,rfl,rfl,hid (Below.refl _ _)⟩
   case round =>
    obtain⟨k,hk,rfl,rfl,HI⟩:=hrel
    by_cases hlk:k < m
    ·obtain⟨b5,o5,rfl,hb5,hc5⟩:=row_cell HRJ.out (by omega)
     have c5:=((HB4.out.trans (HI.out.mono HB4.out.size)).cell (p:=⟨b5,o5+k,none⟩) hb5).trans (hc5 k hlk)
     have k0:(0:Int)≤(k:Int):=by omega
     have k1:(k:Int) < (m:Int):=by omega
     have k9:(k:Int)≤50:=by omega
     have hs1:=(HSJ.out (k+1) (by omega)).oks
     have hs2:=(HSJ.out (k+1) (by omega)).okq
     have he:(rowS (F j) (tabS F cn j) (k+1)).2.2.1=(rowS (F j) (tabS F cn j) k).2.2.1+F j k:=rfl
     have hw:IntKind.i64.wrap ((rowS (F j) (tabS F cn j) k).2.2.1+F j k)=(rowS (F j) (tabS F cn j) (k+1)).2.2.1:=by rw [← he];exact IntWalk.i64_in _ (by omega)
     obtain⟨s9,hs9⟩:∃ s9,(rowS (F j) (tabS F cn j) (k+1)).2.2.1=s9:=⟨_,rfl⟩
     rw [hs9] at hw he hs1
     have HS9E:=hid hs9
     generalize (rowS (F j) (tabS F cn j) k).2.2.1=s8 at hw he ⊢
     generalize F j k=cv at hw he c5
     clear he hs1 hs2 hc5 hb5 hs9
     go_wp2_with fail
     go_roundw
     case rel=>exact⟨k+1,by omega,by go_num,by rw [HS9E.out],HI⟩
     case measure=>simp [intOf];omega
    ·obtain rfl:k=m:=by omega
     have HA9:=hid (HA4.out.below (B':=W4.heap.size) (by have:=HS4.out;omega) HI.out)
     have HB9:=hid (HB4.out.trans (HI.out.mono HB4.out.size))
     have HS9:=hid (Nat.le_trans HS4.out HI.out.size)
     clear HA4 HB4 HS4
     go_wp2_with fail
     go_roundw
     case rel=>exact⟨j+1,by omega,by go_num,by rw [HNX.out],hid (by rw [HNX.out,HL9.out,HH9.out];exact HA9.out),HB9,HS9⟩
     case measure=>simp [intOf];omega
  ·obtain rfl:j=n:=by omega
   have hok:=HOK.out j (le_refl _)
   obtain⟨s,hs⟩:∃ s,tabS F cn j=s:=⟨_,rfl⟩
   have HTS:=hid hs
   rw [hs] at hok HA
   try rw [hs]
   by_cases hq:s.2.2.2=0
   ·obtain⟨e1,e2,e3⟩:=hok.okn hq
    rw [show eLo s=9223372036854775807 from if_pos hq,show eHi s = -9223372036854775808 from if_pos hq] at HA
    have HE:=hid (And.intro e1 (And.intro e2 e3))
    obtain⟨p0,p1,p2,p3⟩:=HA.out
    clear hok hq e1 e2 e3 hs
    go_wp2_with fail
    go_ret3
    exact⟨by rw [HTS.out,HE.out.1,HE.out.2.1,HE.out.2.2];rfl,HB.out⟩
   ·obtain⟨e1,e2,e3⟩:=hok.oke hq
    rw [show eLo s=s.1 from if_neg hq,show eHi s=s.2.1 from if_neg hq] at HA
    obtain⟨l9,hl9⟩:∃ l9,s.1=l9:=⟨_,rfl⟩
    obtain⟨h9,hh9⟩:∃ h9,s.2.1=h9:=⟨_,rfl⟩
    obtain⟨a9,ha9⟩:∃ a9,s.2.2.1=a9:=⟨_,rfl⟩
    rw [hl9,hh9] at HA
    rw [hl9,hh9] at e2
    rw [ha9]
    have HE:=hid (And.intro hl9 (And.intro hh9 ha9))
    obtain⟨p0,p1,p2,p3⟩:=HA.out
    have g1:¬ l9 > h9:=by omega
    have HOKS:=hid HS.out
    clear hok hq e1 e2 e3 hs hl9 hh9 ha9
    go_upto_region 14 with fail
    refine wp_region_held_drew (S:=fun wx=>ArrAt w.heap.size l9 h9 wx) (by kernel_rfl) (HA.out.below (B':=wr.heap.size) (by have:=HOKS.out;omega) (Below.refl _ _).drew) (fun hHeld=>?_)
    have HBD:=hid HB.out.drew
    clear p0 p1 p2 p3 HA HB
    generalize wr.drew=W1 at hHeld HBD ⊢
    refine Tk.x 0 rfl ?_
    try simp only [Tk.put]
    refine Tk.y 1 (v:=.int .i64 l9) rfl ?_ ?_
    ·intro wS hSw
     obtain⟨q0,q1, -, -⟩:=hSw
     first | (go_simp;done) | (go_simp;with_reducible rfl)
    try simp only [Tk.put]
    refine Tk.x 2 rfl ?_
    try simp only [Tk.put]
    refine Tk.y 3 (v:=.int .i64 h9) rfl ?_ ?_
    ·intro wS hSw
     obtain⟨q0,q1, -, -⟩:=hSw
     first | (go_simp;done) | (go_simp;with_reducible rfl)
    try simp only [Tk.put]
    refine Tk.x 4 rfl ?_
    try simp only [Tk.put]
    refine Tk.x 5 rfl ?_
    try simp only [Tk.put]
    refine Tk.x 6 rfl ?_
    try simp only [Tk.put]
    refine Tk.x 7 rfl ?_
    try simp only [Tk.put]
    refine wpAnyH_done (by kernel_rfl) ?_ _
    go_wp2_with fail
    go_ret3
    exact⟨by rw [HTS.out,HE.out.1,HE.out.2.1,HE.out.2.2];rfl,HBD.out⟩
end CCost
end
end Go.Proofs.YtjhlkmnpfibgaaaDoor
