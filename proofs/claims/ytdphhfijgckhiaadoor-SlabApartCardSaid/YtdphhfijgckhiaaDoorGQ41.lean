/- -/
import Derived.Test.YtdphhfijgckhiaaDoorGQ40
open Go.Lib (hid)
open Nat (le_refl lt_of_succ_lt lt_succ_self)
set_option linter.unusedVariables false
set_option linter.unusedSimpArgs false
set_option maxRecDepth 100000
set_option maxHeartbeats 16000000
namespace Go.Proofs.YtdphhfijgckhiaaDoor
open Go Go.ChangeShapes Go.WideShapes Go.ChangeAt Go.RowKit
section
namespace CArena
open Plain
def prV:List (Int × Int)→List Value
 | []=>[]
 | a :: r=>.int .i64 a.1 :: .int .i64 a.2 :: prV r
theorem prV_len:∀ L,(prV L).length=L.length * 2
 | []=>rfl
 | a :: r=>by simp [prV,prV_len r];omega
theorem prV_append:∀ L M,prV (L ++ M)=prV L ++ prV M
 | [],M=>rfl
 | a :: r,M=>by simp [prV,prV_append r M]
theorem prV_get:∀ (L:List (Int × Int)) (t:Nat),(prV L)[t]?=(L[t / 2]?).map fun a=>if t % 2=0 then .int .i64 a.1 else .int .i64 a.2
 | [],t=>by simp [prV]
 | a :: r,0=>by simp [prV]
 | a :: r,1=>by simp [prV]
 | a :: r,t+2=>by
   rw [prV,List.getElem?_cons_succ,List.getElem?_cons_succ,prV_get r t,show (t+2) / 2=t / 2+1 by omega,List.getElem?_cons_succ,show (t+2) % 2=t % 2 by omega]
theorem prV_drop:∀ (k:Nat) (L:List (Int × Int)),(prV L).drop (k * 2)=prV (L.drop k)
 | 0,L=>by simp
 | k+1,[]=>by simp [prV]
 | k+1,a :: r=>by
   rw [show (k+1) * 2=k * 2+1+1 by omega,prV,List.drop_succ_cons,List.drop_succ_cons,prV_drop k r,List.drop_succ_cons]
theorem prV_cells {w:World} {B:Nat} {A:Option Addr} {L:List (Int × Int)} (h:Kit.Rd w B A (prV L)) (hn:0 < L.length) :
  ∃ b o,A=some ⟨b,o,none⟩∧b < B∧∀ k a,L[k]?=some a→w.cell? ⟨b,o+k * 2,none⟩=some (.int .i64 a.1)∧w.cell? ⟨b,o+k * 2+1,none⟩=some (.int .i64 a.2):=by
 obtain⟨b,o,e,hb,hc⟩:=h.plain (by rw [prV_len];omega)
 refine⟨b,o,e,hb,fun k a hk=>⟨?_,?_⟩⟩
 ·refine hc (k * 2) _ ?_
  rw [prV_get,show k * 2 / 2=k by omega,hk];simp
 ·have:=hc (k * 2+1) (.int .i64 a.2) (by rw [prV_get,show (k * 2+1) / 2=k by omega,hk];simp)
  rw [← Nat.add_assoc] at this;exact this
def lenV:Value→Nat
 | .slice _ n _=>n
 | _=>0
theorem rd_shift {w:World} {B b o:Nat} {xs:List Value} (h:Kit.Rd w B (some ⟨b,o,none⟩) xs) (k:Nat):Kit.Rd w B (some ⟨b,o+k,none⟩) (xs.drop k):=by
 have h2:=h.drop k
 have e:(some (⟨b,o,none⟩:Addr)).map (·.add k)=some ⟨b,o+k,none⟩:=by
  simp only [Option.map_some]
  congr 1
  unfold Addr.add
  split
  ·rename_i h;subst h;rfl
  ·rfl
 rw [e] at h2;exact h2
theorem free_to (M:Int) (hM:M≤1000000000) (s:Int) (hs0:0≤s) (hs1:s≤1048576) (R:Int) (L:List (Int × Int)) (A:Option Addr) (n c:Nat) (hn:L.length=n) (hc:n≤c) (hcm:c≤maxLen) (hn1:n≤4000) (hb:∀ a∈L,0≤a.1∧a.1≤M∧0≤a.2∧a.2≤M) (hM0:0≤M) (hR:freeL L 0 s=R) (w:World) (hr:Kit.Rd w w.heap.size A (prV L)) :
  Calls Tryd.prog 28 #[.slice A n c,.int .i64 s] w fun e w'=>e=.returned (.int .i64 R)∧Below w.heap.size w w':=by
 have HR:=hid hr
 have HE:=hid hR
 have HL:=hid hb
 have HN:=hid hn
 have HB0:=hid (Below.refl w.heap.size w)
 clear hr hR hb hn
 go_enter Tryd.func28,Tryd.ntmps28
 go_wp2
 go_step3
 go_wp2
 go_step3
 go_wp2
 go_loopw [0,5] (fun v u wr=>∃ (A':Option Addr) (n' c':Nat) (L':List (Int × Int)) (p:Int),v=.slice A' n' c'∧n'≤c'∧c'≤maxLen∧n'≤4000∧u=.int .i64 p∧0≤p∧p≤M∧Hid (L'.length=n')∧Hid (Kit.Rd wr w.heap.size A' (prV L'))∧Hid (freeL L' p s=R)∧Hid (∀ a∈L',0≤a.1∧a.1≤M∧0≤a.2∧a.2≤M)∧Hid (Below w.heap.size w wr)) (fun v _ _=>lenV v)
 case atStart=>exact⟨A,n,c,L,0,rfl,hc,hcm,hn1,rfl,Int.le_refl _,hM0,HN,HR,HE,HL,HB0⟩
 case round =>
  obtain⟨A',n',c',L',p,rfl,hc',hm',hn',rfl,p0,p1,HN',HR',HE',HL',HB'⟩:=hrel
  clear HN HR HE HL HB0
  obtain⟨wo,hwo⟩:∃ wo,wo=wr:=⟨_,rfl⟩
  have HWO:=hid hwo
  clear hwo
  go_wp2
  go_loopw [0,5,10] (fun v0 v5 u wr=>∃ k:Nat,k≤n'∧v0=.slice A' n' c'∧v5=.int .i64 p∧u=.int .i64 k∧Hid (Kit.Rd wr w.heap.size A' (prV L'))∧Hid (freeL (L'.drop k) p s=R)∧Hid (Below w.heap.size w wr)) (fun _ _ u _=>n' - (intOf u).toNat)
  case atStart=>exact⟨0,Nat.zero_le _,rfl,rfl,rfl,HR',HE',HB'⟩
  case round =>
   obtain⟨k,hk,rfl,rfl,rfl,HR2,HE2,HB2⟩:=hrel
   clear HR' HE' HB'
   by_cases hlt:k < n'
   ·obtain⟨b,o,rfl,hbl,h1⟩:=prV_cells HR2.out (by have:=HN'.out;omega)
    obtain⟨⟨f,t⟩,ha⟩:∃ a,L'[k]?=some a:=⟨_,List.getElem?_eq_getElem (by have:=HN'.out;omega)⟩
    obtain⟨q0,q1⟩:=h1 k _ ha
    obtain⟨f0,f1,t0,t1⟩:=HL'.out _ (List.mem_of_getElem? ha)
    simp only at q0 q1 f0 f1 t0 t1
    have hdr:L'.drop k=(f,t) :: L'.drop (k+1):=by
     obtain⟨hk2,he⟩:=List.getElem?_eq_some_iff.1 ha
     rw [List.drop_eq_getElem_cons hk2,he]
    have k0:(0:Int)≤(k:Int):=by omega
    have k1:(k:Int) < (n':Int):=by omega
    have ew:IntKind.i64.wrap (p+s)=p+s:=IntWalk.i64_in _ (by omega)
    have HBL:=hid hbl
    clear h1 ha hbl
    cases hmt:meetZ f t p (p+s) with
    | true =>
      have hfe:freeL (L'.drop (k+1)) t s=R:=by have:=HE2.out;rw [hdr,freeL,hmt] at this;simpa using this
      have HFE:=hid hfe
      have HD:=hid hdr
      have C:=hid (fun w:World=>hmt ▸ meet_to f t p (p+s) w)
      clear hfe hdr HE2 hmt
      by_cases hce:c'=k+1
      ·go_wp2_with (go_at_call 45;(refine (C.out _).mono ?_);rintro e w1 ⟨rfl,hb1⟩;(have q3:w1.cell? ⟨wr.heap.size,1,none⟩=some (.int .i64 t):=(hb1.cell (by simp)).trans (Kit.zaf _ _ _ _));(have HB3:=hid ((HB2.out.alloc HB2.out.size (.cells #[.int .i64 f,.int .i64 t] 88)).trans (hb1.mono (by have:=HB2.out.size;simp;omega))));(have HR3:=hid (HR2.out.below (((Below.refl _ _).alloc HB2.out.size (.cells #[.int .i64 f,.int .i64 t] 88)).trans (hb1.mono (by have:=HB2.out.size;simp;omega)))));clear hb1 HB2 HR2)
       go_quiet (fail)
       go_wp2_with fail
       have e0:n'=k+1:=by omega
       have hnil:L'.drop (k+1)=[]:=List.drop_eq_nil_of_le (by have:=HN'.out;omega)
       refine⟨⟨some ⟨b,o,none⟩,n' - (k+1),0,[],t,rfl,by omega,Nat.zero_le _,by omega,rfl,t0,t1,hid (by simp;omega),hid Kit.Rd.nil,hid ?_,hid (fun a ha=>(nomatch ha)),hid (Kit.below_drewN HB3.out nq)⟩,by simp [lenV];omega⟩
       have:=HFE.out
       rw [hnil] at this;exact this
      ·go_wp2_with (go_at_call 45;(refine (C.out _).mono ?_);rintro e w1 ⟨rfl,hb1⟩;(have q3:w1.cell? ⟨wr.heap.size,1,none⟩=some (.int .i64 t):=(hb1.cell (by simp)).trans (Kit.zaf _ _ _ _));(have HB3:=hid ((HB2.out.alloc HB2.out.size (.cells #[.int .i64 f,.int .i64 t] 88)).trans (hb1.mono (by have:=HB2.out.size;simp;omega))));(have HR3:=hid (HR2.out.below (((Below.refl _ _).alloc HB2.out.size (.cells #[.int .i64 f,.int .i64 t] 88)).trans (hb1.mono (by have:=HB2.out.size;simp;omega)))));clear hb1 HB2 HR2)
       go_quiet (fail)
       go_wp2_with fail
       have hrd:=rd_shift HR3.out ((k+1) * 2)
       rw [prV_drop] at hrd
       exact⟨⟨some ⟨b,o+(k+1) * 2,none⟩,n' - (k+1),c' - (k+1),L'.drop (k+1),t,rfl,by omega,by omega,by omega,rfl,t0,t1,hid (by rw [List.length_drop,HN'.out]),hid (hrd.drewN nq),HFE,hid (fun a ha=>HL'.out a (List.mem_of_mem_drop ha)),hid (Kit.below_drewN HB3.out nq)⟩,by simp [lenV];omega⟩
    | false =>
      have hfe:freeL (L'.drop (k+1)) p s=R:=by have:=HE2.out;rw [hdr,freeL,hmt] at this;simpa using this
      have HFE:=hid hfe
      have HD:=hid hdr
      have C:=hid (fun w:World=>hmt ▸ meet_to f t p (p+s) w)
      clear hfe hdr HE2 hmt
      go_wp2_with (go_at_call 45;(refine (C.out _).mono ?_);rintro e w1 ⟨rfl,hb1⟩;(have HB3:=hid ((HB2.out.alloc HB2.out.size (.cells #[.int .i64 f,.int .i64 t] 88)).trans (hb1.mono (by have:=HB2.out.size;simp;omega))));(have HR3:=hid (HR2.out.below (((Below.refl _ _).alloc HB2.out.size (.cells #[.int .i64 f,.int .i64 t] 88)).trans (hb1.mono (by have:=HB2.out.size;simp;omega)))));clear hb1 HB2 HR2)
      go_roundw
      case rel=>exact⟨k+1,by omega,rfl,rfl,by go_num,HR3,HFE,HB3⟩
      case measure=>simp [intOf];omega
   ·obtain rfl:k=n':=by omega
    have hfin:p=R:=by have:=HE2.out;rw [List.drop_eq_nil_of_le (by have:=HN'.out;omega)] at this;exact this
    clear HE2
    go_wp2
    rw [Exit.noGoto_ret]
    go_ret
    exact⟨by rw [hfin];rfl,HB2.out⟩
end CArena
end
end Go.Proofs.YtdphhfijgckhiaaDoor
