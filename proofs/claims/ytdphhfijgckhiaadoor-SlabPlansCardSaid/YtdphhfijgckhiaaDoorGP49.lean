/- -/
import Derived.Test.YtdphhfijgckhiaaDoorGP14
import Derived.Test.YtdphhfijgckhiaaDoorGP48
open Go.Lib (hid)
open Nat (le_refl lt_of_succ_lt lt_succ_self)
set_option linter.unusedVariables false
set_option linter.unusedSimpArgs false
set_option maxRecDepth 100000
set_option maxHeartbeats 16000000
namespace Go.Proofs.YtdphhfijgckhiaaDoor
open Go Go.ChangeShapes Go.WideShapes Go.ChangeAt Go.RowKit
section
namespace CArena
open Plain
theorem res_2 {fn:Func} {a b:Tmp} (h:fn.results=#[.tmp a,.tmp b]) (tmps:Array Value) (P:Program) (w:World):(results fn tmps).run P w=.ok (.tuple #[tmps.getD a undef,tmps.getD b undef]) w:=by
 simp [results,h]
def RPlcPost (S U:Nat→Int) (n:Nat) (w:World) (e:Ending) (w':World):Prop :=
 ∃ v,e=.returned (.tuple #[v,.int .i64 (roomZ S (plc S U) n)])∧w'.ownsRow w.heap.size 3 1 v n (rowV (plc S U) n)∧Below w.heap.size w w'
theorem rplace_yes (S U:Nat→Int) (n c c':Nat) (hn:n≤900) (hyes:∀ k,k < n→0≤S k∧S k≤1048576) (A A':Option Addr) (w:World) (hr:Kit.Rd w w.heap.size A (rowV S n)) (hr':Kit.Rd w w.heap.size A' (rowV U n)) :
  Calls Tryd.prog 11 #[.slice A n c,.slice A' n c'] w (RPlcPost S U n w):=by
 have HR:=hid hr
 have HR':=hid hr'
 have HY:=hid hyes
 obtain⟨i0,hi0,hi1,hi2,hi3⟩:=info_parts info_int
 clear hr hr' hyes
 go_enter Tryd.func11,Tryd.ntmps11
 go_wp2_with fail
 go_loopw [6,7,8] (fun v a u wr=>∃ i:Nat,i≤n∧u=.int .i64 i∧a=.int .i64 (roomZ S (plc S U) i)∧Hid (wr.ownsRow w.heap.size 3 1 v i (rowV (plc S U) i))∧Hid (Below w.heap.size w wr)) (fun _ _ u _=>n - (intOf u).toNat)
 case atStart=>exact⟨0,Nat.zero_le _,rfl,rfl,hid (World.ownsRow_nil _ _ _ _),hid (Below.refl _ _)⟩
 case round =>
  obtain⟨i,hi,rfl,rfl,HO,HB⟩:=hrel
  by_cases hlt:i < n
  ·obtain⟨Av,cv,rfl,hc1,hc2,hrd⟩:=Kit.zbd HO.out
   have i1:(i:Int) < (n:Int):=by omega
   have hpl:∀ j,j < n→0≤plc S U j∧plc S U j+S j≤(n:Int) * 1048576:=fun j hj=>plc_bound HY.out hj
   have hcf:∀ (p:Int) (wx:World),0≤p→p≤1000000000→Below wr.heap.size wr wx→Calls Tryd.prog 21 #[.slice A n c,.slice A' n c',.slice Av i cv,.int .i64 i,.int .i64 p] wx fun e w'=>e=.returned (.bool (fitB S U (plc S U) i p))∧wx=w':=by
    intro p wx h1 h2 h3
    exact rfits_to S U (plc S U) i n c c' cv hlt hn p h1 h2 HY.out (fun k hk=>by have:=hpl k (by omega);have:=HY.out k (by omega);omega) A A' Av wx ((HR.out.below (HB.out.trans (h3.mono HB.out.size)))) ((HR'.out.below (HB.out.trans (h3.mono HB.out.size)))) (hrd.below h3)
   have CF:=hid hcf
   have HPL:=hid hpl
   have HRD:=hid hrd
   have C0:=hid (hcf 0 wr (by omega) (by omega) (Below.refl _ _))
   have hb0:bestF S U (plc S U) i 0=if fitB S U (plc S U) i 0 then 0 else -1:=rfl
   obtain⟨wo,hwo⟩:∃ wo,wo=wr:=⟨_,rfl⟩
   have HB0:=hid (Below.refl wr.heap.size wr)
   rw [← hwo] at HB0 CF HRD HO HB
   have hmid:Hid (Below wo.heap.size wo wr):=by rw [hwo];exact hid (Below.refl _ _)
   obtain⟨f0,hf0⟩:∃ f0,fitB S U (plc S U) i 0=f0:=⟨_,rfl⟩
   rw [hf0] at C0 hb0
   obtain⟨rm,hrm⟩:∃ rm,roomZ S (plc S U) i=rm:=⟨_,rfl⟩
   rw [hrm]
   have HRM:=hid hrm
   have HB00:=hid hb0
   clear hcf hpl hrd hwo hf0 hrm hb0
   have key:∀ b0:Int,Hid (bestF S U (plc S U) i 0=b0)→True:=fun _ _=>trivial
   cases f0 with
   | true =>
     have HS0:Hid (bestF S U (plc S U) i 0=0):=HB00
     clear key HB00
     go_wp2_with (go_at_call 21;(refine C0.out.mono ?_);rintro e w1 ⟨rfl,rfl⟩)
     go_loopw [9,10] (fun a u wr=>∃ k:Nat,k≤i∧u=.int .i64 k∧a=.int .i64 (bestF S U (plc S U) i k)∧Hid (Below wo.heap.size wo wr)) (fun _ u _=>i - (intOf u).toNat)
     case atStart=>exact⟨0,Nat.zero_le _,rfl,congrArg (Value.int .i64) HS0.out.symm,hmid⟩
     case round =>
      obtain⟨k,hk,rfl,rfl,HB2⟩:=hrel
      clear hmid C0 HS0
      by_cases hltk:k < i
      ·obtain⟨b1,o1,rfl,x1,h1⟩:=rd_at (HR.out.below (HB.out.trans (HB2.out.mono HB.out.size))) (by omega)
       obtain⟨b3,o3,rfl,x3,h3⟩:=rd_at (HRD.out.below HB2.out) (by omega)
       have d1:=h1 k (by omega)
       have d3:=h3 k hltk
       have k0:(0:Int)≤(k:Int):=by omega
       have k1:(k:Int) < (n:Int):=by omega
       have k2:(k:Int) < (i:Int):=by omega
       obtain⟨a1,a2⟩:=HY.out k (by omega)
       obtain⟨a3,a4⟩:=HPL.out k (by omega)
       have ew:IntKind.i64.wrap (plc S U k+S k)=plc S U k+S k:=IntWalk.i64_in _ (by omega)
       have hst:bestF S U (plc S U) i (k+1)=if (bestF S U (plc S U) i k < 0∨plc S U k+S k < bestF S U (plc S U) i k)∧fitB S U (plc S U) i (plc S U k+S k)=true then plc S U k+S k else bestF S U (plc S U) i k:=rfl
       obtain⟨pe,hpe⟩:∃ pe,plc S U k+S k=pe:=⟨_,rfl⟩
       obtain⟨be,hbe⟩:∃ be,bestF S U (plc S U) i k=be:=⟨_,rfl⟩
       have CP:=hid (fun (wx:World) (h:Below wo.heap.size wo wx)=>CF.out pe wx (by omega) (by omega) h)
       obtain⟨ft,hft⟩:∃ ft,fitB S U (plc S U) i pe=ft:=⟨_,rfl⟩
       rw [hpe] at ew
       rw [hpe,hbe,hft] at hst
       simp only [hft] at CP
       rw [hbe]
       have e7:plc S U k+S k=pe:=hpe
       have HST:=hid hst
       have HPE:=hid hpe
       clear hpe hbe hft hst h1 h3 x1 x3
       generalize plc S U k=pk at *
       generalize S k=sk at *
       go_upto_region 12 with fail
       go_quiet (fail)
       generalize hWq:wr.drewN nq=Wq at *
       have HB3:Hid (Below wo.heap.size wo Wq):=by rw [← hWq];exact hid (Kit.below_drewN HB2.out nq)
       clear hWq HB2 d1 d3
       by_cases q1:be < 0
       ·cases ft with
        | true =>
          have HV:Hid (pe=bestF S U (plc S U) i (k+1)):=hid (by rw [HST.out,if_pos ⟨.inl q1,rfl⟩])
          clear HST
          go_wp2_with (go_at_call 21;(refine (CP.out _ HB3.out).mono ?_);rintro e w1 ⟨rfl,rfl⟩)
          go_roundw
          case rel=>exact⟨k+1,by omega,by go_num,congrArg (Value.int .i64) HV.out,HB3⟩
          case measure=>simp [intOf];omega
        | false =>
          have HV:Hid (be=bestF S U (plc S U) i (k+1)):=hid (by rw [HST.out,if_neg (fun h=>(nomatch h.2))])
          clear HST
          go_wp2_with (go_at_call 21;(refine (CP.out _ HB3.out).mono ?_);rintro e w1 ⟨rfl,rfl⟩)
          go_roundw
          case rel=>exact⟨k+1,by omega,by go_num,congrArg (Value.int .i64) HV.out,HB3⟩
          case measure=>simp [intOf];omega
       ·by_cases q2:pe < be
        ·cases ft with
         | true =>
           have HV:Hid (pe=bestF S U (plc S U) i (k+1)):=hid (by rw [HST.out,if_pos ⟨.inr q2,rfl⟩])
           clear HST
           go_wp2_with (go_at_call 21;(refine (CP.out _ HB3.out).mono ?_);rintro e w1 ⟨rfl,rfl⟩)
           go_roundw
           case rel=>exact⟨k+1,by omega,by go_num,congrArg (Value.int .i64) HV.out,HB3⟩
           case measure=>simp [intOf];omega
         | false =>
           have HV:Hid (be=bestF S U (plc S U) i (k+1)):=hid (by rw [HST.out,if_neg (fun h=>(nomatch h.2))])
           clear HST
           go_wp2_with (go_at_call 21;(refine (CP.out _ HB3.out).mono ?_);rintro e w1 ⟨rfl,rfl⟩)
           go_roundw
           case rel=>exact⟨k+1,by omega,by go_num,congrArg (Value.int .i64) HV.out,HB3⟩
           case measure=>simp [intOf];omega
        ·have HV:Hid (be=bestF S U (plc S U) i (k+1)):=hid (by rw [HST.out,if_neg (fun h=>h.1.elim q1 q2)])
         clear HST
         go_wp2_with fail
         go_roundw
         case rel=>exact⟨k+1,by omega,by go_num,congrArg (Value.int .i64) HV.out,HB3⟩
         case measure=>simp [intOf];omega
      ·obtain rfl:k=i:=by omega
       obtain⟨b1,o1,rfl,x1,h1⟩:=rd_at HR.out (by omega)
       have hd1:=h1 k (by omega)
       have k0:(0:Int)≤(k:Int):=by omega
       obtain⟨a1,a2⟩:=HY.out k (by omega)
       obtain⟨a3,a4⟩:=HPL.out k (by omega)
       have hpb:bestF S U (plc S U) k k=plc S U k:=(plc_eq S U k).symm
       rw [hpb]
       have ew:IntKind.i64.wrap (plc S U k+S k)=plc S U k+S k:=IntWalk.i64_in _ (by omega)
       have hrn:roomZ S (plc S U) (k+1)=max rm (plc S U k+S k):=by rw [roomZ,HRM.out]
       have HAP:=hid (zbo (plc S U) k _ rfl)
       have HO1:=hid (Kit.own_below HO.out HB2.out)
       have HB3:=hid (HB.out.trans (HB2.out.mono HB.out.size))
       have hmx:=max_ite rm (plc S U k+S k)
       have hm2:(if rm < plc S U k+S k then plc S U k+S k else rm)=roomZ S (plc S U) (k+1):=by rw [hmx,hrn]
       have HM:=hid hm2
       have HRN:=hid hrn
       have HX1:=hid x1
       have HW1:=hid hd1
       clear hpb hrn hmx hm2 h1 x1 hd1 HPL HRD CF
       generalize plc S U k=p at *
       generalize S k=sk at *
       go_wp2_with (first
        | (at_builtin
           refine Kit.zam _ rfl (.tmp 53) (.tmp 55) _ rfl w.heap.size 3 i0 (.int .i64 0) 1 8 Tryd.underlying31 hi0 hi1 hi2 hi3 rfl (by decide) _ k (rowV (plc S U) k) rfl (HO1.out.alloc _) _ _ 1 1 [.int .i64 p] rfl rfl (Kit.Rd.new _ _ _ (lt_succ_self _)) (Kit.zbg .i64 [p]) (by unfold maxLen;omega) (by omega) (by have:=HB3.out.size;simp;omega) ?_
           intro v4 w4 hown4 hg4 hat4
           have hB4:Below w.heap.size w w4:=(HB3.out.alloc HB3.out.size _).grown hg4 (by have:=HB3.out.size;simp;omega) (fun q hq=>Kit.zau HO1.out q hq)
           rw [HAP.out] at hown4
           have d4:w4.cell? ⟨b1,o1+k,none⟩=some (.int .i64 sk):=(hB4.cell (p:=⟨b1,o1+k,none⟩) HX1.out).trans HW1.out
           have HO4:=hid hown4
           have HB4:=hid hB4
           clear hown4 hg4 hat4 hB4))
       go_roundw
       case rel=>exact⟨k+1,by omega,by go_num,(by first | exact congrArg (Value.int .i64) HM.out | exact congrArg (Value.int .i64) HRN.out.symm),HO4,HB4⟩
       case measure=>simp [intOf];omega
   | false =>
     have HS0:Hid (bestF S U (plc S U) i 0 = -1):=HB00
     clear key HB00
     go_wp2_with (go_at_call 21;(refine C0.out.mono ?_);rintro e w1 ⟨rfl,rfl⟩)
     go_loopw [9,10] (fun a u wr=>∃ k:Nat,k≤i∧u=.int .i64 k∧a=.int .i64 (bestF S U (plc S U) i k)∧Hid (Below wo.heap.size wo wr)) (fun _ u _=>i - (intOf u).toNat)
     case atStart=>exact⟨0,Nat.zero_le _,rfl,congrArg (Value.int .i64) HS0.out.symm,hmid⟩
     case round =>
      obtain⟨k,hk,rfl,rfl,HB2⟩:=hrel
      clear hmid C0 HS0
      by_cases hltk:k < i
      ·obtain⟨b1,o1,rfl,x1,h1⟩:=rd_at (HR.out.below (HB.out.trans (HB2.out.mono HB.out.size))) (by omega)
       obtain⟨b3,o3,rfl,x3,h3⟩:=rd_at (HRD.out.below HB2.out) (by omega)
       have d1:=h1 k (by omega)
       have d3:=h3 k hltk
       have k0:(0:Int)≤(k:Int):=by omega
       have k1:(k:Int) < (n:Int):=by omega
       have k2:(k:Int) < (i:Int):=by omega
       obtain⟨a1,a2⟩:=HY.out k (by omega)
       obtain⟨a3,a4⟩:=HPL.out k (by omega)
       have ew:IntKind.i64.wrap (plc S U k+S k)=plc S U k+S k:=IntWalk.i64_in _ (by omega)
       have hst:bestF S U (plc S U) i (k+1)=if (bestF S U (plc S U) i k < 0∨plc S U k+S k < bestF S U (plc S U) i k)∧fitB S U (plc S U) i (plc S U k+S k)=true then plc S U k+S k else bestF S U (plc S U) i k:=rfl
       obtain⟨pe,hpe⟩:∃ pe,plc S U k+S k=pe:=⟨_,rfl⟩
       obtain⟨be,hbe⟩:∃ be,bestF S U (plc S U) i k=be:=⟨_,rfl⟩
       have CP:=hid (fun (wx:World) (h:Below wo.heap.size wo wx)=>CF.out pe wx (by omega) (by omega) h)
       obtain⟨ft,hft⟩:∃ ft,fitB S U (plc S U) i pe=ft:=⟨_,rfl⟩
       rw [hpe] at ew
       rw [hpe,hbe,hft] at hst
       simp only [hft] at CP
       rw [hbe]
       have e7:plc S U k+S k=pe:=hpe
       have HST:=hid hst
       have HPE:=hid hpe
       clear hpe hbe hft hst h1 h3 x1 x3
       generalize plc S U k=pk at *
       generalize S k=sk at *
       go_upto_region 12 with fail
       go_quiet (fail)
       generalize hWq:wr.drewN nq=Wq at *
       have HB3:Hid (Below wo.heap.size wo Wq):=by rw [← hWq];exact hid (Kit.below_drewN HB2.out nq)
       clear hWq HB2 d1 d3
       by_cases q1:be < 0
       ·cases ft with
        | true =>
          have HV:Hid (pe=bestF S U (plc S U) i (k+1)):=hid (by rw [HST.out,if_pos ⟨.inl q1,rfl⟩])
          clear HST
          go_wp2_with (go_at_call 21;(refine (CP.out _ HB3.out).mono ?_);rintro e w1 ⟨rfl,rfl⟩)
          go_roundw
          case rel=>exact⟨k+1,by omega,by go_num,congrArg (Value.int .i64) HV.out,HB3⟩
          case measure=>simp [intOf];omega
        | false =>
          have HV:Hid (be=bestF S U (plc S U) i (k+1)):=hid (by rw [HST.out,if_neg (fun h=>(nomatch h.2))])
          clear HST
          go_wp2_with (go_at_call 21;(refine (CP.out _ HB3.out).mono ?_);rintro e w1 ⟨rfl,rfl⟩)
          go_roundw
          case rel=>exact⟨k+1,by omega,by go_num,congrArg (Value.int .i64) HV.out,HB3⟩
          case measure=>simp [intOf];omega
       ·by_cases q2:pe < be
        ·cases ft with
         | true =>
           have HV:Hid (pe=bestF S U (plc S U) i (k+1)):=hid (by rw [HST.out,if_pos ⟨.inr q2,rfl⟩])
           clear HST
           go_wp2_with (go_at_call 21;(refine (CP.out _ HB3.out).mono ?_);rintro e w1 ⟨rfl,rfl⟩)
           go_roundw
           case rel=>exact⟨k+1,by omega,by go_num,congrArg (Value.int .i64) HV.out,HB3⟩
           case measure=>simp [intOf];omega
         | false =>
           have HV:Hid (be=bestF S U (plc S U) i (k+1)):=hid (by rw [HST.out,if_neg (fun h=>(nomatch h.2))])
           clear HST
           go_wp2_with (go_at_call 21;(refine (CP.out _ HB3.out).mono ?_);rintro e w1 ⟨rfl,rfl⟩)
           go_roundw
           case rel=>exact⟨k+1,by omega,by go_num,congrArg (Value.int .i64) HV.out,HB3⟩
           case measure=>simp [intOf];omega
        ·have HV:Hid (be=bestF S U (plc S U) i (k+1)):=hid (by rw [HST.out,if_neg (fun h=>h.1.elim q1 q2)])
         clear HST
         go_wp2_with fail
         go_roundw
         case rel=>exact⟨k+1,by omega,by go_num,congrArg (Value.int .i64) HV.out,HB3⟩
         case measure=>simp [intOf];omega
      ·obtain rfl:k=i:=by omega
       obtain⟨b1,o1,rfl,x1,h1⟩:=rd_at HR.out (by omega)
       have hd1:=h1 k (by omega)
       have k0:(0:Int)≤(k:Int):=by omega
       obtain⟨a1,a2⟩:=HY.out k (by omega)
       obtain⟨a3,a4⟩:=HPL.out k (by omega)
       have hpb:bestF S U (plc S U) k k=plc S U k:=(plc_eq S U k).symm
       rw [hpb]
       have ew:IntKind.i64.wrap (plc S U k+S k)=plc S U k+S k:=IntWalk.i64_in _ (by omega)
       have hrn:roomZ S (plc S U) (k+1)=max rm (plc S U k+S k):=by rw [roomZ,HRM.out]
       have HAP:=hid (zbo (plc S U) k _ rfl)
       have HO1:=hid (Kit.own_below HO.out HB2.out)
       have HB3:=hid (HB.out.trans (HB2.out.mono HB.out.size))
       have hmx:=max_ite rm (plc S U k+S k)
       have hm2:(if rm < plc S U k+S k then plc S U k+S k else rm)=roomZ S (plc S U) (k+1):=by rw [hmx,hrn]
       have HM:=hid hm2
       have HRN:=hid hrn
       have HX1:=hid x1
       have HW1:=hid hd1
       clear hpb hrn hmx hm2 h1 x1 hd1 HPL HRD CF
       generalize plc S U k=p at *
       generalize S k=sk at *
       go_wp2_with (first
        | (at_builtin
           refine Kit.zam _ rfl (.tmp 53) (.tmp 55) _ rfl w.heap.size 3 i0 (.int .i64 0) 1 8 Tryd.underlying31 hi0 hi1 hi2 hi3 rfl (by decide) _ k (rowV (plc S U) k) rfl (HO1.out.alloc _) _ _ 1 1 [.int .i64 p] rfl rfl (Kit.Rd.new _ _ _ (lt_succ_self _)) (Kit.zbg .i64 [p]) (by unfold maxLen;omega) (by omega) (by have:=HB3.out.size;simp;omega) ?_
           intro v4 w4 hown4 hg4 hat4
           have hB4:Below w.heap.size w w4:=(HB3.out.alloc HB3.out.size _).grown hg4 (by have:=HB3.out.size;simp;omega) (fun q hq=>Kit.zau HO1.out q hq)
           rw [HAP.out] at hown4
           have d4:w4.cell? ⟨b1,o1+k,none⟩=some (.int .i64 sk):=(hB4.cell (p:=⟨b1,o1+k,none⟩) HX1.out).trans HW1.out
           have HO4:=hid hown4
           have HB4:=hid hB4
           clear hown4 hg4 hat4 hB4))
       go_roundw
       case rel=>exact⟨k+1,by omega,by go_num,(by first | exact congrArg (Value.int .i64) HM.out | exact congrArg (Value.int .i64) HRN.out.symm),HO4,HB4⟩
       case measure=>simp [intOf];omega
  ·obtain rfl:i=n:=by omega
   go_wp2_with fail
   refine bodyPost_ret (res_2 rfl _ _ _) rfl ?_
   exact⟨_,rfl,HO.out,HB.out⟩
end CArena
end
end Go.Proofs.YtdphhfijgckhiaaDoor
