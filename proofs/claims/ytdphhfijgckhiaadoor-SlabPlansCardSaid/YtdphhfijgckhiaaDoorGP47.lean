/- -/
import Derived.Test.YtdphhfijgckhiaaDoorGP45
open Go.Lib (hid)
open Nat (le_refl lt_of_succ_lt lt_succ_self)
set_option linter.unusedVariables false
set_option linter.unusedSimpArgs false
set_option maxRecDepth 100000
set_option maxHeartbeats 16000000
namespace Go.Proofs.YtdphhfijgckhiaaDoor
namespace CConv
end CConv
namespace CTensor
end CTensor
open Go Go.ChangeShapes Go.WideShapes Go.ChangeAt Go.RowKit Go.Deep
section
namespace CGraph
open Plain CSat CFix CShape CTensor CConv CKind
theorem nd_load_ga {ops:Array Oper} {rest:List Oper} {op:Oper} {a:Act} {w:World} {Q:Exit→Act→World→Prop} (hw:Region.wanted op (yielded ops a.tmps)=true) (x:Operand) (ho:op.op=.load 50 x)
  (b o:Nat) (u:Nd) (hx:a.eval x=.pointer (some ⟨b,o,none⟩)) (hb:w.rangeAt b o u.val.toList)
  (h:wpList Tryd.prog ops Q rest (a.put op.dst (.agg u.val)) w):wpList Tryd.prog ops Q (op :: rest) a w :=
 wpList_step fun K hK=>by rw [if_pos hw];exact wp_load_mid 50 x ho b o hx u.val.toList _ hb Tryd.underlying50 rfl (by kernel_rfl) (hK _ _ h)
theorem rlast_to (X:Nat→Nd) (n c:Nat) (hn:n≤50) (v:Nat) (hv:v≤n) (A:Option Addr) (w:World) (hA:za4 w w.heap.size A n X) :
  Calls Tryd.prog 10 #[.slice A n c,.int .i64 v] w fun e w'=>e=.returned (.int .i64 (lastZ X n v))∧Below w.heap.size w w':=by
 have HA:=hid hA
 have en:IntKind.i64.wrap ((n:Int)+1)=(n:Int)+1:=IntWalk.i64_in _ (by omega)
 clear hA
 by_cases hvn:v=n
 ·subst hvn
  have e:lastZ X v v=(v:Int)+1:=by unfold lastZ;rw [if_pos rfl]
  rw [e]
  clear e
  go_enter Tryd.func10,Tryd.ntmps10
  go_wp2_with fail
  go_ret
  exact⟨rfl,Below.refl _ _⟩
 ·have e:lastZ X n v=lastN X v n:=by unfold lastZ;rw [if_neg hvn]
  rw [e]
  have h1:((v:Int) == (n:Int))=false:=by simp;omega
  have h2:¬ (v:Int)=(n:Int):=by omega
  clear e hvn
  go_enter Tryd.func10,Tryd.ntmps10
  go_wp2_with fail
  go_loopw [5,6] (fun a u wr=>∃ i:Nat,i≤n∧u=.int .i64 i∧a=.int .i64 (lastN X v i)∧Hid (Below w.heap.size w wr)) (fun _ u _=>n - (intOf u).toNat)
  case atStart=>exact⟨0,Nat.zero_le _,rfl,rfl,hid (Below.refl _ _)⟩
  case round =>
   obtain⟨i,hi,rfl,rfl,HB⟩:=hrel
   by_cases hlt:i < n
   ·obtain⟨ba,oa,rfl,hba,hra⟩:=HA.out i hlt
    have i1:(i:Int) < (n:Int):=by omega
    have ib:(0:Int)≤(i:Int):=by omega
    have ei:IntKind.i64.wrap ((i:Int)+1)=(i:Int)+1:=IntWalk.i64_in _ (by omega)
    obtain⟨x,hx⟩:∃ x,X i=x:=⟨_,rfl⟩
    rw [hx] at hra
    have HRA:Hid (∀ wx,Below w.heap.size w wx→wx.rangeAt ba (oa+i * 19) x.val.toList):=hid fun wx hb q u hq=>(hb.cell (p:=⟨ba,oa+i * 19+q,none⟩) hba).trans (hra q u hq)
    obtain⟨tb,htb⟩:∃ tb,zbi x (i+1)=tb:=⟨_,rfl⟩
    have CT:=hid (fun w:World=>by have h:=refThere_to x (i+1) w;rw [htb] at h;exact h)
    have hst:lastN X v (i+1)=if tb=true∧(x.na=v∨sndZ x=v) then (i:Int)+1 else lastN X v i:=by rw [lastN,hx,htb]
    obtain⟨F,hF⟩:∃ F,lastN X v i=F:=⟨_,rfl⟩
    rw [hF] at hst ⊢
    have HST:=hid hst
    clear hx htb hst hF hra hba
    cases tb with
    | false =>
      have HN:Hid (F=lastN X v (i+1)):=hid (by rw [HST.out];simp)
      clear HST
      go_wp2_with (first
       | (refine za3 rfl _ rfl ba (oa+i * 19) x rfl (HRA.out _ HB.out) ?_)
       | (go_at_call 18;(refine (CT.out _).mono ?_);rintro e w3 ⟨rfl,hb⟩;(have HB3:=hid (HB.out.trans (hb.mono HB.out.size)));clear hb))
      go_roundw
      case rel=>exact⟨i+1,by omega,by go_num,congrArg (Value.int .i64) HN.out,HB3⟩
      case measure=>simp [intOf];omega
    | true =>
      obtain⟨sz,hsz⟩:∃ sz,sndZ x=sz:=⟨_,rfl⟩
      have CD:=hid (fun w:World=>by have h:=refSecond_to x w;rw [hsz] at h;exact h)
      rw [hsz] at HST
      clear hsz
      have HC1:Hid (∀ wx,Below w.heap.size w wx→wx.cell? ⟨ba,oa+i * 19+1,none⟩=some (.int .i64 x.na)):=hid fun wx hb=>HRA.out wx hb 1 _ rfl
      by_cases hna:x.na=v
      ·have hn1:(x.na == (v:Int))=true:=by simp [hna]
       have HN:Hid ((i:Int)+1=lastN X v (i+1)):=hid (by rw [HST.out];simp [hna])
       clear HST hna
       go_wp2_with (first
        | (refine za3 rfl _ rfl ba (oa+i * 19) x rfl (HRA.out _ HB.out) ?_)
        | (go_at_call 18;(refine (CT.out _).mono ?_);rintro e w3 ⟨rfl,hb⟩;(have HB3:=hid (HB.out.trans (hb.mono HB.out.size)));(have q1:=HC1.out _ HB3.out);clear hb))
       go_roundw
       case rel=>exact⟨i+1,by omega,by go_num,congrArg (Value.int .i64) HN.out,HB3⟩
       case measure=>simp [intOf];omega
      ·have hn1:(x.na == (v:Int))=false:=by simp [hna]
       by_cases hsv:sz=v
       ·have hn2:(sz == (v:Int))=true:=by simp [hsv]
        have HN:Hid ((i:Int)+1=lastN X v (i+1)):=hid (by rw [HST.out];simp [hsv])
        clear HST hna hsv
        go_wp2_with (first
         | (refine nd_load_ga (by rfl) _ rfl ba (oa+i * 19) x rfl (HRA.out _ HB3.out) ?_)
         | (refine za3 rfl _ rfl ba (oa+i * 19) x rfl (HRA.out _ HB.out) ?_)
         | (go_at_call 18;(refine (CT.out _).mono ?_);rintro e w3 ⟨rfl,hb⟩;(have HB3:=hid (HB.out.trans (hb.mono HB.out.size)));(have q1:=HC1.out _ HB3.out);clear hb)
         | (go_at_call 20;(refine (CD.out _).mono ?_);rintro e w4 ⟨rfl,hb⟩;(have HB4:=hid (HB3.out.trans (hb.mono HB3.out.size)));clear hb))
        go_roundw
        case rel=>exact⟨i+1,by omega,by go_num,congrArg (Value.int .i64) HN.out,HB4⟩
        case measure=>simp [intOf];omega
       ·have hn2:(sz == (v:Int))=false:=by simp [hsv]
        have HN:Hid (F=lastN X v (i+1)):=hid (by rw [HST.out];simp [hna,hsv])
        clear HST hna hsv
        go_wp2_with (first
         | (refine nd_load_ga (by rfl) _ rfl ba (oa+i * 19) x rfl (HRA.out _ HB3.out) ?_)
         | (refine za3 rfl _ rfl ba (oa+i * 19) x rfl (HRA.out _ HB.out) ?_)
         | (go_at_call 18;(refine (CT.out _).mono ?_);rintro e w3 ⟨rfl,hb⟩;(have HB3:=hid (HB.out.trans (hb.mono HB.out.size)));(have q1:=HC1.out _ HB3.out);clear hb)
         | (go_at_call 20;(refine (CD.out _).mono ?_);rintro e w4 ⟨rfl,hb⟩;(have HB4:=hid (HB3.out.trans (hb.mono HB3.out.size)));clear hb))
        go_roundw
        case rel=>exact⟨i+1,by omega,by go_num,congrArg (Value.int .i64) HN.out,HB4⟩
        case measure=>simp [intOf];omega
   ·obtain rfl:i=n:=by omega
    go_wp2_with fail
    go_ret
    exact⟨rfl,HB.out⟩
def FewPost (n:Nat) (w:World) (e:Ending) (w':World):Prop:=∃ b:Bool,e=.returned (.bool b)∧(b=true→n≤12)∧Below w.heap.size w w'
theorem few_to (X:Nat→Nd) (n c:Nat) (A:Option Addr) (w:World) (hA:za4 w w.heap.size A n X) :
  Calls Tryd.prog 5 #[.slice A n c,.agg #[.int .i64 0,.int .i64 0,.int .i64 0,.slice none 0 0]] w (FewPost n w):=by
 have HA:=hid hA
 have HB0:=hid ((Below.refl w.heap.size w).alloc (le_refl _) (.cells #[.int .i64 0,.int .i64 0,.int .i64 0,.slice none 0 0] 28))
 have q3:(w.alloc (.cells #[.int .i64 0,.int .i64 0,.int .i64 0,.slice none 0 0] 28)).cell? ⟨w.heap.size,3,none⟩=some (.slice none 0 0):=by rw [Kit.zar];rfl
 clear hA
 go_enter Tryd.func5,Tryd.ntmps5
 go_upto_region 1 with fail
 generalize w.alloc (.cells #[.int .i64 0,.int .i64 0,.int .i64 0,.slice none 0 0] 28)=W0 at HB0 q3 ⊢
 by_cases h:n≤12
 ·have h2:¬ (n:Int) > 12:=by omega
  go_wp2_with fail
  go_loop [5] (fun u=>∃ i:Nat,i≤n∧u=.int .i64 i) (fun u=>n - (intOf u).toNat)
  case atStart=>exact⟨0,Nat.zero_le _,rfl⟩
  case round =>
   obtain⟨i,hi,rfl⟩:=hrel
   by_cases hlt:i < n
   ·obtain⟨ba,oa,rfl,hba,hra⟩:=(HA.out.below HB0.out) i hlt
    have i1:(i:Int) < (n:Int):=by omega
    have ib:(0:Int)≤(i:Int):=by omega
    have c9:=hra 9 (.slice (X i).WA (X i).nW (X i).cW) rfl
    have c10:=hra 10 (.slice (X i).BA (X i).nB (X i).cB) rfl
    clear hra hba
    generalize X i=x at *
    by_cases a1:(x.nW:Int) > 1000
    ·go_wp2_with fail
     go_ret
     exact⟨false,rfl,fun h=>(nomatch h),HB0.out⟩
    ·by_cases a2:(x.nB:Int) > 100
     ·go_wp2_with fail
      go_ret
      exact⟨false,rfl,fun h=>(nomatch h),HB0.out⟩
     ·go_wp2_with fail
      go_round
      case rel=>exact⟨i+1,by omega,by go_num⟩
      case measure=>simp [intOf];omega
   ·obtain rfl:i=n:=by omega
    go_wp2_with fail
    go_ret
    exact⟨true,rfl,fun _=>h,HB0.out⟩
 ·have h2:(n:Int) > 12:=by omega
  go_wp2_with fail
  go_ret
  exact⟨false,rfl,fun h=>(nomatch h),HB0.out⟩
end CGraph
end
end Go.Proofs.YtdphhfijgckhiaaDoor
