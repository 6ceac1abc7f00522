/- -/
import Derived.Test.YtdphhfijgckhiaaDoorGQ43
open Go.Lib (hid)
open Nat (le_refl lt_of_succ_lt lt_succ_self)
set_option linter.unusedVariables false
set_option linter.unusedSimpArgs false
set_option maxRecDepth 100000
set_option maxHeartbeats 16000000
namespace Go.Proofs.YtdphhfijgckhiaaDoor
open Go Go.ChangeShapes Go.WideShapes Go.ChangeAt Go.RowKit
section
namespace CArena
open Plain
theorem rightB_iff {S:Nat→Int} {n m:Nat} (hn:n≤1024):za5 S n m=true↔n=m∧∀ k,k < n→0≤S k∧S k≤1048576:=by
 simp only [za5,Bool.and_eq_true,decide_eq_true_eq,inN_iff]
 constructor
 ·rintro⟨⟨a,b⟩,c⟩;exact⟨a,c⟩
 ·rintro⟨a,c⟩;exact⟨⟨a,hn⟩,c⟩
theorem rowV_succ (F:Nat→Int) (k:Nat) (x:Int) (h:F k=x):rowV F k ++ [.int .i64 x]=rowV F (k+1):=by
 simp [rowV,List.range_succ,h]
def PlcPost (S U:Nat→Int) (n:Nat) (w:World) (e:Ending) (w':World):Prop :=
 ∃ v,e=.returned (.tuple #[v,.int .i64 (roomZ S (plc S U) n),.bool true])∧w'.ownsRow w.heap.size 3 1 v n (rowV (plc S U) n)∧Below w.heap.size w w'
theorem place_yes (S U:Nat→Int) (n c c':Nat) (hn:n≤900) (hyes:∀ k,k < n→0≤S k∧S k≤1048576) (A A':Option Addr) (w:World) (hr:Kit.Rd w w.heap.size A (rowV S n)) (hr':Kit.Rd w w.heap.size A' (rowV U n)) :
  Calls Tryd.prog 15 #[.slice A n c,.slice A' n c'] w (PlcPost S U n w):=by
 have C:=zai S n c n c' (by omega) A A' w hr
 rw [(rightB_iff (by omega)).2 ⟨rfl,hyes⟩] at C
 have HC:=hid C
 have HR:=hid hr
 have HR':=hid hr'
 have HY:=hid hyes
 obtain⟨i0,hi0,hi1,hi2,hi3⟩:=info_parts info_int
 clear C hr hr' hyes
 go_enter Tryd.func15,Tryd.ntmps15
 go_wp2_with (go_at_call 27;(refine HC.out.mono ?_);rintro e w1 ⟨rfl,rfl⟩)
 go_loopw [7,8,18] (fun v a u wr=>∃ k:Nat,k≤n∧u=.int .i64 k∧a=.int .i64 (roomZ S (plc S U) k)∧Hid (wr.ownsRow w.heap.size 3 1 v k (rowV (plc S U) k))∧Hid (Below w.heap.size w wr)) (fun _ _ u _=>n - (intOf u).toNat)
 case atStart=>exact⟨0,Nat.zero_le _,rfl,rfl,hid (World.ownsRow_nil _ _ _ _),hid (Below.refl _ _)⟩
 case round =>
  obtain⟨k,hk,rfl,rfl,HO,HB⟩:=hrel
  by_cases hlt:k < n
  ·obtain⟨Av,cv,rfl,hc1,hc2,hrd⟩:=Kit.zba HO.out
   obtain⟨b1,o1,rfl,hb1,q1⟩:=rd_at (HR.out.below HB.out) (by omega)
   have d1:=q1 k hlt
   have hsz:=HB.out.size
   have hpl:∀ j,j < n→0≤plc S U j∧plc S U j+S j≤(n:Int) * 1048576:=fun j hj=>plc_bound HY.out hj
   obtain⟨p0,p1⟩:=hpl k hlt
   obtain⟨s0,s1⟩:=HY.out k hlt
   have hocc:=occ_to S U (plc S U) n k hlt hn ((n:Int) * 1048576) (by omega) (fun j hj=>by have:=hpl j (by omega);have:=HY.out j (by omega);omega) (fun j hj=>HY.out j (by omega)) (some ⟨b1,o1,none⟩) A' Av c c' cv wr ((HR.out.below HB.out).more hsz) ((HR'.out.below HB.out).more hsz) hrd
   have hfree:∀ (L:List (Int × Int)) (Ax:Option Addr) (nx cx:Nat) (wx:World),L.length=nx→nx≤cx→cx≤maxLen→nx≤k→(∀ a,a∈L↔a∈occL S U (plc S U) k k)→L.Pairwise (fun a b=>a.1≤b.1)→Kit.Rd wx wx.heap.size Ax (prV L)→Calls Tryd.prog 28 #[.slice Ax nx cx,.int .i64 (S k)] wx fun e w'=>e=.returned (.int .i64 (plc S U k))∧Below wx.heap.size wx w':=by
    intro L Ax nx cx wx e1 e2 e3 e4 e5 e6 e7
    refine free_to ((n:Int) * 1048576) (by omega) (S k) s0 s1 _ L Ax nx cx e1 e2 e3 (by omega) (fun a ha=>?_) (by omega) ?_ wx e7
    ·obtain⟨j,hj,_,rfl⟩:=occL_mem.1 ((e5 a).1 ha)
     have:=hpl j (by omega);have:=HY.out j (by omega)
     simp only;omega
    ·rw [plc_eq]
     exact free_best (fun j hj=>(HY.out j (by omega)).1) (fun j hj=>(hpl j (by omega)).1) e5 e6
   have HOC:=hid hocc
   have HFR:=hid hfree
   have k0:(0:Int)≤(k:Int):=by omega
   have k1:(k:Int) < (n:Int):=by omega
   have ew:IntKind.i64.wrap (plc S U k+S k)=plc S U k+S k:=IntWalk.i64_in _ (by omega)
   have hmx:=max_ite (roomZ S (plc S U) k) (plc S U k+S k)
   have hrm:max (roomZ S (plc S U) k) (plc S U k+S k)=roomZ S (plc S U) (k+1):=rfl
   rw [hrm] at hmx
   have HMX:=hid hmx
   have HRM:=hid hrm
   have hap:=rowV_succ (plc S U) k _ rfl
   have HAP:=hid hap
   clear q1 hpl hocc hfree hmx hrm hap hrd
   generalize plc S U k=p at *
   generalize S k=sk at *
   generalize roomZ S (plc S U) k=rk at *
   go_wp2_with (first
    | (go_at_call 29;(refine HOC.out.mono ?_);rintro e w1 ⟨Ax,nx,cx,L,rfl,g1,g2,g3,g4,g5,g6,g7,g8⟩;(have G:=hid (HFR.out L Ax nx cx w1 g1 g2 g3 g4 g6 g7 g5));(have HB1:=hid (HB.out.trans (g8.mono HB.out.size)));(have HO1:=hid (Kit.own_below HO.out g8));clear g1 g5 g6 g7 g8 HOC)
    | (go_at_call 28;(refine G.out.mono ?_);rintro e w2 ⟨rfl,g1⟩;(have HB2:=hid (HB1.out.trans (g1.mono HB1.out.size)));(have HO2:=hid (Kit.own_below HO1.out g1));clear g1)
    | (at_builtin
       refine Kit.zau _ rfl (.tmp 28) (.tmp 30) _ rfl w.heap.size 3 i0 (.int .i64 0) 1 8 Tryd.underlying31 hi0 hi1 hi2 hi3 rfl (by decide) _ k (rowV (plc S U) k) rfl (HO2.out.alloc _) _ _ 1 1 [.int .i64 p] rfl rfl (Kit.Rd.new _ _ _ (lt_succ_self _)) (Kit.ints_one .i64 [p]) (by unfold maxLen;omega) (by omega) (by have:=HB2.out.size;simp;omega) ?_
       intro v3 w3 hown3 hg3 hat3
       have hB3:Below w.heap.size w w3:=(HB2.out.alloc HB2.out.size _).grown hg3 (by have:=HB2.out.size;simp;omega) (fun q hq=>Kit.zax HO2.out q hq)
       rw [HAP.out] at hown3
       have HO3:=hid hown3
       have HB3:=hid hB3
       clear hown3 hg3 hat3 hB3))
   go_roundw
   case rel=>exact⟨k+1,by omega,by go_num,(by first | exact congrArg (Value.int .i64) HMX.out | exact congrArg (Value.int .i64) HRM.out),HO3,HB3⟩
   case measure=>simp [intOf];omega
  ·obtain rfl:k=n:=by omega
   go_wp2_with fail
   go_ret3
   exact⟨_,rfl,HO.out,HB.out⟩
end CArena
end
end Go.Proofs.YtdphhfijgckhiaaDoor
