/- -/
import Derived.Test.YtdphhfijgckhiaaDoorGQ42
open Go.Lib (hid)
open Nat (le_refl lt_of_succ_lt lt_succ_self)
set_option linter.unusedVariables false
set_option linter.unusedSimpArgs false
set_option maxRecDepth 100000
set_option maxHeartbeats 16000000
namespace Go.Proofs.YtdphhfijgckhiaaDoor
open Go Go.ChangeShapes Go.WideShapes Go.ChangeAt Go.RowKit
section
namespace CArena
open Plain
theorem info_parts {P:Program} {t:TypeId} {z:Option Value} {s b:Nat} (h:(P.info? t).map (fun i=>(i.zero,i.size,i.bytes))=some (z,s,b)):∃ i,P.info? t=some i∧i.zero=z∧i.size=s∧i.bytes=b:=by
 cases hi:P.info? t with
 | none=>rw [hi] at h;cases h
 | some i=>rw [hi] at h;simp at h;exact⟨i,rfl,h.1,h.2.1,h.2.2⟩
theorem info_st:(Tryd.prog.info? 88).map (fun i=>(i.zero,i.size,i.bytes))=some (some (.agg #[.int .i64 0,.int .i64 0]),2,16):=by kernel_rfl
theorem info_int:(Tryd.prog.info? 3).map (fun i=>(i.zero,i.size,i.bytes))=some (some (.int .i64 0),1,8):=by kernel_rfl
theorem live_occ {U:Nat→Int} {k i:Nat} (h:k < i):liveZ U k i=decide ((i:Int)≤U k):=by
 unfold liveZ;rw [decide_eq_decide];omega
def OccPost (S U P:Nat→Int) (i:Nat) (w:World) (e:Ending) (w':World):Prop :=
 ∃ (A:Option Addr) (n c:Nat) (L:List (Int × Int)),e=.returned (.slice A n c)∧L.length=n∧n≤c∧c≤maxLen∧n≤i∧Kit.Rd w' w'.heap.size A (prV L)∧(∀ a,a∈L↔a∈occL S U P i i)∧L.Pairwise (fun a b=>a.1≤b.1)∧Below w.heap.size w w'
theorem occ_to (S U P:Nat→Int) (m i:Nat) (hi:i < m) (hm:m≤900) (M:Int) (hM:M≤1000000000) (hP:∀ k,k < i→0≤P k∧P k≤M∧0≤P k+S k∧P k+S k≤M) (hS:∀ k,k < i→0≤S k∧S k≤1048576) (A1 A2 A3:Option Addr) (c1 c2 c3:Nat) (w:World)
  (h1:Kit.Rd w w.heap.size A1 (rowV S m)) (h2:Kit.Rd w w.heap.size A2 (rowV U m)) (h3:Kit.Rd w w.heap.size A3 (rowV P i)) :
  Calls Tryd.prog 29 #[.slice A1 m c1,.slice A2 m c2,.slice A3 i c3] w (OccPost S U P i w):=by
 have H1:=hid h1
 have H2:=hid h2
 have H3:=hid h3
 have HP:=hid hP
 have HSB:=hid hS
 obtain⟨i0,hi0,hi1,hi2,hi3⟩:=info_parts info_st
 clear h1 h2 h3 hP hS
 go_enter Tryd.func29,Tryd.ntmps29
 go_wp2_with fail
 go_loopw [7,12] (fun v u wr=>∃ k:Nat,k≤i∧u=.int .i64 k∧Hid (wr.ownsRow w.heap.size 88 2 v (occL S U P i k).length (prV (occL S U P i k)))∧Hid (Below w.heap.size w wr)) (fun _ u _=>i - (intOf u).toNat)
 case atStart=>exact⟨0,Nat.zero_le _,rfl,hid (World.ownsRow_nil _ _ _ _),hid (Below.refl _ _)⟩
 case round =>
  obtain⟨k,hk,rfl,HO,HB⟩:=hrel
  by_cases hlt:k < i
  ·obtain⟨Av,cv,rfl, -, -, -⟩:=Kit.zba HO.out
   obtain⟨b1,o1,rfl, -,q1⟩:=rd_at (H1.out.below HB.out) (by omega)
   obtain⟨b3,o3,rfl, -,q3⟩:=rd_at (H3.out.below HB.out) (by omega)
   have d1:=q1 k (by omega)
   have d3:=q3 k hlt
   obtain⟨p0,p1,p2,p3⟩:=HP.out k hlt
   obtain⟨s0,s1⟩:=HSB.out k hlt
   have k0:(0:Int)≤(k:Int):=by omega
   have k1:(k:Int) < (i:Int):=by omega
   have k2:(k:Int) < (m:Int):=by omega
   have ew:IntKind.i64.wrap (P k+S k)=P k+S k:=IntWalk.i64_in _ (by omega)
   have hl:=live_occ (U:=U) hlt
   have hlen:=occL_len S U P i k
   have HLEN:=hid hlen
   have CL:=hid (fun (wx:World) (hb:Below w.heap.size w wx)=>live_to U k m c2 (i:Int) i rfl (by omega) A2 wx (H2.out.below hb))
   clear q1 q3 hlen
   by_cases hu:(i:Int)≤U k
   ·have hl2:liveZ U k i=true:=by rw [hl];simpa using hu
    rw [hl2] at CL
    have he:occL S U P i (k+1)=occL S U P i k ++ [(P k,P k+S k)]:=by rw [occL,if_pos hu]
    have HE:=hid he
    clear hl hl2 hu he
    go_wp2_with (first
     | (go_at_call 46;(refine (CL.out _ HB.out).mono ?_);rintro e w1 ⟨rfl,rfl⟩)
     | (at_builtin
        refine Kit.zau _ rfl (.tmp 22) (.tmp 31) _ rfl w.heap.size 88 i0 (.agg #[.int .i64 0,.int .i64 0]) 2 16 Tryd.underlying72 hi0 hi1 hi2 hi3 rfl (by decide) _ _ (prV (occL S U P i k)) rfl (HO.out.alloc _) _ _ 1 1 [.int .i64 (P k),.int .i64 (P k+S k)] rfl rfl (Kit.Rd.new _ _ _ (lt_succ_self _)) (Kit.ints_one .i64 [P k,P k+S k]) (by have:=HLEN.out;unfold maxLen;omega) (by have:=HLEN.out;omega) (by have:=HB.out.size;simp;omega) ?_
        intro v2 w2 hown2 hg2 hat2
        have hB2:Below w.heap.size w w2:=(HB.out.alloc HB.out.size _).grown hg2 (by have:=HB.out.size;simp;omega) (fun q hq=>Kit.zax HO.out q hq)
        have e1:prV (occL S U P i k) ++ [.int .i64 (P k),.int .i64 (P k+S k)]=prV (occL S U P i (k+1)):=by rw [HE.out,prV_append];rfl
        have e2:(occL S U P i k).length+1=(occL S U P i (k+1)).length:=by rw [HE.out];simp
        rw [e1,e2] at hown2
        have HO3:=hid hown2
        have HB3:=hid hB2
        clear hown2 hg2 hat2 hB2 e1 e2))
    go_roundw
    case rel=>exact⟨k+1,by omega,by go_num,HO3,HB3⟩
    case measure=>simp [intOf];omega
   ·have hl2:liveZ U k i=false:=by rw [hl];simpa using hu
    rw [hl2] at CL
    have he:occL S U P i (k+1)=occL S U P i k:=by rw [occL,if_neg hu,List.append_nil]
    have HO3:Hid (wr.ownsRow w.heap.size 88 2 (.slice Av (occL S U P i k).length cv) (occL S U P i (k+1)).length (prV (occL S U P i (k+1)))):=by rw [he];exact HO
    clear hl hl2 hu he
    go_wp2_with (go_at_call 46;(refine (CL.out _ HB.out).mono ?_);rintro e w1 ⟨rfl,rfl⟩)
    go_roundw
    case rel=>exact⟨k+1,by omega,by go_num,HO3,HB⟩
    case measure=>simp [intOf];omega
  ·obtain rfl:k=i:=by omega
   have hlen:=occL_len S U P k k
   have hbig:(occL S U P k k).length≤4000:=by omega
   generalize hL:occL S U P k k=L at *
   rcases Nat.eq_zero_or_pos L.length with h0 | h0
   ·obtain⟨Av,cv,rfl,hc1,hc2,hrd⟩:=Kit.zba HO.out
    have hnil:L=[]:=List.eq_nil_of_length_eq_zero h0
    rw [h0] at hc1 ⊢
    have HRD:=hid hrd
    clear HO hrd hlen hbig
    go_wp2_with (go_at_call 47;(refine (sort_none _ _ _ _).mono ?_);rintro e w1 ⟨rfl,rfl⟩)
    go_ret
    refine⟨Av,0,cv,L,rfl,h0,hc1,hc2,Nat.zero_le _,HRD.out,fun a=>by rw [hL],?_,HB.out⟩
    rw [hnil];exact List.Pairwise.nil
   ·obtain⟨g,cv,rfl,hg,hc1,hc2, -⟩:=Kit.own_form HO.out h0
    have hs:=sort_to L L.length rfl h0 hbig g cv _ _ HO.out
    have HS:=hid hs
    have hge:=Kit.zax HO.out
    have HGE:=hid hge
    clear hs hbig hge
    go_wp2_with (go_at_call 47;(refine HS.out.mono ?_);rintro e w1 ⟨rfl,L',hl',hm',hp',ho',hg'⟩;(have HL':=hid hl');(have HM':=hid hm');(have HP':=hid hp');(have HO':=hid ho');(have HG':=hid hg');clear hl' hm' hp' ho' hg')
    go_ret
    obtain⟨g2,cv2,e2, -, -, -,hrd⟩:=Kit.own_form HO'.out h0
    cases e2
    exact⟨_,L.length,cv,L',rfl,HL'.out,hc1,hc2,hlen,hrd,fun a=>by rw [hL];exact HM'.out a,HP'.out,HB.out.grown HG'.out (HB.out.size) (fun q hq=>by cases hq;exact hg)⟩
end CArena
end
end Go.Proofs.YtdphhfijgckhiaaDoor
