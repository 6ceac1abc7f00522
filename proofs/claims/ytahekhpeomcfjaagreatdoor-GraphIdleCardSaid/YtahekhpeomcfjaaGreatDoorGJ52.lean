/- -/
import Derived.Test.YtahekhpeomcfjaaGreatDoorGJ51
open Go.Lib (hid)
open Nat (le_refl lt_of_succ_lt lt_succ_self)
set_option linter.unusedVariables false
set_option linter.unusedSimpArgs false
set_option maxRecDepth 100000
set_option maxHeartbeats 16000000
namespace Go.Proofs.YtahekhpeomcfjaaGreatDoor
namespace CConv
end CConv
namespace CFix
end CFix
namespace CKind
end CKind
namespace CSat
end CSat
namespace CShape
end CShape
namespace CTensor
end CTensor
open Go Go.ChangeShapes Go.WideShapes Go.ChangeAt Go.RowKit Go.Deep
section
namespace CGraph
open Plain CSat CFix CShape CTensor CConv CKind CRun
def FewV (n m:Nat) (w:World) (e:Ending) (w':World):Prop:=∃ b,e=.returned (.bool b)∧(b=true→n≤12∧m≤300)∧Below w.heap.size w w'
theorem fewv_to (X:Nat→Nd) (n c:Nat) (A:Option Addr) (a1 a2 a3:Int) (DA:Option Addr) (m cm:Nat) (w:World) (hA:NodesAt w w.heap.size A n X) :
  Calls Tryz.prog 5 #[.slice A n c,.agg #[.int .i64 a1,.int .i64 a2,.int .i64 a3,.slice DA m cm]] w (FewV n m w):=by
 have HA:=hid hA
 have HB0:=hid ((Below.refl w.heap.size w).alloc (le_refl _) (.cells #[.int .i64 a1,.int .i64 a2,.int .i64 a3,.slice DA m cm] 27))
 have q3:(w.alloc (.cells #[.int .i64 a1,.int .i64 a2,.int .i64 a3,.slice DA m cm] 27)).cell? ⟨w.heap.size,3,none⟩=some (.slice DA m cm):=by rw [Kit.zaf];rfl
 clear hA
 go_enter Tryz.func5,Tryz.ntmps5
 go_upto_region 1 with fail
 generalize w.alloc (.cells #[.int .i64 a1,.int .i64 a2,.int .i64 a3,.slice DA m cm] 27)=W0 at HB0 q3 ⊢
 by_cases h:n≤12
 ·have h2:¬ (n:Int) > 12:=by omega
  by_cases hm:m≤300
  ·have h3:¬ (m:Int) > 300:=by omega
   go_wp2_with fail
   go_loop [5] (fun u=>∃ i:Nat,i≤n∧u=.int .i64 i) (fun u=>n - (intOf u).toNat)
   case atStart=>exact⟨0,Nat.zero_le _,rfl⟩
   case round =>
    obtain⟨i,hi,rfl⟩:=hrel
    by_cases hlt:i < n
    ·obtain⟨ba,oa,rfl,hba,hra⟩:=(HA.out.below HB0.out) i hlt
     have i1:(i:Int) < (n:Int):=by omega
     have ib:(0:Int)≤(i:Int):=by omega
     have c9:=hra 9 (.slice (X i).WA (X i).nW (X i).cW) rfl
     have c10:=hra 10 (.slice (X i).BA (X i).nB (X i).cB) rfl
     clear hra hba
     generalize X i=x at *
     by_cases a1:(x.nW:Int) > 1000
     ·go_wp2_with fail
      go_ret
      exact⟨false,rfl,fun h=>(nomatch h),HB0.out⟩
     ·by_cases a2:(x.nB:Int) > 100
      ·go_wp2_with fail
       go_ret
       exact⟨false,rfl,fun h=>(nomatch h),HB0.out⟩
      ·go_wp2_with fail
       go_round
       case rel=>exact⟨i+1,by omega,by go_num⟩
       case measure=>simp [intOf];omega
    ·obtain rfl:i=n:=by omega
     go_wp2_with fail
     go_ret
     exact⟨true,rfl,fun _=>⟨h,hm⟩,HB0.out⟩
  ·have h3:(m:Int) > 300:=by omega
   go_wp2_with fail
   go_ret
   exact⟨false,rfl,fun h=>(nomatch h),HB0.out⟩
 ·have h2:(n:Int) > 12:=by omega
  go_wp2_with fail
  go_ret
  exact⟨false,rfl,fun h=>(nomatch h),HB0.out⟩
def ndV (Y:Nat→Nd):Nat→List Value
 | 0=>[]
 | k+1=>ndV Y k ++ (Y k).val.toList
theorem val_len (x:Nd):x.val.toList.length=19:=rfl
theorem ndV_len (Y:Nat→Nd):∀ k,(ndV Y k).length=k * 19
 | 0=>rfl
 | k+1=>by rw [ndV,List.length_append,ndV_len Y k,val_len];omega
theorem ndV_get (Y:Nat→Nd):∀ n k q v,k < n→(Y k).val.toList[q]?=some v→(ndV Y n)[k * 19+q]?=some v
 | 0,_,_,_,h,_=>absurd h (Nat.not_lt_zero _)
 | n+1,k,q,v,h,hv=>by
   have hq:q < 19:=by have:=(List.getElem?_eq_some_iff.1 hv).1;rwa [val_len] at this
   rw [ndV]
   by_cases hk:k < n
   ·rw [List.getElem?_append_left (by rw [ndV_len];omega)];exact ndV_get Y n k q v hk hv
   ·obtain rfl:k=n:=by omega
    rw [List.getElem?_append_right (by rw [ndV_len];omega),ndV_len,show k * 19+q - k * 19=q by omega];exact hv
theorem nodes_row {w:World} {B:Nat} {A:Option Addr} {n:Nat} {Y:Nat→Nd} (h:Kit.Rd w B A (ndV Y n)):NodesAt w B A n Y:=fun j hj=>by
 obtain⟨b,o,e,hb,hc⟩:=h.plain (by rw [ndV_len];omega)
 exact⟨b,o,e,hb,fun q v hq=>by rw [Nat.add_assoc];exact hc (j * 19+q) v (ndV_get Y n j q v hj hq)⟩
theorem info_nd19:(Tryz.prog.info? 44).map (fun i=>(i.zero,i.size,i.bytes))=some (some (.agg nd0.val),19,168):=by kernel_rfl
theorem tn_load_ga {ops:Array Oper} {rest:List Oper} {op:Oper} {a:Act} {w:World} {Q:Exit→Act→World→Prop} (hw:Region.wanted op (yielded ops a.tmps)=true) (x:Operand) (ho:op.op=.load 27 x)
  (b o:Nat) (cs:List Value) (hx:a.eval x=.pointer (some ⟨b,o,none⟩)) (hb:w.rangeAt b o cs) (hl:cs.length=4)
  (h:wpList Tryz.prog ops Q rest (a.put op.dst (.agg cs.toArray)) w):wpList Tryz.prog ops Q (op :: rest) a w :=
 wpList_step fun K hK=>by rw [if_pos hw];exact wp_load_mid 27 x ho b o hx cs _ hb Tryz.underlying27 rfl (by rw [hl];kernel_rfl) (hK _ _ h)
theorem small_two {Y:Nat→Nd} {WS BS:Nat→List Int} {n:Nat} (hN:∀ k,k < n→NIn (Y k) (WS k) (BS k)):∀ j,j < n+1→(Y2 Y j).Small
 | 0,_=>nin_flat.small
 | j+1,h=>(hN j (by omega)).small
theorem ev_one {b:Bool} {o:Option (Int × Int)} {Q:Nat→Ten} {R:Nat→Res} {n:Nat} {w w':World} {e:Ending} (h:EvPost b o Q R n w e w') (hs:stopV b o (stopR R n)=none) (a:Val) (ha:a.ten=Q n) (hl:a.zs.length=a.m) :
  ∃ A2 c2,e=.returned (.tuple #[.agg #[.int .i64 a.X,.int .i64 a.Y,.int .i64 a.U,.slice A2 a.m c2],.int .i64 (n:Int),.int .i64 0])∧Kit.Rd w' w'.heap.size A2 (I8s a.zs)∧Below w.heap.size w w':=by
 obtain⟨⟨k,z, -,h1, -⟩ | ⟨-,u,rfl,hv,hq⟩,hb⟩:=h
 ·rw [hs] at h1;cases h1
 ·rw [← ha] at hq
  obtain⟨X,Y,U,A,m,c,zs⟩:=u
  have h1:=hv.len
  have h2:=hv.rd
  simp only [Val.ten,Ten.mk.injEq] at hq
  obtain⟨rfl,rfl,rfl,rfl⟩:=hq
  obtain rfl:m=a.m:=by rw [← hl];exact h1.symm
  exact⟨A,c,rfl,h2,hb⟩
theorem rd_newN (w:World) (x:Nd) (T:TypeId):Kit.Rd (w.alloc (.cells x.val T)) (w.heap.size+1) (some ⟨w.heap.size,0,none⟩) x.val.toList:=Kit.Rd.new w x.val.toList T (lt_succ_self _)
theorem nd_ones (x:Nd):∀ u∈x.val.toList,u.oneCell'=true:=by
 intro u hu
 simp [Nd.val] at hu
 rcases hu with rfl | rfl | rfl | rfl | rfl | rfl | rfl | rfl | rfl | rfl | rfl | rfl | rfl | rfl | rfl | rfl | rfl | rfl | rfl <;> rfl
theorem idle_seqs (Y:Nat→Nd) (WS BS:Nat→List Int) (n:Nat) (t0:Tri) (zs:List Int) (b:Bool) (hb:tensB t0.1 t0.2.1 t0.2.2 zs.length=b) (h8:I8b zs) (hm6:zs.length≤1000000) (hN:∀ k,k < n→NIn (Y k) (WS k) (BS k)) :
  ∃ Q R ia ib,Q 0=⟨t0.1,t0.2.1,t0.2.2,zs⟩∧(outS Y t0 n=none→SeqOf Y Y WS BS n Q R ia ib∧(∀ k,k < n→(Y k).checkZ=0)∧(∀ k,k≤n→SoundT (Q k))∧∀ k,k < n→(Y k).na=(ia k:Nat)∧ia k≤k∧(Y k).nb=(ib k:Nat)∧ib k≤k):=by
 by_cases ho:outS Y t0 n=none
 ·obtain⟨h1,h2,h3,h4⟩:=outS_none ho
  obtain⟨Q,R,hS,h0,hs,hck⟩:=seq_all Y WS BS t0 ⟨t0.1,t0.2.1,t0.2.2,zs⟩ ⟨h8,hm6⟩ n hN h4
  exact⟨Q,R,_,_,h0,fun _=>⟨hS,hck,hs,fun k hk=>⟨(hS.na k hk).1,(hS.na k hk).2,(hS.nb k hk).1,(hS.nb k hk).2⟩⟩⟩
 ·exact⟨fun _=>⟨t0.1,t0.2.1,t0.2.2,zs⟩,fun _=>Res.bad 0,fun _=>0,fun _=>0,rfl,fun h=>absurd h ho⟩
theorem ev_two {b:Bool} {o:Option (Int × Int)} {Q:Nat→Ten} {R:Nat→Res} {n:Nat} {w w':World} {e:Ending} (h:EvPost b o Q R n w e w') :
  ((∃ k z,(z != 0)=true∧¬ z=0∧e=.returned (.tuple #[.agg #[.int .i64 0,.int .i64 0,.int .i64 0,.slice none 0 0],.int .i64 k,.int .i64 z])) ∨
  (Hid (stopV b o (stopR R n)=none)∧∃ a:Val,e=.returned (.tuple #[.agg #[.int .i64 a.X,.int .i64 a.Y,.int .i64 a.U,.slice a.A a.m a.c],.int .i64 (n:Int),.int .i64 0])∧Hid (VOk w' a)∧Hid (a.ten=Q n)))∧Below w.heap.size w w':=by
 obtain⟨⟨k,z,hz,hs,he⟩ | ⟨hs,a,he,hv,hq⟩,hb⟩:=h
 ·exact⟨.inl ⟨k,z,by simpa using hz,hz,he⟩,hb⟩
 ·exact⟨.inr ⟨hid hs,a,he,hid hv,hid hq⟩,hb⟩
theorem stopV_none {b:Bool} {o:Option (Int × Int)} {r:Option (Nat × Int)} (h:stopV b o r=none):b=true∧o=none∧r=none:=by
 unfold stopV at h
 split at h
 ·cases h
 rename_i hb
 cases o with
 | some x=>cases h
 | none =>
   cases r with
   | some q=>cases h
   | none=>exact⟨by simpa using hb,rfl,rfl⟩
theorem idle_walk (Y:Nat→Nd) (WS BS:Nat→List Int) (n c:Nat) (t0:Tri) (zs:List Int) (m cm:Nat) (DA:Option Addr) (hlen:zs.length=m) (hm6:m≤1000000) (hmc:m≤cm) (h8:I8b zs) (A:Option Addr) (w:World) (hN:∀ k,k < n→NIn (Y k) (WS k) (BS k)) (hI:BlockIn Y WS BS n A w) (hD:Kit.Rd w w.heap.size DA (I8s zs)) :
  Calls Tryz.prog 4 #[.slice A n c,.agg #[.int .i64 t0.1,.int .i64 t0.2.1,.int .i64 t0.2.2,.slice DA m cm]] w fun e w'=>e=.returned (.bool true)∧Below w.heap.size w w':=by
 obtain⟨b,hb⟩:∃ b,tensB t0.1 t0.2.1 t0.2.2 m=b:=⟨_,rfl⟩
 obtain⟨Q,R,ia,ib,hq0,hSQ⟩:=idle_seqs Y WS BS n t0 zs b (by rw [hlen];exact hb) h8 (by omega) hN
 obtain⟨q0,q1,q2,q3⟩:=tn_cells t0.1 t0.2.1 t0.2.2 DA m cm w
 have HB0:=hid ((Below.refl w.heap.size w).alloc (le_refl _) (.cells #[.int .i64 t0.1,.int .i64 t0.2.1,.int .i64 t0.2.2,.slice DA m cm] 27))
 have HSZ:Hid (w.heap.size < (w.alloc (.cells #[.int .i64 t0.1,.int .i64 t0.2.1,.int .i64 t0.2.2,.slice DA m cm] 27)).heap.size):=hid (by simp)
 have HI:=hid hI
 have HD:=hid hD
 have HNN:=hid hN
 have CE:Hid (n≤50→∀ wx,Below w.heap.size w wx→Calls Tryz.prog 9 #[.slice A n c,.agg #[.int .i64 t0.1,.int .i64 t0.2.1,.int .i64 t0.2.2,.slice DA m cm]] wx (EvPost b (outS Y t0 n) Q R n wx)) :=
  hid (fun hn wx h=>ceval_to Y Y WS BS Q R ia ib n c hn t0 zs m cm DA hlen hm6 h8 b hb (fun ho=>(hSQ ho).1) hq0 A wx (fun j hj=>(hN j hj).small) (hI.grown h) ((hD.below h).more h.size))
 have HHB:=hid hb
 have HLEN:=hid hlen
 have HM6:=hid hm6
 have H8:=hid h8
 have HQ0:=hid hq0
 have HSQ:=hid hSQ
 clear hb hlen hm6 h8 hq0 hSQ hI hD hN hmc
 obtain⟨i0,hi0,hi1,hi2,hi3⟩:=info_parts info_nd19
 have h7:(n:Int) > 7∨¬ (n:Int) > 7:=Classical.em _
 go_enter Tryz.func4,Tryz.ntmps4
 go_upto_region 1 with fail
 generalize w.alloc (.cells #[.int .i64 t0.1,.int .i64 t0.2.1,.int .i64 t0.2.2,.slice DA m cm] 27)=W0 at q0 q1 q2 q3 HB0 HSZ ⊢
 have HQC:Hid (∀ wS,Below (w.heap.size+1) W0 wS→wS.cell? ⟨w.heap.size,0,none⟩=some (.int .i64 t0.1)∧wS.cell? ⟨w.heap.size,1,none⟩=some (.int .i64 t0.2.1)∧wS.cell? ⟨w.heap.size,2,none⟩=some (.int .i64 t0.2.2)∧wS.cell? ⟨w.heap.size,3,none⟩=some (.slice DA m cm)) :=
  hid (fun wS h=>⟨(h.cell (p:=⟨w.heap.size,0,none⟩) (lt_succ_self _)).trans q0,(h.cell (p:=⟨w.heap.size,1,none⟩) (lt_succ_self _)).trans q1,(h.cell (p:=⟨w.heap.size,2,none⟩) (lt_succ_self _)).trans q2,(h.cell (p:=⟨w.heap.size,3,none⟩) (lt_succ_self _)).trans q3⟩)
 rcases h7 with h7 | h7
 ·go_wp2_with (first
   | (go_at_call 5
      refine (fewv_to Y n c A _ _ _ DA m cm _ (HI.out.grown HB0.out).nodes).mono ?_
      rintro e w1 ⟨bf,rfl, -,hb⟩
      have HB1:=hid (HB0.out.trans (hb.mono HB0.out.size))
      clear hb
      rcases bf with _ | _)
   | (go_at_call 6
      refine (known27 _).mono ?_
      rintro e w9 ⟨rfl,hb9⟩))
  all_goals go_ret
  all_goals exact⟨rfl,HB1.out.trans (hb9.mono HB1.out.size)⟩
 ·have hn7:n≤7:=by omega
  have HN7:=hid hn7
  clear hn7
  go_upto_region 6 with (first
   | (go_at_call 5
      refine (fewv_to Y n c A _ _ _ DA m cm _ (HI.out.grown HB0.out).nodes).mono ?_
      rintro e w1 ⟨bf,rfl, -,hb⟩
      have HB1:=hid (HB0.out.trans (hb.mono HB0.out.size))
      have HV1:=hid (hb.mono HSZ.out)
      clear hb q0 q1 q2 q3
      obtain⟨g0,g1,g2,g3⟩:=HQC.out _ HV1.out
      rcases bf with _ | _)
   | (go_at_call 6
      refine (known27 _).mono ?_
      rintro e w9 ⟨rfl,hb9⟩)
   | (go_at_call 9
      refine (CE.out (by have:=HN7.out;omega) _ HB1.out).mono ?_
      rintro e w2 hpost
      obtain⟨hres,hb⟩:=ev_two hpost
      have HB2:=hid (HB1.out.trans (hb.mono HB1.out.size))
      have HV2:=hid (HV1.out.trans (hb.mono (Nat.le_trans HSZ.out HV1.out.size)))
      clear hb hpost g0 g1 g2 g3
      rcases hres with ⟨k,z,hz1,hz0,rfl⟩ | ⟨HS,a,rfl,HVA,HQN⟩)
   | (refine wpList_store_mid rfl 27 (.tmp 5) (.tmp 28) rfl w2.heap.size 0 #[.int .i64 0,.int .i64 0,.int .i64 0,.slice none 0 0] rfl rfl (zbq w2) info_tensor (zcl _ _ _ rfl) ?_
      have hal:=(Below.refl w2.heap.size w2).alloc (le_refl _) (.cells #[.int .i64 0,.int .i64 0,.int .i64 0,.slice none 0 0] 27)
      have HRG:=hid (World.rangeAt_setCells_same _ w2.heap.size 0 (#[.int .i64 0,.int .i64 0,.int .i64 0,.slice none 0 0]:Array Value).toList (zbq w2))
      obtain⟨hs1,hs2⟩:=setCells_below (#[.int .i64 0,.int .i64 0,.int .i64 0,.slice none 0 0]:Array Value).toList w2.heap.size 0 (w2.alloc (.cells #[.int .i64 0,.int .i64 0,.int .i64 0,.slice none 0 0] 27))
      have HB3:=hid (HB2.out.trans ((hal.trans hs1).mono HB2.out.size))
      clear hal hs1 hs2
      generalize (w2.alloc (.cells #[.int .i64 0,.int .i64 0,.int .i64 0,.slice none 0 0] 27)).setCells w2.heap.size 0 (#[.int .i64 0,.int .i64 0,.int .i64 0,.slice none 0 0]:Array Value).toList=W3 at HRG HB3 ⊢)
   | (refine wpList_store_mid rfl 27 (.tmp 5) (.tmp 28) rfl w2.heap.size 0 a.list.toArray rfl rfl (zbq w2) info_tensor (zcl _ _ _ rfl) ?_
      have hal:=(Below.refl w2.heap.size w2).alloc (le_refl _) (.cells #[.int .i64 0,.int .i64 0,.int .i64 0,.slice none 0 0] 27)
      have HRG:=hid (World.rangeAt_setCells_same _ w2.heap.size 0 a.list.toArray.toList (zbq w2))
      obtain⟨hs1,hs2⟩:=setCells_below a.list.toArray.toList w2.heap.size 0 (w2.alloc (.cells #[.int .i64 0,.int .i64 0,.int .i64 0,.slice none 0 0] 27))
      have HW3:=hid (hal.trans hs1)
      have HB3:=hid (HB2.out.trans (HW3.out.mono HB2.out.size))
      have HX2:Hid (w2.heap.size < ((w2.alloc (.cells #[.int .i64 0,.int .i64 0,.int .i64 0,.slice none 0 0] 27)).setCells w2.heap.size 0 a.list.toArray.toList).heap.size):=hid (by rw [hs2];simp)
      clear hal hs1 hs2
      generalize (w2.alloc (.cells #[.int .i64 0,.int .i64 0,.int .i64 0,.slice none 0 0] 27)).setCells w2.heap.size 0 a.list.toArray.toList=W3 at HRG HW3 HB3 HX2 ⊢)
   | (refine wpList_load_mid rfl 27 _ rfl w2.heap.size 0 rfl [.int .i64 0,.int .i64 0,.int .i64 0,.slice none 0 0] _ HRG.out Tryz.underlying27 rfl (by kernel_rfl) ?_)
   | (go_at_call 10
      refine (CTensor.refSame_0 0 0 _).mono ?_
      rintro e w4 ⟨rfl,hb⟩
      have HB1:=hid (HB3.out.trans (hb.mono HB3.out.size))
      clear hb))
  ·go_ret
   exact⟨rfl,HB1.out.trans (hb9.mono HB1.out.size)⟩
  ·go_ret
   exact⟨rfl,HB1.out.trans (hb9.mono HB1.out.size)⟩
  ·obtain⟨hbt,hon,hrn⟩:=stopV_none HS.out
   obtain⟨hseq,hck,hsd,hidx⟩:=HSQ.out hon
   have HSEQ:=hid hseq
   have HCK:=hid hck
   have HIDX:=hid hidx
   have HON:=hid hon
   have HRN:=hid hrn
   have HSD:=hid hsd
   have HBT:=hid hbt
   clear hbt hon hrn hseq hck hsd hidx HS HSQ CE
   go_wp2_with fail
   have HO0:Hid ((W3.alloc (.cells #[.int .i64 9,.int .i64 0,.int .i64 0,.int .i64 0,.int .i64 0,.int .i64 0,.int .i64 0,.int .i8 0,.int .i8 0,.slice none 0 0,.slice none 0 0,.int .i32 0,.int .i64 0,.int .i8 0,.int .i32 0,.int .i64 0,.int .i8 0,.int .i8 0,.int .i8 0] 44)).ownsRow W3.heap.size 44 19 (.slice (some ⟨W3.heap.size,0,none⟩) 1 1) 1 (ndV (Y2 Y) 1)) :=
    hid ⟨rfl,.inr ⟨W3.heap.size,1,_,rfl,le_refl _,heap_alloc_new W3 _,le_refl _,by unfold maxLen;omega,rfl,rfl⟩⟩
   have HBS:=hid ((Below.refl W3.heap.size W3).alloc (le_refl _) (.cells #[.int .i64 9,.int .i64 0,.int .i64 0,.int .i64 0,.int .i64 0,.int .i64 0,.int .i64 0,.int .i8 0,.int .i8 0,.slice none 0 0,.slice none 0 0,.int .i32 0,.int .i64 0,.int .i8 0,.int .i32 0,.int .i64 0,.int .i8 0,.int .i8 0,.int .i8 0] 44))
   generalize W3.alloc (.cells #[.int .i64 9,.int .i64 0,.int .i64 0,.int .i64 0,.int .i64 0,.int .i64 0,.int .i64 0,.int .i8 0,.int .i8 0,.slice none 0 0,.slice none 0 0,.int .i32 0,.int .i64 0,.int .i8 0,.int .i32 0,.int .i64 0,.int .i8 0,.int .i8 0,.int .i8 0] 44)=WV at HO0 HBS ⊢
   go_loopw [8,9] (fun v u wr=>∃ k:Nat,k≤n∧u=.int .i64 k∧Hid (wr.ownsRow W3.heap.size 44 19 v (k+1) (ndV (Y2 Y) (k+1)))∧Hid (Below W3.heap.size W3 wr)) (fun _ u _=>n - (intOf u).toNat)
   case atStart=>exact⟨0,Nat.zero_le _,rfl,HO0,HBS⟩
   case round =>
    obtain⟨k,hk,rfl,HO,HB⟩:=hrel
    clear HO0 HBS
    obtain⟨Av,cv,rfl, -, -,hrd⟩:=Kit.zam HO.out
    have hbw:=HB3.out.trans (HB.out.mono HB3.out.size)
    by_cases hlt:k < n
    ·obtain⟨ba,oa,rfl,hba,hra⟩:=(HI.out.grown hbw).nodes k hlt
     obtain⟨j1,j2,j3,j4⟩:=HIDX.out k hlt
     have k0:(0:Int)≤(k:Int):=by omega
     have k1:(k:Int) < (n:Int):=by omega
     have k9:(k:Int)≤7:=by have:=HN7.out;omega
     obtain⟨x,hx⟩:∃ x,Y k=x:=⟨_,rfl⟩
     rw [hx] at hra j1 j3
     have HX:=hid hx
     have HRA:=hid hra
     have en:IntKind.i64.wrap (x.na+1)=x.na+1:=IntWalk.i64_in _ (by omega)
     have em:IntKind.i64.wrap (x.nb+1)=x.nb+1:=IntWalk.i64_in _ (by omega)
     obtain⟨y,hy⟩:∃ y,moved x=y:=⟨_,rfl⟩
     have HY:=hid hy
     clear hx hra hba hrd hbw j1 j2 j3 j4 hy
     by_cases hA:x.na > 0
     ·have hA2:(0 < x.na)=True:=by simp;omega
      by_cases hK:x.kd=6
      ·by_cases hC:x.nb > 0
       ·have hC2:(0 < x.nb)=True:=by simp;omega
        have hK2:(x.kd == 6)=true:=by simp [hK]
        have FW:Hid (∀ w1:World,NdBox wr.heap.size x w1→NdBox wr.heap.size y ((w1.setCell ⟨wr.heap.size,1,none⟩ (.int .i64 (x.na+1))).setCell ⟨wr.heap.size,2,none⟩ (.int .i64 (x.nb+1)))):=hid (fun w1 h=>by
         rw [← HY.out,show moved x=asN x (x.na+1) (x.nb+1) by unfold moved shI;simp only [hA2,hK,hC2,if_true,if_false]]
         exact ((h.set 1 (.int .i64 (x.na+1)) (by omega) (y:=asN x (x.na+1) x.nb) rfl).set 2 (.int .i64 (x.nb+1)) (by omega) (y:=asN x (x.na+1) (x.nb+1)) rfl))
        go_wp2_with (first
         | (refine zbc rfl _ rfl ba (oa+k * 19) x rfl HRA.out ?_)
         | (refine zas rfl _ _ rfl wr.heap.size nd0 x rfl rfl (NdBox.new nd0 _ wr) ?_
            intro w1 hbx hbl hsz
            have HW4:=hid (FW.out w1 hbx).1
            have HS4:Hid (Below wr.heap.size wr ((w1.setCell ⟨wr.heap.size,1,none⟩ (.int .i64 (x.na+1))).setCell ⟨wr.heap.size,2,none⟩ (.int .i64 (x.nb+1)))):=hid ((((Below.refl _ _).alloc (le_refl _) _).trans hbl).trans (((Below.refl wr.heap.size w1).setCell (p:=⟨wr.heap.size,1,none⟩) (le_refl _) (.int .i64 (x.na+1))).setCell (p:=⟨wr.heap.size,2,none⟩) (le_refl _) (.int .i64 (x.nb+1))))
            have q0:=hbx.1.at 0 (.int .i64 x.kd) rfl
            have q1:=hbx.1.at 1 (.int .i64 x.na) rfl
            have q2:=hbx.1.at 2 (.int .i64 x.nb) rfl
            have f1:=hbx.fr 1 (by omega)
            have f2:=hbx.fr 2 (by omega)
            clear hbx hbl hsz)
         | (refine zak rfl _ rfl wr.heap.size y rfl HW4.out ?_
            have HO4:=hid (Kit.own_below HO.out HS4.out)
            have HB4:=hid (HB.out.trans (HS4.out.mono HB.out.size))
            clear q0 q1 q2 f1 f2 HW4 HS4
            generalize ((w1.setCell ⟨wr.heap.size,1,none⟩ (.int .i64 (x.na+1))).setCell ⟨wr.heap.size,2,none⟩ (.int .i64 (x.nb+1)))=W4 at HO4 HB4 ⊢
            unfold Nd.val)
         | (at_builtin
            refine Kit.zal _ rfl (.tmp 70) (.tmp 72) _ rfl W3.heap.size 44 i0 (.agg nd0.val) 19 168 Tryz.underlying22 hi0 hi1 hi2 hi3 rfl (by decide) _ (k+1) (ndV (Y2 Y) (k+1)) rfl (HO4.out.alloc _) _ _ 1 1 y.val.toList rfl rfl (rd_newN W4 y 44) (nd_ones y) (by unfold maxLen;omega) (by omega) (by have:=HB4.out.size;simp;omega) ?_
            intro v5 w5 hown5 hg5 _
            have hB5:Below W3.heap.size W3 w5:=(HB4.out.alloc HB4.out.size _).grown hg5 (by have:=HB4.out.size;simp;omega) (fun q hq=>Kit.zaj HO4.out q hq)
            have e5:ndV (Y2 Y) (k+1) ++ y.val.toList=ndV (Y2 Y) (k+1+1):=by rw [← HY.out, ← HX.out];rfl
            rw [e5] at hown5
            have HO5:=hid hown5
            have HB5:=hid hB5
            clear hown5 hg5 hB5 e5))
        go_roundw
        case rel=>exact⟨k+1,by omega,by go_num,HO5,HB5⟩
        case measure=>simp [intOf];omega
       ·have hC2:(0 < x.nb)=False:=by simp;omega
        have hK2:(x.kd == 6)=true:=by simp [hK]
        have FW:Hid (∀ w1:World,NdBox wr.heap.size x w1→NdBox wr.heap.size y (w1.setCell ⟨wr.heap.size,1,none⟩ (.int .i64 (x.na+1)))):=hid (fun w1 h=>by
         rw [← HY.out,show moved x=asN x (x.na+1) x.nb by unfold moved shI;simp only [hA2,hK,hC2,if_true,if_false]]
         exact (h.set 1 (.int .i64 (x.na+1)) (by omega) (y:=asN x (x.na+1) x.nb) rfl))
        go_wp2_with (first
         | (refine zbc rfl _ rfl ba (oa+k * 19) x rfl HRA.out ?_)
         | (refine zas rfl _ _ rfl wr.heap.size nd0 x rfl rfl (NdBox.new nd0 _ wr) ?_
            intro w1 hbx hbl hsz
            have HW4:=hid (FW.out w1 hbx).1
            have HS4:Hid (Below wr.heap.size wr (w1.setCell ⟨wr.heap.size,1,none⟩ (.int .i64 (x.na+1)))):=hid ((((Below.refl _ _).alloc (le_refl _) _).trans hbl).trans ((Below.refl wr.heap.size w1).setCell (p:=⟨wr.heap.size,1,none⟩) (le_refl _) (.int .i64 (x.na+1))))
            have q0:=hbx.1.at 0 (.int .i64 x.kd) rfl
            have q1:=hbx.1.at 1 (.int .i64 x.na) rfl
            have q2:=hbx.1.at 2 (.int .i64 x.nb) rfl
            have f1:=hbx.fr 1 (by omega)
            have f2:=hbx.fr 2 (by omega)
            clear hbx hbl hsz)
         | (refine zak rfl _ rfl wr.heap.size y rfl HW4.out ?_
            have HO4:=hid (Kit.own_below HO.out HS4.out)
            have HB4:=hid (HB.out.trans (HS4.out.mono HB.out.size))
            clear q0 q1 q2 f1 f2 HW4 HS4
            generalize (w1.setCell ⟨wr.heap.size,1,none⟩ (.int .i64 (x.na+1)))=W4 at HO4 HB4 ⊢
            unfold Nd.val)
         | (at_builtin
            refine Kit.zal _ rfl (.tmp 70) (.tmp 72) _ rfl W3.heap.size 44 i0 (.agg nd0.val) 19 168 Tryz.underlying22 hi0 hi1 hi2 hi3 rfl (by decide) _ (k+1) (ndV (Y2 Y) (k+1)) rfl (HO4.out.alloc _) _ _ 1 1 y.val.toList rfl rfl (rd_newN W4 y 44) (nd_ones y) (by unfold maxLen;omega) (by omega) (by have:=HB4.out.size;simp;omega) ?_
            intro v5 w5 hown5 hg5 _
            have hB5:Below W3.heap.size W3 w5:=(HB4.out.alloc HB4.out.size _).grown hg5 (by have:=HB4.out.size;simp;omega) (fun q hq=>Kit.zaj HO4.out q hq)
            have e5:ndV (Y2 Y) (k+1) ++ y.val.toList=ndV (Y2 Y) (k+1+1):=by rw [← HY.out, ← HX.out];rfl
            rw [e5] at hown5
            have HO5:=hid hown5
            have HB5:=hid hB5
            clear hown5 hg5 hB5 e5))
        go_roundw
        case rel=>exact⟨k+1,by omega,by go_num,HO5,HB5⟩
        case measure=>simp [intOf];omega
      ·have hK2:(x.kd == 6)=false:=by simp [hK]
       have FW:Hid (∀ w1:World,NdBox wr.heap.size x w1→NdBox wr.heap.size y (w1.setCell ⟨wr.heap.size,1,none⟩ (.int .i64 (x.na+1)))):=hid (fun w1 h=>by
        rw [← HY.out,show moved x=asN x (x.na+1) x.nb by unfold moved shI;simp only [hA2,hK,if_true,if_false]]
        exact (h.set 1 (.int .i64 (x.na+1)) (by omega) (y:=asN x (x.na+1) x.nb) rfl))
       go_wp2_with (first
        | (refine zbc rfl _ rfl ba (oa+k * 19) x rfl HRA.out ?_)
        | (refine zas rfl _ _ rfl wr.heap.size nd0 x rfl rfl (NdBox.new nd0 _ wr) ?_
           intro w1 hbx hbl hsz
           have HW4:=hid (FW.out w1 hbx).1
           have HS4:Hid (Below wr.heap.size wr (w1.setCell ⟨wr.heap.size,1,none⟩ (.int .i64 (x.na+1)))):=hid ((((Below.refl _ _).alloc (le_refl _) _).trans hbl).trans ((Below.refl wr.heap.size w1).setCell (p:=⟨wr.heap.size,1,none⟩) (le_refl _) (.int .i64 (x.na+1))))
           have q0:=hbx.1.at 0 (.int .i64 x.kd) rfl
           have q1:=hbx.1.at 1 (.int .i64 x.na) rfl
           have q2:=hbx.1.at 2 (.int .i64 x.nb) rfl
           have f1:=hbx.fr 1 (by omega)
           have f2:=hbx.fr 2 (by omega)
           clear hbx hbl hsz)
        | (refine zak rfl _ rfl wr.heap.size y rfl HW4.out ?_
           have HO4:=hid (Kit.own_below HO.out HS4.out)
           have HB4:=hid (HB.out.trans (HS4.out.mono HB.out.size))
           clear q0 q1 q2 f1 f2 HW4 HS4
           generalize (w1.setCell ⟨wr.heap.size,1,none⟩ (.int .i64 (x.na+1)))=W4 at HO4 HB4 ⊢
           unfold Nd.val)
        | (at_builtin
           refine Kit.zal _ rfl (.tmp 70) (.tmp 72) _ rfl W3.heap.size 44 i0 (.agg nd0.val) 19 168 Tryz.underlying22 hi0 hi1 hi2 hi3 rfl (by decide) _ (k+1) (ndV (Y2 Y) (k+1)) rfl (HO4.out.alloc _) _ _ 1 1 y.val.toList rfl rfl (rd_newN W4 y 44) (nd_ones y) (by unfold maxLen;omega) (by omega) (by have:=HB4.out.size;simp;omega) ?_
           intro v5 w5 hown5 hg5 _
           have hB5:Below W3.heap.size W3 w5:=(HB4.out.alloc HB4.out.size _).grown hg5 (by have:=HB4.out.size;simp;omega) (fun q hq=>Kit.zaj HO4.out q hq)
           have e5:ndV (Y2 Y) (k+1) ++ y.val.toList=ndV (Y2 Y) (k+1+1):=by rw [← HY.out, ← HX.out];rfl
           rw [e5] at hown5
           have HO5:=hid hown5
           have HB5:=hid hB5
           clear hown5 hg5 hB5 e5))
       go_roundw
       case rel=>exact⟨k+1,by omega,by go_num,HO5,HB5⟩
       case measure=>simp [intOf];omega
     ·have hA2:(0 < x.na)=False:=by simp;omega
      by_cases hK:x.kd=6
      ·by_cases hC:x.nb > 0
       ·have hC2:(0 < x.nb)=True:=by simp;omega
        have hK2:(x.kd == 6)=true:=by simp [hK]
        have FW:Hid (∀ w1:World,NdBox wr.heap.size x w1→NdBox wr.heap.size y (w1.setCell ⟨wr.heap.size,2,none⟩ (.int .i64 (x.nb+1)))):=hid (fun w1 h=>by
         rw [← HY.out,show moved x=asN x x.na (x.nb+1) by unfold moved shI;simp only [hA2,hK,hC2,if_true,if_false]]
         exact (h.set 2 (.int .i64 (x.nb+1)) (by omega) (y:=asN x x.na (x.nb+1)) rfl))
        go_wp2_with (first
         | (refine zbc rfl _ rfl ba (oa+k * 19) x rfl HRA.out ?_)
         | (refine zas rfl _ _ rfl wr.heap.size nd0 x rfl rfl (NdBox.new nd0 _ wr) ?_
            intro w1 hbx hbl hsz
            have HW4:=hid (FW.out w1 hbx).1
            have HS4:Hid (Below wr.heap.size wr (w1.setCell ⟨wr.heap.size,2,none⟩ (.int .i64 (x.nb+1)))):=hid ((((Below.refl _ _).alloc (le_refl _) _).trans hbl).trans ((Below.refl wr.heap.size w1).setCell (p:=⟨wr.heap.size,2,none⟩) (le_refl _) (.int .i64 (x.nb+1))))
            have q0:=hbx.1.at 0 (.int .i64 x.kd) rfl
            have q1:=hbx.1.at 1 (.int .i64 x.na) rfl
            have q2:=hbx.1.at 2 (.int .i64 x.nb) rfl
            have f1:=hbx.fr 1 (by omega)
            have f2:=hbx.fr 2 (by omega)
            clear hbx hbl hsz)
         | (refine zak rfl _ rfl wr.heap.size y rfl HW4.out ?_
            have HO4:=hid (Kit.own_below HO.out HS4.out)
            have HB4:=hid (HB.out.trans (HS4.out.mono HB.out.size))
            clear q0 q1 q2 f1 f2 HW4 HS4
            generalize (w1.setCell ⟨wr.heap.size,2,none⟩ (.int .i64 (x.nb+1)))=W4 at HO4 HB4 ⊢
            unfold Nd.val)
         | (at_builtin
            refine Kit.zal _ rfl (.tmp 70) (.tmp 72) _ rfl W3.heap.size 44 i0 (.agg nd0.val) 19 168 Tryz.underlying22 hi0 hi1 hi2 hi3 rfl (by decide) _ (k+1) (ndV (Y2 Y) (k+1)) rfl (HO4.out.alloc _) _ _ 1 1 y.val.toList rfl rfl (rd_newN W4 y 44) (nd_ones y) (by unfold maxLen;omega) (by omega) (by have:=HB4.out.size;simp;omega) ?_
            intro v5 w5 hown5 hg5 _
            have hB5:Below W3.heap.size W3 w5:=(HB4.out.alloc HB4.out.size _).grown hg5 (by have:=HB4.out.size;simp;omega) (fun q hq=>Kit.zaj HO4.out q hq)
            have e5:ndV (Y2 Y) (k+1) ++ y.val.toList=ndV (Y2 Y) (k+1+1):=by rw [← HY.out, ← HX.out];rfl
            rw [e5] at hown5
            have HO5:=hid hown5
            have HB5:=hid hB5
            clear hown5 hg5 hB5 e5))
        go_roundw
        case rel=>exact⟨k+1,by omega,by go_num,HO5,HB5⟩
        case measure=>simp [intOf];omega
       ·have hC2:(0 < x.nb)=False:=by simp;omega
        have hK2:(x.kd == 6)=true:=by simp [hK]
        have FW:Hid (∀ w1:World,NdBox wr.heap.size x w1→NdBox wr.heap.size y w1):=hid (fun w1 h=>by
         rw [← HY.out,show moved x=asN x x.na x.nb by unfold moved shI;simp only [hA2,hK,hC2,if_true,if_false]]
         exact h)
        go_wp2_with (first
         | (refine zbc rfl _ rfl ba (oa+k * 19) x rfl HRA.out ?_)
         | (refine zas rfl _ _ rfl wr.heap.size nd0 x rfl rfl (NdBox.new nd0 _ wr) ?_
            intro w1 hbx hbl hsz
            have HW4:=hid (FW.out w1 hbx).1
            have HS4:Hid (Below wr.heap.size wr w1):=hid ((((Below.refl _ _).alloc (le_refl _) _).trans hbl).trans (Below.refl wr.heap.size w1))
            have q0:=hbx.1.at 0 (.int .i64 x.kd) rfl
            have q1:=hbx.1.at 1 (.int .i64 x.na) rfl
            have q2:=hbx.1.at 2 (.int .i64 x.nb) rfl
            have f1:=hbx.fr 1 (by omega)
            have f2:=hbx.fr 2 (by omega)
            clear hbx hbl hsz)
         | (refine zak rfl _ rfl wr.heap.size y rfl HW4.out ?_
            have HO4:=hid (Kit.own_below HO.out HS4.out)
            have HB4:=hid (HB.out.trans (HS4.out.mono HB.out.size))
            clear q0 q1 q2 f1 f2 HW4 HS4
            generalize w1=W4 at HO4 HB4 ⊢
            unfold Nd.val)
         | (at_builtin
            refine Kit.zal _ rfl (.tmp 70) (.tmp 72) _ rfl W3.heap.size 44 i0 (.agg nd0.val) 19 168 Tryz.underlying22 hi0 hi1 hi2 hi3 rfl (by decide) _ (k+1) (ndV (Y2 Y) (k+1)) rfl (HO4.out.alloc _) _ _ 1 1 y.val.toList rfl rfl (rd_newN W4 y 44) (nd_ones y) (by unfold maxLen;omega) (by omega) (by have:=HB4.out.size;simp;omega) ?_
            intro v5 w5 hown5 hg5 _
            have hB5:Below W3.heap.size W3 w5:=(HB4.out.alloc HB4.out.size _).grown hg5 (by have:=HB4.out.size;simp;omega) (fun q hq=>Kit.zaj HO4.out q hq)
            have e5:ndV (Y2 Y) (k+1) ++ y.val.toList=ndV (Y2 Y) (k+1+1):=by rw [← HY.out, ← HX.out];rfl
            rw [e5] at hown5
            have HO5:=hid hown5
            have HB5:=hid hB5
            clear hown5 hg5 hB5 e5))
        go_roundw
        case rel=>exact⟨k+1,by omega,by go_num,HO5,HB5⟩
        case measure=>simp [intOf];omega
      ·have hK2:(x.kd == 6)=false:=by simp [hK]
       have FW:Hid (∀ w1:World,NdBox wr.heap.size x w1→NdBox wr.heap.size y w1):=hid (fun w1 h=>by
        rw [← HY.out,show moved x=asN x x.na x.nb by unfold moved shI;simp only [hA2,hK,if_true,if_false]]
        exact h)
       go_wp2_with (first
        | (refine zbc rfl _ rfl ba (oa+k * 19) x rfl HRA.out ?_)
        | (refine zas rfl _ _ rfl wr.heap.size nd0 x rfl rfl (NdBox.new nd0 _ wr) ?_
           intro w1 hbx hbl hsz
           have HW4:=hid (FW.out w1 hbx).1
           have HS4:Hid (Below wr.heap.size wr w1):=hid ((((Below.refl _ _).alloc (le_refl _) _).trans hbl).trans (Below.refl wr.heap.size w1))
           have q0:=hbx.1.at 0 (.int .i64 x.kd) rfl
           have q1:=hbx.1.at 1 (.int .i64 x.na) rfl
           have q2:=hbx.1.at 2 (.int .i64 x.nb) rfl
           have f1:=hbx.fr 1 (by omega)
           have f2:=hbx.fr 2 (by omega)
           clear hbx hbl hsz)
        | (refine zak rfl _ rfl wr.heap.size y rfl HW4.out ?_
           have HO4:=hid (Kit.own_below HO.out HS4.out)
           have HB4:=hid (HB.out.trans (HS4.out.mono HB.out.size))
           clear q0 q1 q2 f1 f2 HW4 HS4
           generalize w1=W4 at HO4 HB4 ⊢
           unfold Nd.val)
        | (at_builtin
           refine Kit.zal _ rfl (.tmp 70) (.tmp 72) _ rfl W3.heap.size 44 i0 (.agg nd0.val) 19 168 Tryz.underlying22 hi0 hi1 hi2 hi3 rfl (by decide) _ (k+1) (ndV (Y2 Y) (k+1)) rfl (HO4.out.alloc _) _ _ 1 1 y.val.toList rfl rfl (rd_newN W4 y 44) (nd_ones y) (by unfold maxLen;omega) (by omega) (by have:=HB4.out.size;simp;omega) ?_
           intro v5 w5 hown5 hg5 _
           have hB5:Below W3.heap.size W3 w5:=(HB4.out.alloc HB4.out.size _).grown hg5 (by have:=HB4.out.size;simp;omega) (fun q hq=>Kit.zaj HO4.out q hq)
           have e5:ndV (Y2 Y) (k+1) ++ y.val.toList=ndV (Y2 Y) (k+1+1):=by rw [← HY.out, ← HX.out];rfl
           rw [e5] at hown5
           have HO5:=hid hown5
           have HB5:=hid hB5
           clear hown5 hg5 hB5 e5))
       go_roundw
       case rel=>exact⟨k+1,by omega,by go_num,HO5,HB5⟩
       case measure=>simp [intOf];omega
    ·obtain rfl:k=n:=by omega
     have hq:SoundT (Q 0):=HSD.out 0 (Nat.zero_le _)
     have hten:tensB (Q 0).X (Q 0).Y (Q 0).U (Q 0).zs.length=true:=by rw [HQ0.out];show tensB t0.1 t0.2.1 t0.2.2 zs.length=true;rw [HLEN.out,HHB.out,HBT.out]
     obtain⟨f0,hf0,hfe⟩:∃ f0:Res,NodeP flatN [] [] (Q 0) (Q 0) f0∧f0.er=0:=⟨_,node_flat (Q 0) (Q 0) hq hten,rfl⟩
     have hseq2:=seq_two HSEQ.out HCK.out f0 hf0
     have hbk:BlockIn (Y2 Y) (L2 WS) (L2 BS) (k+1) Av wr:=⟨(HI.out.grown hbw).names,nodes_row hrd,fun j hj=>by
      cases j with
      | zero=>exact⟨Kit.Rd.nil,Kit.Rd.nil⟩
      | succ j=>exact (HI.out.grown hbw).lists j (by omega)⟩
     have hso:stopV b (outS (Y2 Y) t0 (k+1)) (stopR (R2 R f0) (k+1))=none:=by rw [HBT.out,outS_two HON.out HN7.out,stopR_two hfe k HRN.out];rfl
     have hq2:a.ten=Q2 Q (Res.ten f0) (k+1):=by
      rw [HQN.out]
      have h0:=(outS_none HON.out).2.1
      cases k with
      | zero=>exact absurd rfl h0
      | succ k=>rfl
     have CE2:Hid (Calls Tryz.prog 9 #[.slice Av (k+1) cv,.agg #[.int .i64 t0.1,.int .i64 t0.2.1,.int .i64 t0.2.2,.slice DA m cm]] wr (fun e w'=>∃ A2 c2,e=.returned (.tuple #[.agg #[.int .i64 a.X,.int .i64 a.Y,.int .i64 a.U,.slice A2 a.m c2],.int .i64 ((k+1:Nat):Int),.int .i64 0])∧Kit.Rd w' w'.heap.size A2 (I8s a.zs)∧Below wr.heap.size wr w')) :=
      hid ((ceval_to (X2 Y) (Y2 Y) (L2 WS) (L2 BS) (Q2 Q (Res.ten f0)) (R2 R f0) (I2 ia) (I2 ib) (k+1) cv (by have:=HN7.out;omega) t0 zs m cm DA HLEN.out HM6.out H8.out b HHB.out (fun _=>hseq2) HQ0.out Av wr (small_two HNN.out) hbk ((HD.out.below hbw).more hbw.size)).mono (fun e w' h=>ev_one h hso a hq2 HVA.out.len))
     have HW2R:=hid (HW3.out.trans (HB.out.mono HW3.out.size))
     have HBW:=hid hbw
     obtain⟨g0,g1,g2,g3⟩:=HQC.out wr (HV2.out.trans (HW2R.out.mono (Nat.le_trans HSZ.out HV2.out.size)))
     have HRG2:Hid (∀ wx,Below wr.heap.size wr wx→wx.rangeAt w2.heap.size 0 a.list):=hid (fun wx h q v hq=>by
      have hr:=HRG.out q v hq
      exact (((HB.out.mono (Nat.succ_le_of_lt HX2.out)).trans (h.mono (Nat.le_trans (Nat.succ_le_of_lt HX2.out) HB.out.size))).cell (p:=⟨w2.heap.size,0+q,none⟩) (lt_succ_self _)).trans hr)
     have HRA2:Hid (∀ wx,Below wr.heap.size wr wx→Kit.Rd wx wx.heap.size a.A (I8s a.zs)):=hid (fun wx h=>by
      have hb:=HW2R.out.trans (h.mono HW2R.out.size)
      exact (HVA.out.rd.below hb).more hb.size)
     have HAL:=hid HVA.out.len
     have HAM:=hid HVA.out.hm
     clear hq hten hf0 hfe hseq2 hbk hso hq2 hrd hbw HSEQ HCK HIDX HON HRN HSD HBT HRG HX2 HVA HQN HQC HNN HI HD
     go_wp2_with (first
      | (go_at_call 9
         refine CE2.out.mono ?_
         rintro e w5 ⟨A2,c2,rfl,hr2,hb⟩
         have HR2:=hid hr2
         have HB5:=hid hb
         clear hb hr2 g0 g1 g2 g3)
      | (refine wpList_store_mid rfl 27 (.tmp 11) (.tmp 78) rfl w5.heap.size 0 #[.int .i64 a.X,.int .i64 a.Y,.int .i64 a.U,.slice A2 a.m c2] rfl rfl (zbq w5) info_tensor (zcl _ _ _ rfl) ?_
         have hal:=(Below.refl w5.heap.size w5).alloc (le_refl _) (.cells #[.int .i64 0,.int .i64 0,.int .i64 0,.slice none 0 0] 27)
         have HRG5:=hid (World.rangeAt_setCells_same _ w5.heap.size 0 (#[.int .i64 a.X,.int .i64 a.Y,.int .i64 a.U,.slice A2 a.m c2]:Array Value).toList (zbq w5))
         obtain⟨hs1,hs2⟩:=setCells_below (#[.int .i64 a.X,.int .i64 a.Y,.int .i64 a.U,.slice A2 a.m c2]:Array Value).toList w5.heap.size 0 (w5.alloc (.cells #[.int .i64 0,.int .i64 0,.int .i64 0,.slice none 0 0] 27))
         have HB6:=hid (HB5.out.trans ((hal.trans hs1).mono HB5.out.size))
         have HR6:=hid ((HR2.out.below (hal.trans hs1)).more (hal.trans hs1).size)
         clear hal hs1 hs2
         generalize (w5.alloc (.cells #[.int .i64 0,.int .i64 0,.int .i64 0,.slice none 0 0] 27)).setCells w5.heap.size 0 (#[.int .i64 a.X,.int .i64 a.Y,.int .i64 a.U,.slice A2 a.m c2]:Array Value).toList=W6 at HRG5 HB6 HR6 ⊢)
      | (refine tn_load_ga (by rfl) _ rfl w2.heap.size 0 a.list rfl (HRG2.out _ HB6.out) rfl ?_)
      | (refine tn_load_ga (by rfl) _ rfl w5.heap.size 0 [.int .i64 a.X,.int .i64 a.Y,.int .i64 a.U,.slice A2 a.m c2] rfl HRG5.out rfl ?_)
      | (go_at_call 10
         refine (CTensor.refSame_to a.X a.Y a.U a.A A2 a.zs a.zs a.m a.c c2 HAL.out HAL.out HAM.out true (by simp) _ (le_refl _) (le_refl _) (HRA2.out _ HB6.out) HR6.out).mono ?_
         rintro e w7 ⟨rfl,hb⟩
         have HB7:=hid (HB6.out.trans (hb.mono HB6.out.size))
         clear hb)
      | (go_at_call 6
         refine (known27 _).mono ?_
         rintro e w9 ⟨rfl,hb9⟩))
     go_ret
     exact⟨rfl,HBW.out.trans ((HB7.out.trans (hb9.mono HB7.out.size)).mono HBW.out.size)⟩
end CGraph
end
end Go.Proofs.YtahekhpeomcfjaaGreatDoor
