/- -/
import Derived.Test.YtoffcaldhojjoaaDoorGVP33
open Go.Lib (hid)
open Nat (le_refl lt_of_succ_lt lt_succ_self)
set_option linter.unusedVariables false
set_option linter.unusedSimpArgs false
set_option maxRecDepth 100000
set_option maxHeartbeats 16000000
namespace Go.Proofs.YtoffcaldhojjoaaDoor
namespace CConv
end CConv
namespace CFix
end CFix
namespace CKind
end CKind
namespace CSat
end CSat
namespace CShape
end CShape
namespace CTensor
end CTensor
open Go Go.ChangeShapes Go.WideShapes Go.ChangeAt Go.RowKit Go.Deep
section
namespace CGraph
open Plain CSat CFix CShape CTensor CConv CKind
theorem nd_load_mid {ops:Array Oper} {rest:List Oper} {op:Oper} {a:Act} {w:World} {Q:Exit→Act→World→Prop} (hgd:op.guard=none) (x:Operand) (ho:op.op=.load 67 x)
  (b o:Nat) (u:Nd) (hx:a.eval x=.pointer (some ⟨b,o,none⟩)) (hb:w.rangeAt b o u.val.toList)
  (h:wpList Tryd.prog ops Q rest (a.put op.dst (.agg u.val)) w):wpList Tryd.prog ops Q (op :: rest) a w :=
 wpList_load_mid hgd 67 x ho b o hx u.val.toList _ hb Tryd.underlying67 rfl (by kernel_rfl) h
theorem info_parts {P:Program} {t:TypeId} {z:Option Value} {s b:Nat} (h:(P.info? t).map (fun i=>(i.zero,i.size,i.bytes))=some (z,s,b)):∃ i,P.info? t=some i∧i.zero=z∧i.size=s∧i.bytes=b:=by
 cases hi:P.info? t with
 | none=>rw [hi] at h;cases h
 | some i=>rw [hi] at h;simp at h;exact⟨i,rfl,h.1,h.2.1,h.2.2⟩
theorem info_sh3:(Tryd.prog.info? 30).map (fun i=>(i.zero,i.size,i.bytes))=some (some (.agg #[.int .i64 0,.int .i64 0,.int .i64 0]),3,24):=by kernel_rfl
theorem own_new3 (w:World) (base:Nat) (hb:base≤w.heap.size) (t:Tri):(w.alloc (.cells #[.int .i64 t.1,.int .i64 t.2.1,.int .i64 t.2.2] 30)).ownsRow base 30 3 (.slice (some ⟨w.heap.size,0,none⟩) 1 1) 1 (tvV [t]) :=
 ⟨rfl,.inr ⟨w.heap.size,1,_,rfl,hb,heap_alloc_new w _,le_refl _,by unfold maxLen;omega,rfl,rfl⟩⟩
def ThrPost (X:Nat→Nd) (t0:Tri) (n:Nat) (w:World) (e:Ending) (w':World):Prop :=
 ((∃ k z,zbb X t0 n=some (k,z)∧e=.returned (.tuple #[.slice none 0 0,.int .i64 (k:Int),.int .i64 z])) ∨
   (zbb X t0 n=none∧∃ v,e=.returned (.tuple #[v,.int .i64 (n:Int),.int .i64 0])∧w'.ownsRow w.heap.size 30 3 v (n+1) (tvV (shL X t0 n))))∧Below w.heap.size w w'
theorem rd_new1 (w:World) (o:Obj) (cs:List Value) (T:TypeId):Kit.Rd ((w.alloc o).alloc (.cells cs.toArray T)) (w.heap.size+2) (some ⟨w.heap.size+1,0,none⟩) cs:=by
 have h:Kit.Rd ((w.alloc o).alloc (.cells cs.toArray T)) ((w.alloc o).heap.size+1) (some ⟨(w.alloc o).heap.size,0,none⟩) cs:=Kit.Rd.new _ _ _ (lt_succ_self _)
 have e:(w.alloc o).heap.size=w.heap.size+1:=by simp
 rw [e] at h;exact h
theorem node_small {w:World} {B:Nat} {x:Nd} (h:NdOk w B x):x.Small:=⟨h.z,h.q.2.2.2.2.2.2,h.q.2.2.2.2.1,h.q.2.2.2.2.2.1⟩
theorem through_to (X:Nat→Nd) (t0:Tri) (n c:Nat) (hn:n≤50) (A:Option Addr) (w:World) (hT:zae w) (hX:∀ j,j < n→(X j).Small) (hA:NodesAt w w.heap.size A n X) :
  Calls Tryd.prog 32 #[.slice A n c,.agg #[.int .i64 t0.1,.int .i64 t0.2.1,.int .i64 t0.2.2],.func (.func 33) #[] #[]] w (ThrPost X t0 n w):=by
 have HT:=hid hT
 have HX:=hid hX
 have HA:=hid hA
 obtain⟨i0,hi0,hi1,hi2,hi3⟩:=info_parts info_sh3
 have hO:=own_new3 (w.alloc (.cells #[.int .i64 t0.1,.int .i64 t0.2.1,.int .i64 t0.2.2] 30)) w.heap.size (by simp) t0
 rw [World.size_alloc] at hO
 have HO0:=hid hO
 have HB0:=hid (((Below.refl w.heap.size w).alloc (le_refl _) (.cells #[.int .i64 t0.1,.int .i64 t0.2.1,.int .i64 t0.2.2] 30)).alloc (by simp) (.cells #[.int .i64 t0.1,.int .i64 t0.2.1,.int .i64 t0.2.2] 30))
 clear hT hX hA hO
 go_enter Tryd.func32,Tryd.ntmps32
 go_wp2_with fail
 generalize (w.alloc (.cells #[.int .i64 t0.1,.int .i64 t0.2.1,.int .i64 t0.2.2] 30)).alloc (.cells #[.int .i64 t0.1,.int .i64 t0.2.1,.int .i64 t0.2.2] 30)=W0 at HO0 HB0 ⊢
 go_loopw [9,18] (fun v u wr=>∃ k:Nat,k≤n∧u=.int .i64 k∧Hid (zbb X t0 k=none)∧Hid (wr.ownsRow w.heap.size 30 3 v (k+1) (tvV (shL X t0 k)))∧Hid (Below w.heap.size w wr)) (fun _ u _=>n - (intOf u).toNat)
 case atStart=>exact⟨0,Nat.zero_le _,rfl,hid rfl,HO0,HB0⟩
 case round =>
  obtain⟨k,hk,rfl,hst,HO,HB⟩:=hrel
  clear HO0 HB0
  by_cases hlt:k < n
  ·obtain⟨Av,cv,rfl, -, -,hrd⟩:=Kit.own_rd HO.out
   obtain⟨ba,oa,rfl,hba,hra⟩:=(HA.out.below HB.out) k hlt
   have k0:(0:Int)≤(k:Int):=by omega
   have k1:(k:Int) < (n:Int):=by omega
   have HRA:=hid hra
   obtain⟨z,hz⟩:∃ z,stopZ (X k) (shL X t0 k)=z:=⟨_,rfl⟩
   have hcn:∀ wx:World,Below wr.heap.size wr wx→Calls Tryd.prog 33 #[.slice Av (k+1) cv,.agg (X k).val] wx fun r w'=>∃ u:Tri,r=.returned (.tuple #[.agg #[.int .i64 u.1,.int .i64 u.2.1,.int .i64 u.2.2],.int .i64 z])∧(z=0→u=nextT (X k) (shL X t0 k))∧Below wx.heap.size wx w':=by
    intro wx hb
    have h:=next_to (X k) (HX.out k hlt) (shL X t0 k) (k+1) cv (shL_len X t0 k) (by omega) Av wx (HT.out.below (HB.out.trans (hb.mono HB.out.size)) HT.out.size) ((hrd.below hb).more hb.size)
    unfold NextPost at h
    rw [hz] at h
    exact h
   have CN:=hid hcn
   have HZ:=hid hz
   clear hcn hz hrd hra hba
   by_cases hz0:z=0
   ·subst hz0
    have hgo:=stopAt_go hst.out HZ.out
    have HGO:=hid hgo
    clear hgo
    go_wp2_with (first
     | (refine nd_load_mid rfl _ rfl ba (oa+k * 19) (X k) rfl HRA.out ?_)
     | (refine zal rfl _ _ rfl wr.heap.size nd0 (X k) rfl rfl (NdBox.new nd0 _ wr) ?_
        intro w1 hbx hbl hsz
        have HBX:=hid hbx
        have hh:Below wr.heap.size wr w1:=((Below.refl _ _).alloc (le_refl _) _).trans hbl
        have HB1:=hid (HB.out.trans (hh.mono HB.out.size))
        have HH:=hid hh
        have HO1:=hid (Kit.own_below HO.out hh)
        clear hbx hbl hsz hh)
     | (refine zab rfl _ rfl wr.heap.size (X k) rfl HBX.out.1 ?_)
     | (go_at_call 33
        refine (CN.out _ HH.out).mono ?_
        rintro e w2 ⟨u,rfl,hu,hb⟩
        have hue:=hu rfl
        have HUE:=hid hue
        have HB2:=hid (HB1.out.trans (hb.mono HB1.out.size))
        have HO2:=hid (Kit.own_below HO1.out hb)
        clear hu hue hb)
     | (at_builtin
        refine Kit.wpList_append_rd _ rfl (.tmp 34) (.tmp 36) _ rfl w.heap.size 30 i0 (.agg #[.int .i64 0,.int .i64 0,.int .i64 0]) 3 24 Tryd.underlying89 hi0 hi1 hi2 hi3 rfl (by decide) _ (k+1) (tvV (shL X t0 k)) rfl ((HO2.out.alloc _).alloc _) _ _ 1 1 [.int .i64 u.1,.int .i64 u.2.1,.int .i64 u.2.2] rfl rfl (rd_new1 _ _ _ _) (Kit.ints_one .i64 [u.1,u.2.1,u.2.2]) (by unfold maxLen;omega) (by omega) (by have:=HB2.out.size;simp;omega) ?_
        intro v3 w3 hown3 hg3 hat3
        have hB3:Below w.heap.size w w3:=((HB2.out.alloc HB2.out.size _).alloc (by have:=HB2.out.size;simp;omega) _).grown hg3 (by have:=HB2.out.size;simp;omega) (fun q hq=>Kit.own_block_ge HO2.out q hq)
        have e:tvV (shL X t0 k) ++ [.int .i64 u.1,.int .i64 u.2.1,.int .i64 u.2.2]=tvV (shL X t0 (k+1)):=by rw [shL,tvV_append, ← HUE.out];rfl
        rw [e] at hown3
        have HO3:=hid hown3
        have HB3:=hid hB3
        clear hown3 hg3 hat3 hB3 e))
    go_roundw
    case rel=>exact⟨k+1,by omega,by go_num,HGO,HO3,HB3⟩
    case measure=>simp [intOf];omega
   ·have hz1:(z != 0)=true:=by simpa using hz0
    have hend:=stopAt_end hlt hst.out (by rw [HZ.out];exact hz0)
    rw [HZ.out] at hend
    have HEND:=hid hend
    clear hend
    go_wp2_with (first
     | (refine nd_load_mid rfl _ rfl ba (oa+k * 19) (X k) rfl HRA.out ?_)
     | (refine zal rfl _ _ rfl wr.heap.size nd0 (X k) rfl rfl (NdBox.new nd0 _ wr) ?_
        intro w1 hbx hbl hsz
        have HBX:=hid hbx
        have hh:Below wr.heap.size wr w1:=((Below.refl _ _).alloc (le_refl _) _).trans hbl
        have HB1:=hid (HB.out.trans (hh.mono HB.out.size))
        have HH:=hid hh
        clear hbx hbl hsz hh)
     | (refine zab rfl _ rfl wr.heap.size (X k) rfl HBX.out.1 ?_)
     | (go_at_call 33
        refine (CN.out _ HH.out).mono ?_
        rintro e w2 ⟨u,rfl,hu,hb⟩
        have HB2:=hid (HB1.out.trans (hb.mono HB1.out.size))
        clear hu hb))
    go_ret3
    exact⟨.inl ⟨k,z,HEND.out,rfl⟩,HB2.out.alloc HB2.out.size _⟩
  ·obtain rfl:k=n:=by omega
   go_wp2_with fail
   go_ret3
   exact⟨.inr ⟨hst.out,_,rfl,HO.out⟩,HB.out⟩
end CGraph
end
end Go.Proofs.YtoffcaldhojjoaaDoor
