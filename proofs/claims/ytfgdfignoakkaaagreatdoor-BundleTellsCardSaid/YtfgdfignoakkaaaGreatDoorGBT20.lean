/- -/
import Derived.Test.YtfgdfignoakkaaaGreatDoorGBT19
open Go.Lib (hid)
open Nat (le_refl lt_of_succ_lt lt_succ_self)
set_option linter.unusedVariables false
set_option linter.unusedSimpArgs false
set_option maxRecDepth 100000
set_option maxHeartbeats 16000000
namespace Go.Proofs.YtfgdfignoakkaaaGreatDoor
namespace CConv
end CConv
namespace CFix
end CFix
namespace CGraph
end CGraph
namespace CKind
end CKind
namespace CSat
end CSat
namespace CShape
end CShape
namespace CTensor
end CTensor
namespace Kit
end Kit
open Go Go.ChangeShapes Go.WideShapes Go.ChangeAt Go.RowKit Go.Deep
section
namespace CBund
open Kit CKind CGraph
theorem ListOk.below {w w':World} {B:Nat} {k:IntKind} {A:Option Addr} {n c:Nat} (h:ListOk w B k A n c) (hb:Below B w w'):ListOk w' B k A n c:=by
 obtain⟨zs,h1,h2,h3,h4,h5⟩:=h
 exact⟨zs,h1,h2,h3,h4,h5.below hb⟩
theorem ListOk.more {w:World} {B B':Nat} {k:IntKind} {A:Option Addr} {n c:Nat} (h:ListOk w B k A n c) (hB:B≤B'):ListOk w B' k A n c:=by
 obtain⟨zs,h1,h2,h3,h4,h5⟩:=h
 exact⟨zs,h1,h2,h3,h4,h5.more hB⟩
theorem NdOk.below {w w':World} {B:Nat} {x:Nd} (h:NdOk w B x) (hb:Below B w w'):NdOk w' B x:=by
 obtain⟨h1,h2,h3,h4,h5,h6,⟨zs,a1,a2,a3,a4,a5⟩,⟨ys,b1,b2,b3,b4,b5⟩⟩:=h
 exact⟨h1,h2,h3,h4,h5,h6,⟨zs,a1,a2,a3,a4,a5.below hb⟩,⟨ys,b1,b2,b3,b4,b5.below hb⟩⟩
theorem NdOk.more {w:World} {B B':Nat} {x:Nd} (h:NdOk w B x) (hB:B≤B'):NdOk w B' x:=by
 obtain⟨h1,h2,h3,h4,h5,h6,⟨zs,a1,a2,a3,a4,a5⟩,⟨ys,b1,b2,b3,b4,b5⟩⟩:=h
 exact⟨h1,h2,h3,h4,h5,h6,⟨zs,a1,a2,a3,a4,a5.more hB⟩,⟨ys,b1,b2,b3,b4,b5.more hB⟩⟩
theorem BkOk.below {w w':World} {B:Nat} {b:Bk} (h:BkOk w B b) (hb:Below B w w'):BkOk w' B b :=
 ⟨h.cap,h.nodes.below hb,fun j hj=>NdOk.below (h.each j hj) hb,h.head.1,h.head.2.1.below hb,h.head.2.2.below hb⟩
theorem BkOk.more {w:World} {B B':Nat} {b:Bk} (h:BkOk w B b) (hB:B≤B'):BkOk w B' b :=
 ⟨h.cap,h.nodes.more hB,fun j hj=>NdOk.more (h.each j hj) hB,h.head.1,h.head.2.1.more hB,h.head.2.2.more hB⟩
theorem MdOk.below {w w':World} {B:Nat} {m:Md} (h:MdOk w B m) (hb:Below B w w'):MdOk w' B m :=
 ⟨h.cap,zbk.below h.blocks hb,fun j hj=>(h.each j hj).below hb⟩
theorem MdOk.more {w:World} {B B':Nat} {m:Md} (h:MdOk w B m) (hB:B≤B'):MdOk w B' m :=
 ⟨h.cap,zbk.more h.blocks hB,fun j hj=>(h.each j hj).more hB⟩
theorem BuOk.below {w w':World} {B:Nat} {u:Bu} (h:BuOk w B u) (hb:Below B w w'):BuOk w' B u :=
 ⟨h.nums,h.cap,zbk.below h.models hb,fun j hj=>(h.each j hj).below hb⟩
theorem BuOk.more {w:World} {B B':Nat} {u:Bu} (h:BuOk w B u) (hB:B≤B'):BuOk w B' u :=
 ⟨h.nums,h.cap,zbk.more h.models hB,fun j hj=>(h.each j hj).more hB⟩
end CBund
end
section
namespace CGraph
open Plain CSat CFix CShape CTensor CConv CKind
theorem nd_load_mid {ops:Array Oper} {rest:List Oper} {op:Oper} {a:Act} {w:World} {Q:Exit→Act→World→Prop} (hgd:op.guard=none) (x:Operand) (ho:op.op=.load 54 x)
  (b o:Nat) (u:Nd) (hx:a.eval x=.pointer (some ⟨b,o,none⟩)) (hb:w.rangeAt b o u.val.toList)
  (h:wpList Tryz.prog ops Q rest (a.put op.dst (.agg u.val)) w):wpList Tryz.prog ops Q (op :: rest) a w :=
 wpList_load_mid hgd 54 x ho b o hx u.val.toList _ hb Tryz.underlying54 rfl (by kernel_rfl) h
theorem info_parts {P:Program} {t:TypeId} {z:Option Value} {s b:Nat} (h:(P.info? t).map (fun i=>(i.zero,i.size,i.bytes))=some (z,s,b)):∃ i,P.info? t=some i∧i.zero=z∧i.size=s∧i.bytes=b:=by
 cases hi:P.info? t with
 | none=>rw [hi] at h;cases h
 | some i=>rw [hi] at h;simp at h;exact⟨i,rfl,h.1,h.2.1,h.2.2⟩
theorem info_sh3:(Tryz.prog.info? 23).map (fun i=>(i.zero,i.size,i.bytes))=some (some (.agg #[.int .i64 0,.int .i64 0,.int .i64 0]),3,24):=by kernel_rfl
theorem own_new3 (w:World) (base:Nat) (hb:base≤w.heap.size) (t:Tri):(w.alloc (.cells #[.int .i64 t.1,.int .i64 t.2.1,.int .i64 t.2.2] 23)).ownsRow base 23 3 (.slice (some ⟨w.heap.size,0,none⟩) 1 1) 1 (tvV [t]) :=
 ⟨rfl,.inr ⟨w.heap.size,1,_,rfl,hb,heap_alloc_new w _,le_refl _,by unfold maxLen;omega,rfl,rfl⟩⟩
def ThrPost (X:Nat→Nd) (t0:Tri) (n:Nat) (w:World) (e:Ending) (w':World):Prop :=
 ((∃ k z,zbl X t0 n=some (k,z)∧e=.returned (.tuple #[.slice none 0 0,.int .i64 (k:Int),.int .i64 z])) ∨
   (zbl X t0 n=none∧∃ v,e=.returned (.tuple #[v,.int .i64 (n:Int),.int .i64 0])∧w'.ownsRow w.heap.size 23 3 v (n+1) (tvV (shL X t0 n))))∧Below w.heap.size w w'
theorem rd_new1 (w:World) (o:Obj) (cs:List Value) (T:TypeId):Kit.Rd ((w.alloc o).alloc (.cells cs.toArray T)) (w.heap.size+2) (some ⟨w.heap.size+1,0,none⟩) cs:=by
 have h:Kit.Rd ((w.alloc o).alloc (.cells cs.toArray T)) ((w.alloc o).heap.size+1) (some ⟨(w.alloc o).heap.size,0,none⟩) cs:=Kit.Rd.new _ _ _ (lt_succ_self _)
 have e:(w.alloc o).heap.size=w.heap.size+1:=by simp
 rw [e] at h;exact h
theorem node_small {w:World} {B:Nat} {x:Nd} (h:NdOk w B x):x.Small:=⟨h.z,h.q.2.2.2.2.2.2,h.q.2.2.2.2.1,h.q.2.2.2.2.2.1⟩
theorem through_to (X:Nat→Nd) (t0:Tri) (n c:Nat) (hn:n≤50) (A:Option Addr) (w:World) (hT:zad w) (hX:∀ j,j < n→(X j).Small) (hA:NodesAt w w.heap.size A n X) :
  Calls Tryz.prog 128 #[.slice A n c,.agg #[.int .i64 t0.1,.int .i64 t0.2.1,.int .i64 t0.2.2],.func (.func 129) #[] #[]] w (ThrPost X t0 n w):=by
 have HT:=hid hT
 have HX:=hid hX
 have HA:=hid hA
 obtain⟨i0,hi0,hi1,hi2,hi3⟩:=info_parts info_sh3
 have hO:=own_new3 (w.alloc (.cells #[.int .i64 t0.1,.int .i64 t0.2.1,.int .i64 t0.2.2] 23)) w.heap.size (by simp) t0
 rw [World.size_alloc] at hO
 have HO0:=hid hO
 have HB0:=hid (((Below.refl w.heap.size w).alloc (le_refl _) (.cells #[.int .i64 t0.1,.int .i64 t0.2.1,.int .i64 t0.2.2] 23)).alloc (by simp) (.cells #[.int .i64 t0.1,.int .i64 t0.2.1,.int .i64 t0.2.2] 23))
 clear hT hX hA hO
 go_enter Tryz.func128,Tryz.ntmps128
 go_wp2_with fail
 generalize (w.alloc (.cells #[.int .i64 t0.1,.int .i64 t0.2.1,.int .i64 t0.2.2] 23)).alloc (.cells #[.int .i64 t0.1,.int .i64 t0.2.1,.int .i64 t0.2.2] 23)=W0 at HO0 HB0 ⊢
 go_loopw [9,18] (fun v u wr=>∃ k:Nat,k≤n∧u=.int .i64 k∧Hid (zbl X t0 k=none)∧Hid (wr.ownsRow w.heap.size 23 3 v (k+1) (tvV (shL X t0 k)))∧Hid (Below w.heap.size w wr)) (fun _ u _=>n - (intOf u).toNat)
 case atStart=>exact⟨0,Nat.zero_le _,rfl,hid rfl,HO0,HB0⟩
 case round =>
  obtain⟨k,hk,rfl,hst,HO,HB⟩:=hrel
  clear HO0 HB0
  by_cases hlt:k < n
  ·obtain⟨Av,cv,rfl, -, -,hrd⟩:=Kit.za2 HO.out
   obtain⟨ba,oa,rfl,hba,hra⟩:=(HA.out.below HB.out) k hlt
   have k0:(0:Int)≤(k:Int):=by omega
   have k1:(k:Int) < (n:Int):=by omega
   have HRA:=hid hra
   obtain⟨z,hz⟩:∃ z,stopZ (X k) (shL X t0 k)=z:=⟨_,rfl⟩
   have hcn:∀ wx:World,Below wr.heap.size wr wx→Calls Tryz.prog 129 #[.slice Av (k+1) cv,.agg (X k).val] wx fun r w'=>∃ u:Tri,r=.returned (.tuple #[.agg #[.int .i64 u.1,.int .i64 u.2.1,.int .i64 u.2.2],.int .i64 z])∧(z=0→u=nextT (X k) (shL X t0 k))∧Below wx.heap.size wx w':=by
    intro wx hb
    have h:=next_to (X k) (HX.out k hlt) (shL X t0 k) (k+1) cv (shL_len X t0 k) (by omega) Av wx (HT.out.below (HB.out.trans (hb.mono HB.out.size)) HT.out.size) ((hrd.below hb).more hb.size)
    unfold NextPost at h
    rw [hz] at h
    exact h
   have CN:=hid hcn
   have HZ:=hid hz
   clear hcn hz hrd hra hba
   by_cases hz0:z=0
   ·subst hz0
    have hgo:=stopAt_go hst.out HZ.out
    have HGO:=hid hgo
    clear hgo
    go_wp2_with (first
     | (refine nd_load_mid rfl _ rfl ba (oa+k * 19) (X k) rfl HRA.out ?_)
     | (refine zaq rfl _ _ rfl wr.heap.size nd0 (X k) rfl rfl (NdBox.new nd0 _ wr) ?_
        intro w1 hbx hbl hsz
        have HBX:=hid hbx
        have hh:Below wr.heap.size wr w1:=((Below.refl _ _).alloc (le_refl _) _).trans hbl
        have HB1:=hid (HB.out.trans (hh.mono HB.out.size))
        have HH:=hid hh
        have HO1:=hid (Kit.own_below HO.out hh)
        clear hbx hbl hsz hh)
     | (refine zac rfl _ rfl wr.heap.size (X k) rfl HBX.out.1 ?_)
     | (go_at_call 129
        refine (CN.out _ HH.out).mono ?_
        rintro e w2 ⟨u,rfl,hu,hb⟩
        have hue:=hu rfl
        have HUE:=hid hue
        have HB2:=hid (HB1.out.trans (hb.mono HB1.out.size))
        have HO2:=hid (Kit.own_below HO1.out hb)
        clear hu hue hb)
     | (at_builtin
        refine Kit.zaj _ rfl (.tmp 34) (.tmp 36) _ rfl w.heap.size 23 i0 (.agg #[.int .i64 0,.int .i64 0,.int .i64 0]) 3 24 Tryz.underlying217 hi0 hi1 hi2 hi3 rfl (by decide) _ (k+1) (tvV (shL X t0 k)) rfl ((HO2.out.alloc _).alloc _) _ _ 1 1 [.int .i64 u.1,.int .i64 u.2.1,.int .i64 u.2.2] rfl rfl (rd_new1 _ _ _ _) (Kit.zbh .i64 [u.1,u.2.1,u.2.2]) (by unfold maxLen;omega) (by omega) (by have:=HB2.out.size;simp;omega) ?_
        intro v3 w3 hown3 hg3 hat3
        have hB3:Below w.heap.size w w3:=((HB2.out.alloc HB2.out.size _).alloc (by have:=HB2.out.size;simp;omega) _).grown hg3 (by have:=HB2.out.size;simp;omega) (fun q hq=>Kit.zam HO2.out q hq)
        have e:tvV (shL X t0 k) ++ [.int .i64 u.1,.int .i64 u.2.1,.int .i64 u.2.2]=tvV (shL X t0 (k+1)):=by rw [shL,tvV_append, ← HUE.out];rfl
        rw [e] at hown3
        have HO3:=hid hown3
        have HB3:=hid hB3
        clear hown3 hg3 hat3 hB3 e))
    go_roundw
    case rel=>exact⟨k+1,by omega,by go_num,HGO,HO3,HB3⟩
    case measure=>simp [intOf];omega
   ·have hz1:(z != 0)=true:=by simpa using hz0
    have hend:=stopAt_end hlt hst.out (by rw [HZ.out];exact hz0)
    rw [HZ.out] at hend
    have HEND:=hid hend
    clear hend
    go_wp2_with (first
     | (refine nd_load_mid rfl _ rfl ba (oa+k * 19) (X k) rfl HRA.out ?_)
     | (refine zaq rfl _ _ rfl wr.heap.size nd0 (X k) rfl rfl (NdBox.new nd0 _ wr) ?_
        intro w1 hbx hbl hsz
        have HBX:=hid hbx
        have hh:Below wr.heap.size wr w1:=((Below.refl _ _).alloc (le_refl _) _).trans hbl
        have HB1:=hid (HB.out.trans (hh.mono HB.out.size))
        have HH:=hid hh
        clear hbx hbl hsz hh)
     | (refine zac rfl _ rfl wr.heap.size (X k) rfl HBX.out.1 ?_)
     | (go_at_call 129
        refine (CN.out _ HH.out).mono ?_
        rintro e w2 ⟨u,rfl,hu,hb⟩
        have HB2:=hid (HB1.out.trans (hb.mono HB1.out.size))
        clear hu hb))
    go_ret3
    exact⟨.inl ⟨k,z,HEND.out,rfl⟩,HB2.out.alloc HB2.out.size _⟩
  ·obtain rfl:k=n:=by omega
   go_wp2_with fail
   go_ret3
   exact⟨.inr ⟨hst.out,_,rfl,HO.out⟩,HB.out⟩
def FewPost2 (X:Nat→Nd) (n:Nat) (w:World) (e:Ending) (w':World):Prop:=∃ b:Bool,e=.returned (.bool b)∧(b=true→n≤12∧∀ i,i < n→(X i).nW≤1000∧(X i).nB≤100)∧Below w.heap.size w w'
theorem few2_to (X:Nat→Nd) (n c:Nat) (A:Option Addr) (w:World) (hA:NodesAt w w.heap.size A n X) :
  Calls Tryz.prog 20 #[.slice A n c,.agg #[.int .i64 0,.int .i64 0,.int .i64 0,.slice none 0 0]] w (FewPost2 X n w):=by
 have HA:=hid hA
 have HB0:=hid ((Below.refl w.heap.size w).alloc (le_refl _) (.cells #[.int .i64 0,.int .i64 0,.int .i64 0,.slice none 0 0] 65))
 have q3:(w.alloc (.cells #[.int .i64 0,.int .i64 0,.int .i64 0,.slice none 0 0] 65)).cell? ⟨w.heap.size,3,none⟩=some (.slice none 0 0):=by rw [Kit.zab];rfl
 clear hA
 go_enter Tryz.func20,Tryz.ntmps20
 go_upto_region 1 with fail
 generalize w.alloc (.cells #[.int .i64 0,.int .i64 0,.int .i64 0,.slice none 0 0] 65)=W0 at HB0 q3 ⊢
 by_cases h:n≤12
 ·have h2:¬ (n:Int) > 12:=by omega
  go_wp2_with fail
  go_loop [5] (fun u=>∃ i:Nat,i≤n∧u=.int .i64 i∧Hid (∀ j,j < i→(X j).nW≤1000∧(X j).nB≤100)) (fun u=>n - (intOf u).toNat)
  case atStart=>exact⟨0,Nat.zero_le _,rfl,hid (fun j hj=>by omega)⟩
  case round =>
   obtain⟨i,hi,rfl,HI⟩:=hrel
   by_cases hlt:i < n
   ·obtain⟨ba,oa,rfl,hba,hra⟩:=(HA.out.below HB0.out) i hlt
    have i1:(i:Int) < (n:Int):=by omega
    have ib:(0:Int)≤(i:Int):=by omega
    have c9:=hra 9 (.slice (X i).WA (X i).nW (X i).cW) rfl
    have c10:=hra 10 (.slice (X i).BA (X i).nB (X i).cB) rfl
    clear hra hba
    obtain⟨x,hx⟩:∃ x,X i=x:=⟨_,rfl⟩
    rw [hx] at c9 c10
    have HXX:=hid hx
    clear hx
    by_cases a1:(x.nW:Int) > 1000
    ·go_wp2_with fail
     go_ret
     exact⟨false,rfl,fun h=>(nomatch h),HB0.out⟩
    ·by_cases a2:(x.nB:Int) > 100
     ·go_wp2_with fail
      go_ret
      exact⟨false,rfl,fun h=>(nomatch h),HB0.out⟩
     ·go_wp2_with fail
      go_round
      case rel=>exact⟨i+1,by omega,by go_num,hid (fun j hj=>by
       rcases (show j < i∨j=i by omega) with h7 | rfl
       ·exact HI.out j h7
       ·rw [HXX.out];exact⟨by omega,by omega⟩)⟩
      case measure=>simp [intOf];omega
   ·obtain rfl:i=n:=by omega
    go_wp2_with fail
    go_ret
    exact⟨true,rfl,fun _=>⟨h,HI.out⟩,HB0.out⟩
 ·have h2:(n:Int) > 12:=by omega
  go_wp2_with fail
  go_ret
  exact⟨false,rfl,fun h=>(nomatch h),HB0.out⟩
end CGraph
end
end Go.Proofs.YtfgdfignoakkaaaGreatDoor
