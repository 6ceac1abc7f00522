/- -/
import Derived.Test.YtdphhfijgckhiaaDoorGQ36
open Go.Lib (hid)
open Nat (le_refl lt_of_succ_lt lt_succ_self)
set_option linter.unusedVariables false
set_option linter.unusedSimpArgs false
set_option maxRecDepth 100000
set_option maxHeartbeats 16000000
namespace Go.Proofs.YtdphhfijgckhiaaDoor
namespace CConv
end CConv
namespace CFix
end CFix
namespace CKind
end CKind
namespace CShape
end CShape
namespace CTensor
end CTensor
open Go Go.ChangeShapes Go.WideShapes Go.ChangeAt Go.RowKit Go.Deep
section
namespace CGraph
open Plain CSat CFix CShape CTensor CConv CKind
def rowI (F:Nat→Int) (n:Nat):List Value:=(List.range n).map fun k=>.int .i64 (F k)
theorem rowI_at (F:Nat→Int) {n k:Nat} (h:k < n):(rowI F n)[k]?=some (.int .i64 (F k)):=by simp [rowI,h]
theorem rowI_zero (n:Nat):rowI (fun _=>0) n=List.replicate n (.int .i64 0):=by
 refine List.ext_getElem (by simp [rowI]) fun i h1 h2=>?_
 simp [rowI]
theorem rowI_congr {F G:Nat→Int} {n:Nat} (h:∀ k,k < n→F k=G k):rowI F n=rowI G n:=by
 unfold rowI
 exact List.map_congr_left fun k hk=>by rw [h k (by simpa using hk)]
theorem rowI_set {F G:Nat→Int} {n o:Nat} {c:Int} (ho:G o=c) (h:∀ k,k≠o→G k=F k):(rowI F n).set o (.int .i64 c)=rowI G n:=by
 refine List.ext_getElem (by simp [rowI]) fun i h1 h2=>?_
 rw [List.getElem_set]
 by_cases e:o=i
 ·subst e;rw [if_pos rfl];simp [rowI,ho]
 ·rw [if_neg e];simp [rowI,h i (fun h=>e h.symm)]
def partN (l:List Int) (c:Int) (F:Nat→Int):Nat→Nat→Int
 | 0,v=>F v
 | j+1,v=>if l[j]?=some (v:Int) then c else partN l c F j v
theorem part_all {X:Nat→Nd} {i:Nat} (ht:za9 (X i) (i+1)=true) (v:Nat):partN (opL (X i)) ((i:Int)+1) (fun v=>lastN X v i) (opL (X i)).length v=lastN X v (i+1):=by
 rw [lastN]
 unfold opL sndZ
 by_cases h:(X i).kd=6
 ·rw [if_pos h,if_pos h]
  simp only [List.length_cons,List.length_nil,partN,List.getElem?_cons_zero,List.getElem?_cons_succ,Option.some.injEq]
  by_cases a:(X i).nb=v
  ·simp [a,ht]
  ·by_cases b:(X i).na=v
   ·simp [a,b,ht]
   ·simp [a,b]
 ·rw [if_neg h,if_neg h]
  simp only [List.length_cons,List.length_nil,partN,List.getElem?_cons_zero,Option.some.injEq]
  by_cases b:(X i).na=v
  ·simp [b,ht]
  ·simp [b]
theorem last_no {X:Nat→Nd} {i:Nat} (ht:za9 (X i) (i+1)=false) (v:Nat):lastN X v i=lastN X v (i+1):=by
 rw [lastN,if_neg (by simp [ht])]
theorem info_int:(Tryd.prog.info? 3).map (fun i=>(i.zero,i.size,i.bytes))=some (some (.int .i64 0),1,8):=by kernel_rfl
def LastPost (X:Nat→Nd) (n:Nat) (w:World) (e:Ending) (w':World):Prop :=
 ∃ A c,e=.returned (.slice A (n+1) c)∧Kit.Rd w' w'.heap.size A (rowI (lastZ X n) (n+1))∧Below w.heap.size w w'
theorem clast_to (X:Nat→Nd) (n c:Nat) (hn:n≤50) (A:Option Addr) (w:World) (hA:zaq w w.heap.size A n X) :
  Calls Tryd.prog 16 #[.slice A n c] w (LastPost X n w):=by
 have HA:=hid hA
 obtain⟨i0,hi0,hi1,hi2,hi3⟩:=info_parts info_int
 have en:IntKind.i64.wrap ((n:Int)+1)=(n:Int)+1:=IntWalk.i64_in _ (by omega)
 clear hA
 go_enter Tryd.func16,Tryd.ntmps16
 go_wp2_with (at_make;refine wpList_make_full _ rfl (.tmp 11) (.tmp 11) _ rfl w.heap.size 3 i0 (.int .i64 0) 1 Tryd.underlying31 hi0 hi1 hi2 .i64 .i64 _ _ (n+1) rfl rfl rfl rfl (by rw [hi3];omega) (by unfold maxLen;omega) (by simp) ?_;intro w2 hown hg2)
 have hB2:Below w.heap.size w w2:=(Below.refl _ _).grown hg2 (by simp) (fun q hq=>by cases hq)
 rw [show (madeCells (Value.int IntKind.i64 0).cells ((n+1) * 1)).toList=List.replicate (n+1) (.int .i64 0) by rw [Nat.mul_one];exact toList_madeCells_one _ _, ← rowI_zero] at hown
 have HOWN:=hid hown
 have HB0:=hid hB2
 have HSZ:=hid (Kit.za7 hown)
 clear hown hB2 hg2 hi0 hi1 hi2 hi3
 go_loopw [15] (fun u wr=>∃ i:Nat,i≤n∧u=.int .i64 i∧Hid (wr.ownsRow w.heap.size 3 1 (.slice (some ⟨w.heap.size,0,none⟩) (n+1) (n+1)) (n+1) (rowI (fun v=>lastN X v i) (n+1)))∧Hid (Below w.heap.size w wr)) (fun u _=>n - (intOf u).toNat)
 case atStart=>exact⟨0,Nat.zero_le _,rfl,HOWN,HB0⟩
 case round =>
  obtain⟨i,hi,rfl,HO,HB⟩:=hrel
  clear HOWN HB0 HSZ
  by_cases hlt:i < n
  ·obtain⟨ba,oa,rfl,hba,hra⟩:=(HA.out.below HB.out) i hlt
   have i1:(i:Int) < (n:Int):=by omega
   have ib:(0:Int)≤(i:Int):=by omega
   have HRA:=hid hra
   have HOW:=hid (Kit.za7 HO.out)
   obtain⟨x,hx⟩:∃ x,X i=x:=⟨_,rfl⟩
   obtain⟨tb,htb⟩:∃ tb,za9 x (i+1)=tb:=⟨_,rfl⟩
   have he:earB (opL x) ((i:Int)+1)=tb:=by have:=ear_there x (i+1);rw [htb] at this;exact this
   have hol:(opL x).length≤1000:=by unfold opL;split <;> simp
   have HXI:=hid hx
   have HTB:=hid htb
   have HE:=hid he
   have HOL:=hid hol
   rw [hx] at HRA
   have ei:IntKind.i64.wrap ((i:Int)+1)=(i:Int)+1:=IntWalk.i64_in _ (by omega)
   clear hra hba hx htb he hol
   cases tb with
   | false =>
     have HO9:Hid (rowI (fun v=>lastN X v i) (n+1)=rowI (fun v=>lastN X v (i+1)) (n+1)):=hid (rowI_congr fun v _=>last_no (by rw [HXI.out];exact HTB.out) v)
     go_wp2_with (first
      | (refine zbg rfl _ rfl ba (oa+i * 19) x rfl HRA.out ?_)
      | (refine zaj rfl _ _ rfl wr.heap.size nd0 x rfl rfl (NdBox.new nd0 _ wr) ?_
         intro w3 hbx hbl hsz1
         have HNX:=hid hbx.1
         have hh:Below wr.heap.size wr w3:=((Below.refl _ _).alloc (le_refl _) _).trans hbl
         have HH:=hid hh
         clear hbx hbl hsz1 hh)
      | (refine zah rfl _ rfl wr.heap.size x rfl HNX.out ?_)
      | (go_at_call 30
         refine (zbe x _).mono ?_
         rintro e w4 ⟨bo,rfl, -,hr,hb⟩
         have HRO:=hid hr
         have HH2:=hid (HH.out.trans (hb.mono HH.out.size))
         clear hr hb)
      | (go_at_call 31
         refine (earlier_to (opL x) _ rfl HOL.out _ _ _ _ HRO.out).mono ?_
         rintro e w5 ⟨rfl,rfl⟩
         rw [HE.out]))
     go_roundw
     case rel=>exact⟨i+1,by omega,by go_num,(by rw [← HO9.out];exact hid (Kit.own_below HO.out HH2.out)),hid (HB.out.trans (HH2.out.mono HB.out.size))⟩
     case measure=>simp [intOf];omega
   | true =>
     have HAL:Hid (∀ j z,(opL x)[j]?=some z→0≤z∧z < (i:Int)+1):=hid fun j z hz=>(earB_iff _ _).1 HE.out j z hz
     go_wp2_with (first
      | (refine zbg rfl _ rfl ba (oa+i * 19) x rfl HRA.out ?_)
      | (refine zaj rfl _ _ rfl wr.heap.size nd0 x rfl rfl (NdBox.new nd0 _ wr) ?_
         intro w3 hbx hbl hsz1
         have HNX:=hid hbx.1
         have hh:Below wr.heap.size wr w3:=((Below.refl _ _).alloc (le_refl _) _).trans hbl
         have HH:=hid hh
         clear hbx hbl hsz1 hh)
      | (refine zah rfl _ rfl wr.heap.size x rfl HNX.out ?_)
      | (go_at_call 30
         refine (zbe x _).mono ?_
         rintro e w4 ⟨bo,rfl,hge,hr,hb⟩
         have HRO:=hid hr
         have HBO:Hid (w.heap.size < bo):=hid (Nat.lt_of_lt_of_le HOW.out (Nat.le_trans HH.out.size hge))
         have HH2:=hid (HH.out.trans (hb.mono HH.out.size))
         clear hr hb hge)
      | (go_at_call 31
         refine (earlier_to (opL x) _ rfl HOL.out _ _ _ _ HRO.out).mono ?_
         rintro e w5 ⟨rfl,rfl⟩
         rw [HE.out]))
     have HB4:=hid (HB.out.trans (HH2.out.mono HB.out.size))
     have HO4:=hid (Kit.own_below HO.out HH2.out)
     obtain⟨m,hm⟩:∃ m,(opL x).length=m:=⟨_,rfl⟩
     rw [hm] at HOL ⊢
     have HM:=hid hm
     clear HH HH2 HNX HRA HO HB hm HE
     go_loopw [29] (fun u wr=>∃ j:Nat,j≤m∧u=.int .i64 j∧Hid (wr.ownsRow w.heap.size 3 1 (.slice (some ⟨w.heap.size,0,none⟩) (n+1) (n+1)) (n+1) (rowI (partN (opL x) ((i:Int)+1) (fun v=>lastN X v i) j) (n+1)))∧Hid (Kit.Rd wr wr.heap.size (some ⟨bo,0,none⟩) (i64V (opL x)))∧Hid (Below w.heap.size w wr)) (fun u _=>m - (intOf u).toNat)
     case atStart=>exact⟨0,Nat.zero_le _,rfl,HO4,HRO,HB4⟩
     case round =>
      obtain⟨j,hj,rfl,HO5,HRO5,HB5⟩:=hrel
      clear HO4 HRO HB4
      by_cases hltj:j < m
      ·obtain⟨z,hz⟩:∃ z,(opL x)[j]?=some z:=⟨_,List.getElem?_eq_getElem (by have:=HM.out;omega)⟩
       obtain⟨z0,z1⟩:=HAL.out j z hz
       obtain⟨zn,rfl⟩:∃ zn:Nat,z=zn:=⟨z.toNat,by omega⟩
       obtain⟨b9,o9,e9, -,h9⟩:=HRO5.out.plain (by rw [i64V,List.length_map];have:=HM.out;omega)
       cases e9
       have c1:=h9 j (.int .i64 (zn:Int)) (by simp [i64V,hz])
       rw [Nat.zero_add] at c1
       have k0:(0:Int)≤(j:Int):=by omega
       have k1:(j:Int) < (m:Int):=by omega
       have k9:(j:Int) < 1000:=by have:=HOL.out;omega
       have z2:(zn:Int) < (n:Int)+1:=by omega
       have z3:(zn:Int) < ((n+1:Nat):Int):=by omega
       have ks:wr.cell? ⟨w.heap.size,zn,none⟩=some (.int .i64 (partN (opL x) ((i:Int)+1) (fun v=>lastN X v i) j zn)):=(HO5.out.cellAt zn (by omega)).trans (rowI_at _ (by omega))
       have fs:wr.frozen? ⟨w.heap.size,zn,none⟩=false:=HO5.out.frozenAt zn
       have hst:=(HO5.out.stored zn (.int .i64 ((i:Int)+1))).1
       rw [rowI_set (G:=partN (opL x) ((i:Int)+1) (fun v=>lastN X v i) (j+1)) (by rw [partN,if_pos hz]) (fun k hk=>by rw [partN,if_neg (by rw [hz];simp;omega)])] at hst
       have HST:=hid hst
       have HRO6:Hid (Kit.Rd (wr.setCell ⟨w.heap.size,zn,none⟩ (.int .i64 ((i:Int)+1))) (wr.setCell ⟨w.heap.size,zn,none⟩ (.int .i64 ((i:Int)+1))).heap.size (some ⟨bo,0,none⟩) (i64V (opL x))):=by
        refine hid fun q u hu=>?_
        obtain⟨ad,ha,hb,hc⟩:=HRO5.out q u hu
        cases ha
        refine⟨_,rfl,by simpa using hb,?_⟩
        rw [World.cell?_setCell_other]
        ·exact hc
        ·intro e
         have h7:((⟨bo,0,none⟩:Addr).add q).block=w.heap.size:=by rw [← e]
         rw [Kit.add_block] at h7
         have:=HBO.out
         simp only at h7
         omega
       clear h9 hst hz z0 z1
       go_wp2_with fail
       go_roundw
       case rel=>exact⟨j+1,by omega,by go_num,HST,HRO6,hid (HB5.out.setCell (by simp) _)⟩
       case measure=>simp [intOf];omega
      ·obtain rfl:j=m:=by omega
       have HO9:Hid (rowI (partN (opL x) ((i:Int)+1) (fun v=>lastN X v i) j) (n+1)=rowI (fun v=>lastN X v (i+1)) (n+1)):=hid (rowI_congr fun v _=>by
        have h:=part_all (X:=X) (i:=i) (by rw [HXI.out];exact HTB.out) v
        rw [HXI.out,HM.out] at h;exact h)
       go_wp2_with fail
       go_roundw
       case rel=>exact⟨i+1,by omega,by go_num,(by rw [← HO9.out];exact HO5),HB5⟩
       case measure=>simp [intOf];omega
  ·obtain rfl:i=n:=by omega
   have ks:wr.cell? ⟨w.heap.size,i,none⟩=some (.int .i64 (lastN X i i)):=(HO.out.cellAt i (by omega)).trans (rowI_at (fun v=>lastN X v i) (by omega))
   have fs:wr.frozen? ⟨w.heap.size,i,none⟩=false:=HO.out.frozenAt i
   have i1:(i:Int) < ((i+1:Nat):Int):=by omega
   have i2:(i:Int) < (i:Int)+1:=by omega
   have ib:(0:Int)≤(i:Int):=by omega
   have hst:=(HO.out.stored i (.int .i64 ((i:Int)+1))).1
   rw [rowI_set (G:=lastZ X i) (by simp [lastZ]) (fun k hk=>by simp [lastZ,hk])] at hst
   obtain⟨A2,c2,e2, -, -,hrd⟩:=Kit.zba hst
   cases e2
   have HRD:=hid hrd
   clear hst hrd
   go_wp2_with fail
   go_ret
   exact⟨_,_,rfl,HRD.out,HB.out.setCell (by simp) _⟩
end CGraph
end
end Go.Proofs.YtdphhfijgckhiaaDoor
