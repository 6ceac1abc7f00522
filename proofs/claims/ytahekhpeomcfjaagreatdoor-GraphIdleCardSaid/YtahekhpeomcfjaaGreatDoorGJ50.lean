/- -/
import Derived.Test.YtahekhpeomcfjaaGreatDoorGJ46
open Go.Lib (hid)
open Nat (le_refl lt_of_succ_lt lt_succ_self)
set_option linter.unusedVariables false
set_option linter.unusedSimpArgs false
set_option maxRecDepth 100000
set_option maxHeartbeats 16000000
namespace Go.Proofs.YtahekhpeomcfjaaGreatDoor
namespace CConv
end CConv
namespace CFix
end CFix
namespace CKind
end CKind
namespace CSat
end CSat
namespace CShape
end CShape
namespace CTensor
end CTensor
open Go Go.ChangeShapes Go.WideShapes Go.ChangeAt Go.RowKit Go.Deep
section
namespace CGraph
open Plain CSat CFix CShape CTensor CConv CKind
def outS (X:Nat→Nd) (t0:Tri) (n:Nat):Option (Int × Int) :=
 if zad t0.1 t0.2.1 t0.2.2=false then some (-1,5) else if n=0 then some (-1,12) else if 8 < n then some (-1,4) else (zbh X t0 n).map fun r=>((r.1:Int),r.2)
def ShpPost (X:Nat→Nd) (t0:Tri) (n:Nat) (w:World) (e:Ending) (w':World):Prop :=
 ((∃ k z,outS X t0 n=some (k,z)∧e=.returned (.tuple #[.slice none 0 0,.int .i64 k,.int .i64 z])) ∨
   (outS X t0 n=none∧∃ v,e=.returned (.tuple #[v,.int .i64 (n:Int),.int .i64 0])∧w'.ownsRow w.heap.size 24 3 v (n+1) (tvV (shL X t0 n))))∧Below w.heap.size w w'
theorem sh_cells (t:Tri) (w:World):(w.alloc (.cells #[.int .i64 t.1,.int .i64 t.2.1,.int .i64 t.2.2] 24)).cell? ⟨w.heap.size,0,none⟩=some (.int .i64 t.1)∧(w.alloc (.cells #[.int .i64 t.1,.int .i64 t.2.1,.int .i64 t.2.2] 24)).cell? ⟨w.heap.size,1,none⟩=some (.int .i64 t.2.1)∧(w.alloc (.cells #[.int .i64 t.1,.int .i64 t.2.1,.int .i64 t.2.2] 24)).cell? ⟨w.heap.size,2,none⟩=some (.int .i64 t.2.2) :=
 ⟨by rw [Kit.zaf];rfl,by rw [Kit.zaf];rfl,by rw [Kit.zaf];rfl⟩
theorem cshapes_to (X:Nat→Nd) (t0:Tri) (n c:Nat) (hn:n≤50) (A:Option Addr) (w:World) (hT:NamesIn w) (hX:∀ j,j < n→(X j).Small) (hA:NodesAt w w.heap.size A n X) :
  Calls Tryz.prog 14 #[.slice A n c,.agg #[.int .i64 t0.1,.int .i64 t0.2.1,.int .i64 t0.2.2]] w (ShpPost X t0 n w):=by
 obtain⟨q0,q1,q2⟩:=sh_cells t0 w
 have HB0:=hid ((Below.refl w.heap.size w).alloc (le_refl _) (.cells #[.int .i64 t0.1,.int .i64 t0.2.1,.int .i64 t0.2.2] 24))
 have hsz:w.heap.size < (w.alloc (.cells #[.int .i64 t0.1,.int .i64 t0.2.1,.int .i64 t0.2.2] 24)).heap.size:=by simp
 have HSZ:=hid hsz
 have HT:=hid hT
 have HA:=hid hA
 have HX:=hid hX
 obtain⟨sb,hsb⟩:∃ sb,zad t0.1 t0.2.1 t0.2.2=sb:=⟨_,rfl⟩
 have HSB:=hid hsb
 have hout:outS X t0 n=if sb=false then some (-1,5) else if n=0 then some (-1,12) else if 8 < n then some (-1,4) else (zbh X t0 n).map fun r=>((r.1:Int),r.2):=by unfold outS;rw [hsb]
 have HOUT:=hid hout
 have CR:=hid (fun w:World=>zac t0.1 t0.2.1 t0.2.2 sb hsb w)
 clear hT hX hA hsb hout hsz
 go_enter Tryz.func14,Tryz.ntmps14
 go_upto_region 1 with fail
 generalize w.alloc (.cells #[.int .i64 t0.1,.int .i64 t0.2.1,.int .i64 t0.2.2] 24)=W0 at q0 q1 q2 HB0 HSZ ⊢
 cases sb with
 | false =>
   go_wp2_with (go_at_call 24;(refine (CR.out _).mono ?_);rintro e w1 ⟨rfl,hb⟩;(have HB1:=hid (HB0.out.trans (hb.mono HB0.out.size)));clear hb)
   go_ret3
   exact⟨.inl ⟨-1,5,by rw [HOUT.out];rfl,rfl⟩,HB1.out⟩
 | true =>
   by_cases h0:n=0
   ·subst h0
    go_wp2_with (go_at_call 24;(refine (CR.out _).mono ?_);rintro e w1 ⟨rfl,hb⟩;(have HB1:=hid (HB0.out.trans (hb.mono HB0.out.size)));clear hb)
    go_ret3
    exact⟨.inl ⟨-1,12,by rw [HOUT.out];rfl,rfl⟩,HB1.out⟩
   ·have h1:((n:Int) == 0)=false:=by simp;omega
    have h1b:¬ (n:Int)=0:=by omega
    by_cases h2:8 < n
    ·have h3:(n:Int) > 8:=by omega
     have ho:outS X t0 n=some (-1,4):=by rw [HOUT.out];simp [h0,h2]
     have HO:=hid ho
     clear h0 h2 ho HOUT
     go_wp2_with (go_at_call 24;(refine (CR.out _).mono ?_);rintro e w1 ⟨rfl,hb⟩;(have HB1:=hid (HB0.out.trans (hb.mono HB0.out.size)));clear hb)
     go_ret3
     exact⟨.inl ⟨-1,4,HO.out,rfl⟩,HB1.out⟩
    ·have h3:¬ (n:Int) > 8:=by omega
     have ho:outS X t0 n=(zbh X t0 n).map fun r=>((r.1:Int),r.2):=by rw [HOUT.out];simp [h0,h2]
     have HO:=hid ho
     clear h0 h2 ho HOUT
     go_wp2_with (first
      | (go_at_call 24
         refine (CR.out _).mono ?_
         rintro e w1 ⟨rfl,hb⟩
         have HB1:=hid (HB0.out.trans (hb.mono HB0.out.size))
         have g0:=(hb.cell (p:=⟨w.heap.size,0,none⟩) HSZ.out).trans q0
         have g1:=(hb.cell (p:=⟨w.heap.size,1,none⟩) HSZ.out).trans q1
         have g2:=(hb.cell (p:=⟨w.heap.size,2,none⟩) HSZ.out).trans q2
         clear hb q0 q1 q2)
      | (go_at_call 26
         refine (through_to X t0 n c hn A _ (HT.out.below HB1.out HT.out.size) HX.out ((HA.out.below HB1.out).more HB1.out.size)).mono ?_
         rintro e w2 ⟨hres,hb⟩
         have HB2:=hid (HB1.out.trans (hb.mono HB1.out.size))
         have HRES:=hid hres
         clear hb hres
         rcases HRES.out with ⟨k,z,hs,rfl⟩ | ⟨hs,v,rfl,hown⟩))
     ·go_ret3
      exact⟨.inl ⟨k,z,by rw [HO.out,hs];rfl,rfl⟩,HB2.out⟩
     ·go_ret3
      exact⟨.inr ⟨by rw [HO.out,hs];rfl,v,rfl,Kit.zah hown HB1.out.size⟩,HB2.out⟩
def rowI (F:Nat→Int) (n:Nat):List Value:=(List.range n).map fun k=>.int .i64 (F k)
theorem rowI_at (F:Nat→Int) {n k:Nat} (h:k < n):(rowI F n)[k]?=some (.int .i64 (F k)):=by simp [rowI,h]
theorem rowI_zero (n:Nat):rowI (fun _=>0) n=List.replicate n (.int .i64 0):=by
 refine List.ext_getElem (by simp [rowI]) fun i h1 h2=>?_
 simp [rowI]
theorem rowI_congr {F G:Nat→Int} {n:Nat} (h:∀ k,k < n→F k=G k):rowI F n=rowI G n:=by
 unfold rowI
 exact List.map_congr_left fun k hk=>by rw [h k (by simpa using hk)]
theorem rowI_set {F G:Nat→Int} {n o:Nat} {c:Int} (ho:G o=c) (h:∀ k,k≠o→G k=F k):(rowI F n).set o (.int .i64 c)=rowI G n:=by
 refine List.ext_getElem (by simp [rowI]) fun i h1 h2=>?_
 rw [List.getElem_set]
 by_cases e:o=i
 ·subst e;rw [if_pos rfl];simp [rowI,ho]
 ·rw [if_neg e];simp [rowI,h i (fun h=>e h.symm)]
def partN (l:List Int) (c:Int) (F:Nat→Int):Nat→Nat→Int
 | 0,v=>F v
 | j+1,v=>if l[j]?=some (v:Int) then c else partN l c F j v
theorem part_all {X:Nat→Nd} {i:Nat} (ht:zcb (X i) (i+1)=true) (v:Nat):partN (opL (X i)) ((i:Int)+1) (fun v=>lastN X v i) (opL (X i)).length v=lastN X v (i+1):=by
 rw [lastN]
 unfold opL sndZ
 by_cases h:(X i).kd=6
 ·rw [if_pos h,if_pos h]
  simp only [List.length_cons,List.length_nil,partN,List.getElem?_cons_zero,List.getElem?_cons_succ,Option.some.injEq]
  by_cases a:(X i).nb=v
  ·simp [a,ht]
  ·by_cases b:(X i).na=v
   ·simp [a,b,ht]
   ·simp [a,b]
 ·rw [if_neg h,if_neg h]
  simp only [List.length_cons,List.length_nil,partN,List.getElem?_cons_zero,Option.some.injEq]
  by_cases b:(X i).na=v
  ·simp [b,ht]
  ·simp [b]
theorem last_no {X:Nat→Nd} {i:Nat} (ht:zcb (X i) (i+1)=false) (v:Nat):lastN X v i=lastN X v (i+1):=by
 rw [lastN,if_neg (by simp [ht])]
theorem info_int:(Tryz.prog.info? 3).map (fun i=>(i.zero,i.size,i.bytes))=some (some (.int .i64 0),1,8):=by kernel_rfl
def LastPost (X:Nat→Nd) (n:Nat) (w:World) (e:Ending) (w':World):Prop :=
 ∃ A c,e=.returned (.slice A (n+1) c)∧Kit.Rd w' w'.heap.size A (rowI (lastZ X n) (n+1))∧Below w.heap.size w w'
theorem clast_to (X:Nat→Nd) (n c:Nat) (hn:n≤50) (A:Option Addr) (w:World) (hA:NodesAt w w.heap.size A n X) :
  Calls Tryz.prog 12 #[.slice A n c] w (LastPost X n w):=by
 have HA:=hid hA
 obtain⟨i0,hi0,hi1,hi2,hi3⟩:=info_parts info_int
 have en:IntKind.i64.wrap ((n:Int)+1)=(n:Int)+1:=IntWalk.i64_in _ (by omega)
 clear hA
 go_enter Tryz.func12,Tryz.ntmps12
 go_wp2_with (at_make;refine wpList_make_full _ rfl (.tmp 11) (.tmp 11) _ rfl w.heap.size 3 i0 (.int .i64 0) 1 Tryz.underlying46 hi0 hi1 hi2 .i64 .i64 _ _ (n+1) rfl rfl rfl rfl (by rw [hi3];omega) (by unfold maxLen;omega) (by simp) ?_;intro w2 hown hg2)
 have hB2:Below w.heap.size w w2:=(Below.refl _ _).grown hg2 (by simp) (fun q hq=>by cases hq)
 rw [show (madeCells (Value.int IntKind.i64 0).cells ((n+1) * 1)).toList=List.replicate (n+1) (.int .i64 0) by rw [Nat.mul_one];exact toList_madeCells_one _ _, ← rowI_zero] at hown
 have HOWN:=hid hown
 have HB0:=hid hB2
 have HSZ:=hid (Kit.zao hown)
 clear hown hB2 hg2 hi0 hi1 hi2 hi3
 go_loopw [15] (fun u wr=>∃ i:Nat,i≤n∧u=.int .i64 i∧Hid (wr.ownsRow w.heap.size 3 1 (.slice (some ⟨w.heap.size,0,none⟩) (n+1) (n+1)) (n+1) (rowI (fun v=>lastN X v i) (n+1)))∧Hid (Below w.heap.size w wr)) (fun u _=>n - (intOf u).toNat)
 case atStart=>exact⟨0,Nat.zero_le _,rfl,HOWN,HB0⟩
 case round =>
  obtain⟨i,hi,rfl,HO,HB⟩:=hrel
  clear HOWN HB0 HSZ
  by_cases hlt:i < n
  ·obtain⟨ba,oa,rfl,hba,hra⟩:=(HA.out.below HB.out) i hlt
   have i1:(i:Int) < (n:Int):=by omega
   have ib:(0:Int)≤(i:Int):=by omega
   have HRA:=hid hra
   have HOW:=hid (Kit.zao HO.out)
   obtain⟨x,hx⟩:∃ x,X i=x:=⟨_,rfl⟩
   obtain⟨tb,htb⟩:∃ tb,zcb x (i+1)=tb:=⟨_,rfl⟩
   have he:earB (opL x) ((i:Int)+1)=tb:=by have:=ear_there x (i+1);rw [htb] at this;exact this
   have hol:(opL x).length≤1000:=by unfold opL;split <;> simp
   have HXI:=hid hx
   have HTB:=hid htb
   have HE:=hid he
   have HOL:=hid hol
   rw [hx] at HRA
   have ei:IntKind.i64.wrap ((i:Int)+1)=(i:Int)+1:=IntWalk.i64_in _ (by omega)
   clear hra hba hx htb he hol
   cases tb with
   | false =>
     have HO9:Hid (rowI (fun v=>lastN X v i) (n+1)=rowI (fun v=>lastN X v (i+1)) (n+1)):=hid (rowI_congr fun v _=>last_no (by rw [HXI.out];exact HTB.out) v)
     go_wp2_with (first
      | (refine zbc rfl _ rfl ba (oa+i * 19) x rfl HRA.out ?_)
      | (refine zas rfl _ _ rfl wr.heap.size nd0 x rfl rfl (NdBox.new nd0 _ wr) ?_
         intro w3 hbx hbl hsz1
         have HNX:=hid hbx.1
         have hh:Below wr.heap.size wr w3:=((Below.refl _ _).alloc (le_refl _) _).trans hbl
         have HH:=hid hh
         clear hbx hbl hsz1 hh)
      | (refine zak rfl _ rfl wr.heap.size x rfl HNX.out ?_)
      | (go_at_call 22
         refine (zcy x _).mono ?_
         rintro e w4 ⟨bo,rfl, -,hr,hb⟩
         have HRO:=hid hr
         have HH2:=hid (HH.out.trans (hb.mono HH.out.size))
         clear hr hb)
      | (go_at_call 23
         refine (earlier_to (opL x) _ rfl HOL.out _ _ _ _ HRO.out).mono ?_
         rintro e w5 ⟨rfl,rfl⟩
         rw [HE.out]))
     go_roundw
     case rel=>exact⟨i+1,by omega,by go_num,(by rw [← HO9.out];exact hid (Kit.own_below HO.out HH2.out)),hid (HB.out.trans (HH2.out.mono HB.out.size))⟩
     case measure=>simp [intOf];omega
   | true =>
     have HAL:Hid (∀ j z,(opL x)[j]?=some z→0≤z∧z < (i:Int)+1):=hid fun j z hz=>(earB_iff _ _).1 HE.out j z hz
     go_wp2_with (first
      | (refine zbc rfl _ rfl ba (oa+i * 19) x rfl HRA.out ?_)
      | (refine zas rfl _ _ rfl wr.heap.size nd0 x rfl rfl (NdBox.new nd0 _ wr) ?_
         intro w3 hbx hbl hsz1
         have HNX:=hid hbx.1
         have hh:Below wr.heap.size wr w3:=((Below.refl _ _).alloc (le_refl _) _).trans hbl
         have HH:=hid hh
         clear hbx hbl hsz1 hh)
      | (refine zak rfl _ rfl wr.heap.size x rfl HNX.out ?_)
      | (go_at_call 22
         refine (zcy x _).mono ?_
         rintro e w4 ⟨bo,rfl,hge,hr,hb⟩
         have HRO:=hid hr
         have HBO:Hid (w.heap.size < bo):=hid (Nat.lt_of_lt_of_le HOW.out (Nat.le_trans HH.out.size hge))
         have HH2:=hid (HH.out.trans (hb.mono HH.out.size))
         clear hr hb hge)
      | (go_at_call 23
         refine (earlier_to (opL x) _ rfl HOL.out _ _ _ _ HRO.out).mono ?_
         rintro e w5 ⟨rfl,rfl⟩
         rw [HE.out]))
     have HB4:=hid (HB.out.trans (HH2.out.mono HB.out.size))
     have HO4:=hid (Kit.own_below HO.out HH2.out)
     obtain⟨m,hm⟩:∃ m,(opL x).length=m:=⟨_,rfl⟩
     rw [hm] at HOL ⊢
     have HM:=hid hm
     clear HH HH2 HNX HRA HO HB hm HE
     go_loopw [29] (fun u wr=>∃ j:Nat,j≤m∧u=.int .i64 j∧Hid (wr.ownsRow w.heap.size 3 1 (.slice (some ⟨w.heap.size,0,none⟩) (n+1) (n+1)) (n+1) (rowI (partN (opL x) ((i:Int)+1) (fun v=>lastN X v i) j) (n+1)))∧Hid (Kit.Rd wr wr.heap.size (some ⟨bo,0,none⟩) (i64V (opL x)))∧Hid (Below w.heap.size w wr)) (fun u _=>m - (intOf u).toNat)
     case atStart=>exact⟨0,Nat.zero_le _,rfl,HO4,HRO,HB4⟩
     case round =>
      obtain⟨j,hj,rfl,HO5,HRO5,HB5⟩:=hrel
      clear HO4 HRO HB4
      by_cases hltj:j < m
      ·obtain⟨z,hz⟩:∃ z,(opL x)[j]?=some z:=⟨_,List.getElem?_eq_getElem (by have:=HM.out;omega)⟩
       obtain⟨z0,z1⟩:=HAL.out j z hz
       obtain⟨zn,rfl⟩:∃ zn:Nat,z=zn:=⟨z.toNat,by omega⟩
       obtain⟨b9,o9,e9, -,h9⟩:=HRO5.out.plain (by rw [i64V,List.length_map];have:=HM.out;omega)
       cases e9
       have c1:=h9 j (.int .i64 (zn:Int)) (by simp [i64V,hz])
       rw [Nat.zero_add] at c1
       have k0:(0:Int)≤(j:Int):=by omega
       have k1:(j:Int) < (m:Int):=by omega
       have k9:(j:Int) < 1000:=by have:=HOL.out;omega
       have z2:(zn:Int) < (n:Int)+1:=by omega
       have z3:(zn:Int) < ((n+1:Nat):Int):=by omega
       have ks:wr.cell? ⟨w.heap.size,zn,none⟩=some (.int .i64 (partN (opL x) ((i:Int)+1) (fun v=>lastN X v i) j zn)):=(HO5.out.cellAt zn (by omega)).trans (rowI_at _ (by omega))
       have fs:wr.frozen? ⟨w.heap.size,zn,none⟩=false:=HO5.out.frozenAt zn
       have hst:=(HO5.out.stored zn (.int .i64 ((i:Int)+1))).1
       rw [rowI_set (G:=partN (opL x) ((i:Int)+1) (fun v=>lastN X v i) (j+1)) (by rw [partN,if_pos hz]) (fun k hk=>by rw [partN,if_neg (by rw [hz];simp;omega)])] at hst
       have HST:=hid hst
       have HRO6:Hid (Kit.Rd (wr.setCell ⟨w.heap.size,zn,none⟩ (.int .i64 ((i:Int)+1))) (wr.setCell ⟨w.heap.size,zn,none⟩ (.int .i64 ((i:Int)+1))).heap.size (some ⟨bo,0,none⟩) (i64V (opL x))):=by
        refine hid fun q u hu=>?_
        obtain⟨ad,ha,hb,hc⟩:=HRO5.out q u hu
        cases ha
        refine⟨_,rfl,by simpa using hb,?_⟩
        rw [World.cell?_setCell_other]
        ·exact hc
        ·intro e
         have h7:((⟨bo,0,none⟩:Addr).add q).block=w.heap.size:=by rw [← e]
         rw [Kit.add_block] at h7
         have:=HBO.out
         simp only at h7
         omega
       clear h9 hst hz z0 z1
       go_wp2_with fail
       go_roundw
       case rel=>exact⟨j+1,by omega,by go_num,HST,HRO6,hid (HB5.out.setCell (by simp) _)⟩
       case measure=>simp [intOf];omega
      ·obtain rfl:j=m:=by omega
       have HO9:Hid (rowI (partN (opL x) ((i:Int)+1) (fun v=>lastN X v i) j) (n+1)=rowI (fun v=>lastN X v (i+1)) (n+1)):=hid (rowI_congr fun v _=>by
        have h:=part_all (X:=X) (i:=i) (by rw [HXI.out];exact HTB.out) v
        rw [HXI.out,HM.out] at h;exact h)
       go_wp2_with fail
       go_roundw
       case rel=>exact⟨i+1,by omega,by go_num,(by rw [← HO9.out];exact HO5),HB5⟩
       case measure=>simp [intOf];omega
  ·obtain rfl:i=n:=by omega
   have ks:wr.cell? ⟨w.heap.size,i,none⟩=some (.int .i64 (lastN X i i)):=(HO.out.cellAt i (by omega)).trans (rowI_at (fun v=>lastN X v i) (by omega))
   have fs:wr.frozen? ⟨w.heap.size,i,none⟩=false:=HO.out.frozenAt i
   have i1:(i:Int) < ((i+1:Nat):Int):=by omega
   have i2:(i:Int) < (i:Int)+1:=by omega
   have ib:(0:Int)≤(i:Int):=by omega
   have hst:=(HO.out.stored i (.int .i64 ((i:Int)+1))).1
   rw [rowI_set (G:=lastZ X i) (by simp [lastZ]) (fun k hk=>by simp [lastZ,hk])] at hst
   obtain⟨A2,c2,e2, -, -,hrd⟩:=Kit.zam hst
   cases e2
   have HRD:=hid hrd
   clear hst hrd
   go_wp2_with fail
   go_ret
   exact⟨_,_,rfl,HRD.out,HB.out.setCell (by simp) _⟩
theorem rowI_len (F:Nat→Int) (n:Nat):(rowI F n).length=n:=by simp [rowI]
theorem rdI_at {w:World} {B:Nat} {A:Option Addr} {S:Nat→Int} {n:Nat} (h:Kit.Rd w B A (rowI S n)) (hn:0 < n) :
  ∃ b o,A=some ⟨b,o,none⟩∧b < B∧∀ k,k < n→w.cell? ⟨b,o+k,none⟩=some (.int .i64 (S k)):=by
 obtain⟨b,o,e,hb,hc⟩:=h.plain (by rw [rowI_len];exact hn)
 exact⟨b,o,e,hb,fun k hk=>hc k _ (rowI_at S hk)⟩
theorem isame_to (F:Nat→Int) (n:Nat) (hn:n≤1000) (A A':Option Addr) (c c':Nat) (w:World) {B B':Nat} (hr:Kit.Rd w B A (rowI F n)) (hr':Kit.Rd w B' A' (rowI F n)) :
  Calls Tryz.prog 11 #[.slice A n c,.slice A' n c'] w fun e w'=>e=.returned (.bool true)∧∃ m,w'=w.drewN m:=by
 have HA:=hid hr
 have HB:=hid hr'
 clear hr hr'
 go_enter Tryz.func11,Tryz.ntmps11
 go_wp2_with fail
 go_loopw [5] (fun u wr=>∃ k nq:Nat,k≤n∧u=.int .i64 k∧Hid (wr=w.drewN nq)) (fun u _=>n - (intOf u).toNat)
 case atStart=>exact⟨0,0,Nat.zero_le _,rfl,hid rfl⟩
 case round =>
  obtain⟨k,nq,hk,rfl,hw⟩:=hrel
  obtain rfl:=hw.out
  clear hw
  by_cases hlt:k < n
  ·obtain⟨b1,o1,rfl, -,h1⟩:=rdI_at HA.out (by omega)
   obtain⟨b2,o2,rfl, -,h2⟩:=rdI_at HB.out (by omega)
   have c1:=h1 k hlt
   have c2:=h2 k hlt
   have k0:(0:Int)≤(k:Int):=by omega
   have k1:(k:Int) < (n:Int):=by omega
   clear h1 h2
   go_wp2_with fail
   go_quiet (fail)
   go_wp2
   go_roundw
   case rel=>exact⟨k+1,_,by omega,by go_num,hid rfl⟩
   case measure=>simp [intOf];omega
  ·obtain rfl:k=n:=by omega
   go_wp2_with fail
   go_ret
   exact⟨rfl,nq,rfl⟩
def nd9:Nd:=⟨9,0,0,0,0,0,0,0,0,none,0,0,none,0,0,0,0,0,0,0,0,0,0⟩
def LK (i:Nat):Int:=if i=0 then 2 else if i=1 then 0 else 3
theorem LK_row:rowI LK 3=[.int .i64 2,.int .i64 0,.int .i64 3]:=rfl
theorem LK_last:rowI (lastZ (fun _=>nd9) 2) 3=rowI LK 3:=by
 have h:∀ k,k < 3→lastZ (fun _=>nd9) 2 k=LK k:=by decide
 exact List.map_congr_left fun k hk=>by rw [h k (by simpa using hk)]
theorem nodes_two (w:World):NodesAt (w.alloc (.cells #[.int .i64 9,.int .i64 0,.int .i64 0,.int .i64 0,.int .i64 0,.int .i64 0,.int .i64 0,.int .i8 0,.int .i8 0,.slice none 0 0,.slice none 0 0,.int .i32 0,.int .i64 0,.int .i8 0,.int .i32 0,.int .i64 0,.int .i8 0,.int .i8 0,.int .i8 0,.int .i64 9,.int .i64 0,.int .i64 0,.int .i64 0,.int .i64 0,.int .i64 0,.int .i64 0,.int .i8 0,.int .i8 0,.slice none 0 0,.slice none 0 0,.int .i32 0,.int .i64 0,.int .i8 0,.int .i32 0,.int .i64 0,.int .i8 0,.int .i8 0,.int .i8 0] 44)) (w.alloc (.cells #[.int .i64 9,.int .i64 0,.int .i64 0,.int .i64 0,.int .i64 0,.int .i64 0,.int .i64 0,.int .i8 0,.int .i8 0,.slice none 0 0,.slice none 0 0,.int .i32 0,.int .i64 0,.int .i8 0,.int .i32 0,.int .i64 0,.int .i8 0,.int .i8 0,.int .i8 0,.int .i64 9,.int .i64 0,.int .i64 0,.int .i64 0,.int .i64 0,.int .i64 0,.int .i64 0,.int .i8 0,.int .i8 0,.slice none 0 0,.slice none 0 0,.int .i32 0,.int .i64 0,.int .i8 0,.int .i32 0,.int .i64 0,.int .i8 0,.int .i8 0,.int .i8 0] 44)).heap.size (some ⟨w.heap.size,0,none⟩) 2 (fun _=>nd9):=by
 intro j hj
 refine⟨w.heap.size,0,rfl,by simp,fun q v hq=>?_⟩
 rw [Kit.zaf]
 have hq2:q < 19:=(List.getElem?_eq_some_iff.1 hq).1
 rw [← hq]
 match j,hj,q,hq2 with
 | 0,_,0,_=>rfl
 | 0,_,1,_=>rfl
 | 0,_,2,_=>rfl
 | 0,_,3,_=>rfl
 | 0,_,4,_=>rfl
 | 0,_,5,_=>rfl
 | 0,_,6,_=>rfl
 | 0,_,7,_=>rfl
 | 0,_,8,_=>rfl
 | 0,_,9,_=>rfl
 | 0,_,10,_=>rfl
 | 0,_,11,_=>rfl
 | 0,_,12,_=>rfl
 | 0,_,13,_=>rfl
 | 0,_,14,_=>rfl
 | 0,_,15,_=>rfl
 | 0,_,16,_=>rfl
 | 0,_,17,_=>rfl
 | 0,_,18,_=>rfl
 | 1,_,0,_=>rfl
 | 1,_,1,_=>rfl
 | 1,_,2,_=>rfl
 | 1,_,3,_=>rfl
 | 1,_,4,_=>rfl
 | 1,_,5,_=>rfl
 | 1,_,6,_=>rfl
 | 1,_,7,_=>rfl
 | 1,_,8,_=>rfl
 | 1,_,9,_=>rfl
 | 1,_,10,_=>rfl
 | 1,_,11,_=>rfl
 | 1,_,12,_=>rfl
 | 1,_,13,_=>rfl
 | 1,_,14,_=>rfl
 | 1,_,15,_=>rfl
 | 1,_,16,_=>rfl
 | 1,_,17,_=>rfl
 | 1,_,18,_=>rfl
theorem known27 (w:World):Calls Tryz.prog 6 #[] w fun e w'=>e=.returned (.bool true)∧Below w.heap.size w w':=by
 have HN:=hid (nodes_two w)
 have HB0:=hid ((Below.refl w.heap.size w).alloc (le_refl _) (.cells #[.int .i64 9,.int .i64 0,.int .i64 0,.int .i64 0,.int .i64 0,.int .i64 0,.int .i64 0,.int .i8 0,.int .i8 0,.slice none 0 0,.slice none 0 0,.int .i32 0,.int .i64 0,.int .i8 0,.int .i32 0,.int .i64 0,.int .i8 0,.int .i8 0,.int .i8 0,.int .i64 9,.int .i64 0,.int .i64 0,.int .i64 0,.int .i64 0,.int .i64 0,.int .i64 0,.int .i8 0,.int .i8 0,.slice none 0 0,.slice none 0 0,.int .i32 0,.int .i64 0,.int .i8 0,.int .i32 0,.int .i64 0,.int .i8 0,.int .i8 0,.int .i8 0] 44))
 go_enter Tryz.func6,Tryz.ntmps6
 go_wp2_with (first
  | (go_at_call 12
     refine (clast_to (fun _=>nd9) 2 _ (by omega) _ _ HN.out).mono ?_
     rintro e w1 ⟨A5,c5,rfl,hp,hb⟩
     rw [LK_last] at hp
     have HP:=hid hp
     have HB1:=hid (HB0.out.trans (hb.mono HB0.out.size))
     clear hp hb)
  | (go_at_call 11
     refine (isame_to LK 3 (by omega) A5 _ c5 3 _ (HP.out.below ((Below.refl _ _).alloc (le_refl _) _)) (by rw [LK_row];exact Kit.Rd.new _ _ _ (lt_succ_self _))).mono ?_
     rintro e w2 ⟨rfl,m,rfl⟩))
 go_ret
 exact⟨rfl,Kit.below_drewN (HB1.out.alloc HB1.out.size _) _⟩
/-! ### what Shapes tells, in one form -/
end CGraph
end
end Go.Proofs.YtahekhpeomcfjaaGreatDoor
