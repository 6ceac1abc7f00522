/- -/
import Derived.Test.YtoffcaldhojjoaaGreatDoorGVU27
open Go.Lib (hid)
open Nat (le_refl lt_of_succ_lt lt_succ_self)
set_option linter.unusedVariables false
set_option linter.unusedSimpArgs false
set_option maxRecDepth 100000
set_option maxHeartbeats 16000000
namespace Go.Proofs.YtoffcaldhojjoaaGreatDoor
namespace CConv
end CConv
namespace CFix
end CFix
namespace CKind
end CKind
namespace CSat
end CSat
namespace CTensor
end CTensor
open Go Go.ChangeShapes Go.WideShapes Go.ChangeAt Go.RowKit Go.Deep
section
namespace CGraph
open Plain CSat CFix CShape CTensor CConv CKind
def outS (X:Nat→Nd) (t0:Tri) (n:Nat):Option (Int × Int) :=
 if zae t0.1 t0.2.1 t0.2.2=false then some (-1,5) else if n=0 then some (-1,12) else if 8 < n then some (-1,4) else (zbq X t0 n).map fun r=>((r.1:Int),r.2)
def ShpPost (X:Nat→Nd) (t0:Tri) (n:Nat) (w:World) (e:Ending) (w':World):Prop :=
 ((∃ k z,outS X t0 n=some (k,z)∧e=.returned (.tuple #[.slice none 0 0,.int .i64 k,.int .i64 z])) ∨
   (outS X t0 n=none∧∃ v,e=.returned (.tuple #[v,.int .i64 (n:Int),.int .i64 0])∧w'.ownsRow w.heap.size 23 3 v (n+1) (tvV (shL X t0 n))))∧Below w.heap.size w w'
theorem sh_cells (t:Tri) (w:World):(w.alloc (.cells #[.int .i64 t.1,.int .i64 t.2.1,.int .i64 t.2.2] 23)).cell? ⟨w.heap.size,0,none⟩=some (.int .i64 t.1)∧(w.alloc (.cells #[.int .i64 t.1,.int .i64 t.2.1,.int .i64 t.2.2] 23)).cell? ⟨w.heap.size,1,none⟩=some (.int .i64 t.2.1)∧(w.alloc (.cells #[.int .i64 t.1,.int .i64 t.2.1,.int .i64 t.2.2] 23)).cell? ⟨w.heap.size,2,none⟩=some (.int .i64 t.2.2) :=
 ⟨by rw [Kit.zal];rfl,by rw [Kit.zal];rfl,by rw [Kit.zal];rfl⟩
theorem cshapes_to (X:Nat→Nd) (t0:Tri) (n c:Nat) (hn:n≤50) (A:Option Addr) (w:World) (hT:zan w) (hX:∀ j,j < n→(X j).Small) (hA:NodesAt w w.heap.size A n X) :
  Calls Tryz.prog 27 #[.slice A n c,.agg #[.int .i64 t0.1,.int .i64 t0.2.1,.int .i64 t0.2.2]] w (ShpPost X t0 n w):=by
 obtain⟨q0,q1,q2⟩:=sh_cells t0 w
 have HB0:=hid ((Below.refl w.heap.size w).alloc (le_refl _) (.cells #[.int .i64 t0.1,.int .i64 t0.2.1,.int .i64 t0.2.2] 23))
 have hsz:w.heap.size < (w.alloc (.cells #[.int .i64 t0.1,.int .i64 t0.2.1,.int .i64 t0.2.2] 23)).heap.size:=by simp
 have HSZ:=hid hsz
 have HT:=hid hT
 have HA:=hid hA
 have HX:=hid hX
 obtain⟨sb,hsb⟩:∃ sb,zae t0.1 t0.2.1 t0.2.2=sb:=⟨_,rfl⟩
 have HSB:=hid hsb
 have hout:outS X t0 n=if sb=false then some (-1,5) else if n=0 then some (-1,12) else if 8 < n then some (-1,4) else (zbq X t0 n).map fun r=>((r.1:Int),r.2):=by unfold outS;rw [hsb]
 have HOUT:=hid hout
 have CR:=hid (fun w:World=>zax t0.1 t0.2.1 t0.2.2 sb hsb w)
 clear hT hX hA hsb hout hsz
 go_enter Tryz.func27,Tryz.ntmps27
 go_upto_region 1 with fail
 generalize w.alloc (.cells #[.int .i64 t0.1,.int .i64 t0.2.1,.int .i64 t0.2.2] 23)=W0 at q0 q1 q2 HB0 HSZ ⊢
 cases sb with
 | false =>
   go_wp2_with (go_at_call 16;(refine (CR.out _).mono ?_);rintro e w1 ⟨rfl,hb⟩;(have HB1:=hid (HB0.out.trans (hb.mono HB0.out.size)));clear hb)
   go_ret3
   exact⟨.inl ⟨-1,5,by rw [HOUT.out];rfl,rfl⟩,HB1.out⟩
 | true =>
   by_cases h0:n=0
   ·subst h0
    go_wp2_with (go_at_call 16;(refine (CR.out _).mono ?_);rintro e w1 ⟨rfl,hb⟩;(have HB1:=hid (HB0.out.trans (hb.mono HB0.out.size)));clear hb)
    go_ret3
    exact⟨.inl ⟨-1,12,by rw [HOUT.out];rfl,rfl⟩,HB1.out⟩
   ·have h1:((n:Int) == 0)=false:=by simp;omega
    have h1b:¬ (n:Int)=0:=by omega
    by_cases h2:8 < n
    ·have h3:(n:Int) > 8:=by omega
     have ho:outS X t0 n=some (-1,4):=by rw [HOUT.out];simp [h0,h2]
     have HO:=hid ho
     clear h0 h2 ho HOUT
     go_wp2_with (go_at_call 16;(refine (CR.out _).mono ?_);rintro e w1 ⟨rfl,hb⟩;(have HB1:=hid (HB0.out.trans (hb.mono HB0.out.size)));clear hb)
     go_ret3
     exact⟨.inl ⟨-1,4,HO.out,rfl⟩,HB1.out⟩
    ·have h3:¬ (n:Int) > 8:=by omega
     have ho:outS X t0 n=(zbq X t0 n).map fun r=>((r.1:Int),r.2):=by rw [HOUT.out];simp [h0,h2]
     have HO:=hid ho
     clear h0 h2 ho HOUT
     go_wp2_with (first
      | (go_at_call 16
         refine (CR.out _).mono ?_
         rintro e w1 ⟨rfl,hb⟩
         have HB1:=hid (HB0.out.trans (hb.mono HB0.out.size))
         have g0:=(hb.cell (p:=⟨w.heap.size,0,none⟩) HSZ.out).trans q0
         have g1:=(hb.cell (p:=⟨w.heap.size,1,none⟩) HSZ.out).trans q1
         have g2:=(hb.cell (p:=⟨w.heap.size,2,none⟩) HSZ.out).trans q2
         clear hb q0 q1 q2)
      | (go_at_call 43
         refine (through_to X t0 n c hn A _ (HT.out.below HB1.out HT.out.size) HX.out ((HA.out.below HB1.out).more HB1.out.size)).mono ?_
         rintro e w2 ⟨hres,hb⟩
         have HB2:=hid (HB1.out.trans (hb.mono HB1.out.size))
         have HRES:=hid hres
         clear hb hres
         rcases HRES.out with ⟨k,z,hs,rfl⟩ | ⟨hs,v,rfl,hown⟩))
     ·go_ret3
      exact⟨.inl ⟨k,z,by rw [HO.out,hs];rfl,rfl⟩,HB2.out⟩
     ·go_ret3
      exact⟨.inr ⟨by rw [HO.out,hs];rfl,v,rfl,Kit.own_base hown HB1.out.size⟩,HB2.out⟩
theorem there_new (w:World):(w.alloc (.cells #[.int .i64 0,.int .i64 0,.int .i64 0] 23)).there w.heap.size 0 3:=by
 intro j hj
 rw [Nat.zero_add]
 refine⟨?_,?_⟩
 ·rw [Kit.zal]
  match j,hj with
  | 0,_=>rfl
  | 1,_=>rfl
  | 2,_=>rfl
 ·have hh:(w.alloc (.cells #[.int .i64 0,.int .i64 0,.int .i64 0] 23)).heap[w.heap.size]?=some (.cells #[.int .i64 0,.int .i64 0,.int .i64 0] 23):=heap_alloc_new _ _
  simp only [World.frozen?,hh]
  rfl
theorem rshapes_to (X:Nat→Nd) (t0:Tri) (n c:Nat) (hn:n≤50) (A:Option Addr) (w:World) (hA:NodesAt w w.heap.size A n X) :
  Calls Tryz.prog 15 #[.slice A n c,.agg #[.int .i64 t0.1,.int .i64 t0.2.1,.int .i64 t0.2.2]] w (ShpPost X t0 n w):=by
 obtain⟨q0,q1,q2⟩:=sh_cells t0 w
 have HB0:=hid ((Below.refl w.heap.size w).alloc (le_refl _) (.cells #[.int .i64 t0.1,.int .i64 t0.2.1,.int .i64 t0.2.2] 23))
 have hsz:w.heap.size < (w.alloc (.cells #[.int .i64 t0.1,.int .i64 t0.2.1,.int .i64 t0.2.2] 23)).heap.size:=by simp
 have HSZ:=hid hsz
 have HA:=hid hA
 obtain⟨i0,hi0,hi1,hi2,hi3⟩:=info_parts info_sh3
 obtain⟨sb,hsb⟩:∃ sb,zae t0.1 t0.2.1 t0.2.2=sb:=⟨_,rfl⟩
 obtain⟨el,hel⟩:∃ el,zam t0.1 t0.2.1 t0.2.2=el:=⟨_,rfl⟩
 have hout:outS X t0 n=if sb=false then some (-1,5) else if n=0 then some (-1,12) else if 8 < n then some (-1,4) else (zbq X t0 n).map fun r=>((r.1:Int),r.2):=by unfold outS;rw [hsb]
 have HOUT:=hid hout
 have CR:=hid (fun w:World=>zaf t0.1 t0.2.1 t0.2.2 el hel w)
 have hpos:(el == 0) = !sb:=by
  have:=elemsZ_pos t0.1 t0.2.1 t0.2.2
  have hb:=elemsZ_bd t0.1 t0.2.1 t0.2.2
  rw [hel,hsb] at this
  rw [hel] at hb
  cases sb with
  | false=>simp at this;simp;omega
  | true=>simp at this;simp;omega
 clear hA hsb hout hsz hel
 go_enter Tryz.func15,Tryz.ntmps15
 go_upto_region 1 with fail
 generalize w.alloc (.cells #[.int .i64 t0.1,.int .i64 t0.2.1,.int .i64 t0.2.2] 23)=W0 at q0 q1 q2 HB0 HSZ ⊢
 cases sb with
 | false =>
   have hp:(el == 0)=true:=hpos
   have hp2:el=0:=by simpa using hp
   clear hpos
   go_wp2_with (go_at_call 13;(refine (CR.out _).mono ?_);rintro e w1 ⟨rfl,hb⟩;(have HB1:=hid (HB0.out.trans (hb.mono HB0.out.size)));clear hb)
   go_ret3
   exact⟨.inl ⟨-1,5,by rw [HOUT.out];rfl,rfl⟩,HB1.out⟩
 | true =>
   have hp:(el == 0)=false:=hpos
   have hp2:¬ el=0:=by simpa using hp
   clear hpos
   by_cases h0:n=0
   ·subst h0
    go_wp2_with (go_at_call 13;(refine (CR.out _).mono ?_);rintro e w1 ⟨rfl,hb⟩;(have HB1:=hid (HB0.out.trans (hb.mono HB0.out.size)));clear hb)
    go_ret3
    exact⟨.inl ⟨-1,12,by rw [HOUT.out];rfl,rfl⟩,HB1.out⟩
   ·have h1:((n:Int) == 0)=false:=by simp;omega
    have h1b:¬ (n:Int)=0:=by omega
    by_cases h2:8 < n
    ·have h3:(n:Int) > 8:=by omega
     have ho:outS X t0 n=some (-1,4):=by rw [HOUT.out];simp [h0,h2]
     have HO:=hid ho
     clear h0 h2 ho HOUT
     go_wp2_with (go_at_call 13;(refine (CR.out _).mono ?_);rintro e w1 ⟨rfl,hb⟩;(have HB1:=hid (HB0.out.trans (hb.mono HB0.out.size)));clear hb)
     go_ret3
     exact⟨.inl ⟨-1,4,HO.out,rfl⟩,HB1.out⟩
    ·have h3:¬ (n:Int) > 8:=by omega
     have ho:outS X t0 n=(zbq X t0 n).map fun r=>((r.1:Int),r.2):=by rw [HOUT.out];simp [h0,h2]
     have HO9:=hid ho
     clear h0 h2 ho HOUT
     go_wp2_with (first
      | (go_at_call 13
         refine (CR.out _).mono ?_
         rintro e w1 ⟨rfl,hb⟩
         have HB1:=hid (HB0.out.trans (hb.mono HB0.out.size))
         have g0:=(hb.cell (p:=⟨w.heap.size,0,none⟩) HSZ.out).trans q0
         have g1:=(hb.cell (p:=⟨w.heap.size,1,none⟩) HSZ.out).trans q1
         have g2:=(hb.cell (p:=⟨w.heap.size,2,none⟩) HSZ.out).trans q2
         clear hb q0 q1 q2))
     have HO0:=hid (own_new3 w1 w.heap.size HB1.out.size t0)
     have HBS:=hid (HB1.out.alloc HB1.out.size (.cells #[.int .i64 t0.1,.int .i64 t0.2.1,.int .i64 t0.2.2] 23))
     generalize w1.alloc (.cells #[.int .i64 t0.1,.int .i64 t0.2.1,.int .i64 t0.2.2] 23)=WS at HO0 HBS ⊢
     clear g0 g1 g2 HB1 HB0 HSZ CR
     go_loopw [7,8] (fun v u wr=>∃ k:Nat,k≤n∧u=.int .i64 k∧Hid (zbq X t0 k=none)∧Hid (wr.ownsRow w.heap.size 23 3 v (k+1) (tvV (shL X t0 k)))∧Hid (Below w.heap.size w wr)) (fun _ u _=>n - (intOf u).toNat)
     case atStart=>exact⟨0,Nat.zero_le _,rfl,hid rfl,HO0,HBS⟩
     case round =>
      obtain⟨k,hk,rfl,hst,HO,HB⟩:=hrel
      clear HO0 HBS
      by_cases hlt:k < n
      ·obtain⟨Av,cv,rfl, -, -,hrd⟩:=Kit.own_rd HO.out
       obtain⟨ba,oa,rfl,hba,hra⟩:=(HA.out.below HB.out) k hlt
       have k0:(0:Int)≤(k:Int):=by omega
       have k1:(k:Int) < (n:Int):=by omega
       have hlen:=shL_len X t0 k
       generalize hx:X k=x at *
       generalize hL:shL X t0 k=L at *
       have HRA:=hid hra
       have HXK:=hid hx
       have HLL:=hid hL
       have HRD:=hid hrd
       obtain⟨cz,hcz⟩:∃ cz,x.checkZ=cz:=⟨_,rfl⟩
       obtain⟨tb,htb⟩:∃ tb,zbp x (k+1)=tb:=⟨_,rfl⟩
       have CK:=hid (fun w:World=>by have h:=zar x w;rw [hcz] at h;exact h)
       have CT:=hid (fun w:World=>by have h:=refThere_to x (k+1) w;rw [htb] at h;exact h)
       have hsz:stopZ x L=if cz≠0 then cz else if tb=false then 8 else nextE x L:=by unfold stopZ;rw [hcz,hlen,htb]
       have hend:stopZ x L≠0→outS X t0 n=some ((k:Int),stopZ x L):=by
        intro h
        have:=stopAt_end (X:=X) (t0:=t0) hlt hst.out (by rw [hx,hL];exact h)
        rw [hx,hL] at this
        rw [HO9.out,this];rfl
       have hgo:stopZ x L=0→zbq X t0 (k+1)=none:=fun h=>stopAt_go hst.out (by rw [hx,hL];exact h)
       clear hrd hra hba hx hL
       by_cases hz1:cz=0
       ·subst hz1
        cases tb with
        | false =>
          have he:=hend (by rw [hsz];simp)
          rw [show stopZ x L=8 by rw [hsz];rfl] at he
          have HEND:=hid he
          clear hsz hend hgo he htb hcz hlen
          go_wp2_with (first
           | (refine zbm rfl _ rfl ba (oa+k * 19) x rfl HRA.out ?_)
           | (refine za2 rfl _ _ rfl wr.heap.size nd0 x rfl rfl (NdBox.new nd0 _ wr) ?_
              intro w1 hbx hbl hsz1
              have HNX:=hid hbx.1
              have hh:Below wr.heap.size wr w1:=((Below.refl _ _).alloc (le_refl _) _).trans hbl
              have HH:=hid hh
              have HGX:Hid (wr.heap.size < w1.heap.size):=hid (by rw [hsz1];simp)
              clear hbx hbl hsz1 hh)
           | (refine zac rfl _ rfl wr.heap.size x rfl HNB.out ?_)
           | (go_at_call 23
              refine (CT.out _).mono ?_
              rintro e w3 ⟨rfl,hb⟩
              replace HNB:=hid (HNB.out.below HG.out hb)
              replace HG:=hid (Nat.lt_of_lt_of_le HG.out hb.size)
              replace HH2:=hid (HH2.out.trans (hb.mono HH2.out.size))
              clear hb)
           | (refine zac rfl _ rfl wr.heap.size x rfl HNX.out ?_)
           | (go_at_call 22
              refine (CK.out _).mono ?_
              rintro e w2 ⟨rfl,hb⟩
              have HNB:=hid (HNX.out.below HGX.out hb)
              have HG:=hid (Nat.lt_of_lt_of_le HGX.out hb.size)
              have HH2:=hid (HH.out.trans (hb.mono HH.out.size))
              clear hb HNX HGX))
          go_ret3
          exact⟨.inl ⟨k,8,HEND.out,rfl⟩,HB.out.trans (HH2.out.mono HB.out.size)⟩
        | true =>
          have ht2:0≤x.na∧x.na < (k+1:Nat)∧(x.kd=6→0≤x.nb∧x.nb < (k+1:Nat)):=of_decide_eq_true htb
          have hnb:0≤sndZ x∧sndZ x < (k+1:Nat):=by
           unfold sndZ
           by_cases h6:x.kd=6
           ·rw [if_pos h6];exact ht2.2.2 h6
           ·rw [if_neg h6];exact⟨ht2.1,ht2.2.1⟩
          obtain⟨ka,hka⟩:∃ ka:Nat,x.na=ka:=⟨x.na.toNat,by omega⟩
          obtain⟨kb,hkb⟩:∃ kb:Nat,sndZ x=kb:=⟨(sndZ x).toNat,by omega⟩
          obtain⟨a,ha1,ha2⟩:=tvV_at (k:=ka) hlen (by omega)
          obtain⟨b,hb1,hb2⟩:=tvV_at (k:=kb) hlen (by omega)
          obtain⟨u0,u1,u2,hu⟩:=x.sh_three a.1 a.2.1 a.2.2 b.1 b.2.1 b.2.2
          obtain⟨u,hue⟩:∃ u:Tri,u=(u0,u1,u2):=⟨_,rfl⟩
          obtain⟨z,hzz⟩:∃ z,x.shE a.1 a.2.1 a.2.2 b.1 b.2.1 b.2.2=z:=⟨_,rfl⟩
          have hne:nextE x L=z:=by unfold nextE;rw [hka,hkb,Int.toNat_natCast,Int.toNat_natCast,ha2,hb2,hzz]
          have hnt:nextT x L=u:=by unfold nextT;rw [hka,hkb,Int.toNat_natCast,Int.toNat_natCast,ha2,hb2,hu,hue];rfl
          have hszz:stopZ x L=z:=by rw [hsz, ← hne];simp
          rw [hszz] at hend hgo
          have HEND:=hid (fun h:z≠0=>hend h)
          have HGO:=hid (fun h:z=0=>hgo h)
          have HNT:=hid hnt
          have CS:=hid (refShape_to x a.1 a.2.1 a.2.2 b.1 b.2.1 b.2.2 z u.1 u.2.1 u.2.2 hzz (by rw [hu,hue]))
          have CD:=hid (fun w:World=>by have h:=refSecond_to x w;rw [hkb] at h;exact h)
          have ie0:(0:Int)≤(ka:Int):=by omega
          have ie1:(ka:Int) < ((k+1:Nat):Int):=by omega
          have j0:(0:Int)≤(kb:Int):=by omega
          have j1:(kb:Int) < ((k+1:Nat):Int):=by omega
          have ie2:(ka:Int) < (k:Int)+1:=by omega
          have j2:(kb:Int) < (k:Int)+1:=by omega
          obtain⟨bl,ol,rfl,hbl,hcell⟩:=tv_cells HRD.out (by omega)
          have HCA0:=hid (hcell ka a ha1)
          have HCB0:=hid (hcell kb b hb1)
          have HBL:=hid hbl
          have hA1:Hid (x.val.toList[1]?=some (.int .i64 (ka:Int))):=hid (by rw [← hka];rfl)
          clear hend hgo hsz hszz hne hnt htb hcz hlen ht2 hnb hka hkb ha1 ha2 hb1 hb2 hu hue hzz hcell hbl
          go_upto_region 17 with (first
           | (refine zbm rfl _ rfl ba (oa+k * 19) x rfl HRA.out ?_)
           | (refine za2 rfl _ _ rfl wr.heap.size nd0 x rfl rfl (NdBox.new nd0 _ wr) ?_
              intro w1 hbx hbl hsz1
              have HNX:=hid hbx.1
              have hh:Below wr.heap.size wr w1:=((Below.refl _ _).alloc (le_refl _) _).trans hbl
              have HH:=hid hh
              have HGX:Hid (wr.heap.size < w1.heap.size):=hid (by rw [hsz1];simp)
              clear hbx hbl hsz1 hh)
           | (refine zac rfl _ rfl wr.heap.size x rfl HNB.out ?_)
           | (go_at_call 23
              refine (CT.out _).mono ?_
              rintro e w3 ⟨rfl,hb⟩
              replace HNB:=hid (HNB.out.below HG.out hb)
              replace HG:=hid (Nat.lt_of_lt_of_le HG.out hb.size)
              replace HH2:=hid (HH2.out.trans (hb.mono HH2.out.size))
              clear hb)
           | (refine zac rfl _ rfl wr.heap.size x rfl HNX.out ?_)
           | (go_at_call 22
              refine (CK.out _).mono ?_
              rintro e w2 ⟨rfl,hb⟩
              have HNB:=hid (HNX.out.below HGX.out hb)
              have HG:=hid (Nat.lt_of_lt_of_le HGX.out hb.size)
              have HH2:=hid (HH.out.trans (hb.mono HH.out.size))
              clear hb HNX HGX))
          have HCA:Hid (∀ wS,Below w3.heap.size w3 wS→wS.cell? ⟨bl,ol+ka * 3,none⟩=some (.int .i64 a.1)∧wS.cell? ⟨bl,ol+ka * 3+1,none⟩=some (.int .i64 a.2.1)∧wS.cell? ⟨bl,ol+ka * 3+2,none⟩=some (.int .i64 a.2.2)) :=
           hid (fun wS h=>have hh:=HH2.out.trans (h.mono HH2.out.size); ⟨(hh.cell (p:=⟨bl,ol+ka * 3,none⟩) HBL.out).trans (HCA0.out 0 _ rfl),(hh.cell (p:=⟨bl,ol+ka * 3+1,none⟩) HBL.out).trans (HCA0.out 1 _ rfl),(hh.cell (p:=⟨bl,ol+ka * 3+2,none⟩) HBL.out).trans (HCA0.out 2 _ rfl)⟩)
          have HCB:Hid (∀ wS,Below w3.heap.size w3 wS→wS.cell? ⟨bl,ol+kb * 3,none⟩=some (.int .i64 b.1)∧wS.cell? ⟨bl,ol+kb * 3+1,none⟩=some (.int .i64 b.2.1)∧wS.cell? ⟨bl,ol+kb * 3+2,none⟩=some (.int .i64 b.2.2)) :=
           hid (fun wS h=>have hh:=HH2.out.trans (h.mono HH2.out.size); ⟨(hh.cell (p:=⟨bl,ol+kb * 3,none⟩) HBL.out).trans (HCB0.out 0 _ rfl),(hh.cell (p:=⟨bl,ol+kb * 3+1,none⟩) HBL.out).trans (HCB0.out 1 _ rfl),(hh.cell (p:=⟨bl,ol+kb * 3+2,none⟩) HBL.out).trans (HCB0.out 2 _ rfl)⟩)
          refine wp_region_held_drew (S:=fun w'=>Below w3.heap.size w3 w') (by kernel_rfl) (Below.refl _ _).drew (fun hHeld=>?_)
          clear CK CT HRA HRD HCA0 HCB0
          generalize w3.drew=W1 at hHeld ⊢
          refine Tk.t 0 (v:=.agg x.val) rfl (zav _ rfl (by rfl) _ x rfl (fun _ h=>HNB.out.below HG.out h)) (by assumption) ?_
          try simp only [Tk.put]
          refine Tk.x 1 rfl ?_
          try simp only [Tk.put]
          refine Tk.x 2 rfl ?_
          try simp only [Tk.put]
          refine Tk.y 3 (v:=.int .i64 (ka:Int)) rfl ?_ ?_
          ·intro wS hSw
           have q:=(HNB.out.below HG.out hSw).at 1 (.int .i64 (ka:Int)) hA1.out
           first | (go_simp;done) | (go_simp;with_reducible rfl)
          try simp only [Tk.put]
          refine Tk.x 4 rfl ?_
          try simp only [Tk.put]
          refine Tk.y 5 (v:=.agg #[.int .i64 a.1,.int .i64 a.2.1,.int .i64 a.2.2]) rfl ?_ ?_
          ·intro wS hSw
           obtain⟨q0,q1,q2⟩:=HCA.out wS hSw
           first | (go_simp;done) | (go_simp;with_reducible rfl)
          try simp only [Tk.put]
          refine Tk.x 6 rfl ?_
          try simp only [Tk.put]
          refine Tk.t 7 (v:=.agg x.val) rfl (zav _ rfl (by rfl) _ x rfl (fun _ h=>HNB.out.below HG.out h)) (by assumption) ?_
          try simp only [Tk.put]
          refine wpAnyH_ready (rs:=[8,15]) (by kernel_rfl) (by simp) ?_
          refine Tk.c rfl (fun Kq hK=>?_) (Tk.c rfl (fun Kq hK=>?_) AllReadyH.nil)
          ·skip
           go_simp
           go_at_call 25
           refine (CD.out _).mono ?_
           rintro e W2 ⟨rfl,hb⟩
           have hS2:=hHeld.trans (hb.mono hHeld.size)
           clear hHeld hb
           dsimp only
           refine hK.out _ _ hS2 (fun hHeld=>?_)
           clear hK Kq hS2
           try simp only [Tk.put]
           refine Tk.x 9 rfl ?_
           try simp only [Tk.put]
           refine Tk.y 10 (v:=.agg #[.int .i64 b.1,.int .i64 b.2.1,.int .i64 b.2.2]) rfl ?_ ?_
           ·intro wS hSw
            obtain⟨q0,q1,q2⟩:=HCB.out wS hSw
            first | (go_simp;done) | (go_simp;with_reducible rfl)
           try simp only [Tk.put]
           refine wpAnyH_ready (rs:=[11,15]) (by kernel_rfl) (by simp) ?_
           refine Tk.c rfl (fun Kq hK=>?_) (Tk.c rfl (fun Kq hK=>?_) AllReadyH.nil)
           ·skip
            go_simp
            go_at_call 24
            refine (CS.out _).mono ?_
            rintro e W3 ⟨rfl,hb⟩
            have hS2:=hHeld.trans (hb.mono hHeld.size)
            clear hHeld hb
            dsimp only
            refine hK.out _ _ hS2 (fun hHeld=>?_)
            clear hK Kq hS2
            try simp only [Tk.put]
            refine Tk.x 12 rfl ?_
            try simp only [Tk.put]
            refine Tk.x 13 rfl ?_
            try simp only [Tk.put]
            refine Tk.x 14 rfl ?_
            try simp only [Tk.put]
            refine Tk.s 15 rfl (fun Kq hK=>?_)
            go_simp
            have HTH:=hid (there_new W3)
            have hS2:=hHeld.alloc hHeld.size (.cells #[.int .i64 0,.int .i64 0,.int .i64 0] 23)
            have HBX:Hid (W3.heap.size < (W3.alloc (.cells #[.int .i64 0,.int .i64 0,.int .i64 0] 23)).heap.size):=hid (by simp)
            have HGE:=hid hHeld.size
            generalize hbx:W3.heap.size=bx at *
            generalize W3.alloc (.cells #[.int .i64 0,.int .i64 0,.int .i64 0] 23)=W4 at HTH hS2 HBX ⊢
            clear hHeld hbx
            refine hK.out _ _ hS2 (fun hHeld=>?_)
            clear hK Kq hS2
            try simp only [Tk.put]
            refine Tk.s 16 rfl (fun Kq hK=>?_)
            rw [if_pos (by rfl)]
            refine wp_store_mid 23 _ _ rfl bx 0 #[.int .i64 u.1,.int .i64 u.2.1,.int .i64 u.2.2] rfl rfl HTH.out info_shape (tri_one _ _ _) ?_
            obtain⟨hs1,hs2⟩:=setCells_below (#[.int .i64 u.1,.int .i64 u.2.1,.int .i64 u.2.2]:Array Value).toList bx 0 W4
            have hS3:=hHeld.trans (hs1.mono HGE.out)
            have HRG:=hid (World.rangeAt_setCells_same W4 bx 0 (#[.int .i64 u.1,.int .i64 u.2.1,.int .i64 u.2.2]:Array Value).toList HTH.out)
            rw [← hs2] at HBX
            clear hHeld hs1 hs2 HTH
            generalize W4.setCells bx 0 (#[.int .i64 u.1,.int .i64 u.2.1,.int .i64 u.2.2]:Array Value).toList=W9 at hS3 HRG HBX ⊢
            refine hK.out _ _ hS3 (fun hHeld=>?_)
            clear hK Kq hS3
            try simp only [Tk.put]
            refine Tk.x 17 rfl ?_
            try simp only [Tk.put]
            refine wpAnyH_done (by kernel_rfl) ?_ _
            have HW9:=hid (HH2.out.trans (hHeld.mono HH2.out.size))
            have HB9:=hid (HB.out.trans (HW9.out.mono HB.out.size))
            have HO1:=hid (Kit.own_below HO.out HW9.out)
            have c0:=HRG.out 0 _ rfl
            have c1:=HRG.out 1 _ rfl
            have c2:=HRG.out 2 _ rfl
            simp only [Nat.zero_add] at c0 c1 c2
            clear hHeld HH2 HG HNB HCA HCB HGE HRG
            by_cases hz0:z=0
            ·have HGO2:=hid (HGO.out hz0)
             clear HEND HGO
             subst hz0
             go_wp2_with (at_builtin;refine Kit.za3 _ rfl (.tmp 65) (.tmp 67) _ rfl w.heap.size 23 i0 (.agg #[.int .i64 0,.int .i64 0,.int .i64 0]) 3 24 Tryz.underlying54 hi0 hi1 hi2 hi3 rfl (by decide) _ (k+1) (tvV L) rfl (HO1.out.alloc _) _ _ 1 1 [.int .i64 u.1,.int .i64 u.2.1,.int .i64 u.2.2] rfl rfl (Kit.Rd.new _ _ _ (lt_succ_self _)) (Kit.zb6 .i64 [u.1,u.2.1,u.2.2]) (by unfold maxLen;omega) (by omega) (by have:=HB9.out.size;simp;omega) ?_;intro v5 w5 hown5 hg5 hat5;(have hB5:Below w.heap.size w w5:=(HB9.out.alloc HB9.out.size _).grown hg5 (by have:=HB9.out.size;simp;omega) (fun q hq=>Kit.zbd HO1.out q hq));(have e5:tvV L ++ [.int .i64 u.1,.int .i64 u.2.1,.int .i64 u.2.2]=tvV (shL X t0 (k+1)):=by rw [shL,tvV_append,HXK.out,HLL.out,HNT.out];rfl);rw [e5] at hown5;(have HO5:=hid hown5);(have HB5:=hid hB5);clear hown5 hg5 hat5 hB5 e5)
             go_roundw
             case rel=>exact⟨k+1,by omega,by go_num,HGO2,HO5,HB5⟩
             case measure=>simp [intOf];omega
            ·have hz2:(z != 0)=true:=by simpa using hz0
             have HE9:=hid (HEND.out hz0)
             clear HEND HGO
             go_wp2_with fail
             go_ret3
             exact⟨.inl ⟨k,z,HE9.out,rfl⟩,HB9.out⟩
           ·skip
            go_simp
            have HTH:=hid (there_new W2)
            have hS2:=hHeld.alloc hHeld.size (.cells #[.int .i64 0,.int .i64 0,.int .i64 0] 23)
            have HBX:Hid (W2.heap.size < (W2.alloc (.cells #[.int .i64 0,.int .i64 0,.int .i64 0] 23)).heap.size):=hid (by simp)
            have HGE:=hid hHeld.size
            generalize hbx:W2.heap.size=bx at *
            generalize W2.alloc (.cells #[.int .i64 0,.int .i64 0,.int .i64 0] 23)=W3 at HTH hS2 HBX ⊢
            clear hHeld hbx
            refine hK.out _ _ hS2 (fun hHeld=>?_)
            clear hK Kq hS2
            try simp only [Tk.put]
            refine Tk.s 11 rfl (fun Kq hK=>?_)
            go_simp
            go_at_call 24
            refine (CS.out _).mono ?_
            rintro e W4 ⟨rfl,hb⟩
            have hS2:=hHeld.trans (hb.mono hHeld.size)
            replace HTH:=hid (zb1 HTH.out HBX.out hb)
            replace HBX:=hid (Nat.lt_of_lt_of_le HBX.out hb.size)
            clear hHeld hb
            dsimp only
            refine hK.out _ _ hS2 (fun hHeld=>?_)
            clear hK Kq hS2
            try simp only [Tk.put]
            refine Tk.x 12 rfl ?_
            try simp only [Tk.put]
            refine Tk.x 13 rfl ?_
            try simp only [Tk.put]
            refine Tk.x 14 rfl ?_
            try simp only [Tk.put]
            refine Tk.s 16 rfl (fun Kq hK=>?_)
            rw [if_pos (by rfl)]
            refine wp_store_mid 23 _ _ rfl bx 0 #[.int .i64 u.1,.int .i64 u.2.1,.int .i64 u.2.2] rfl rfl HTH.out info_shape (tri_one _ _ _) ?_
            obtain⟨hs1,hs2⟩:=setCells_below (#[.int .i64 u.1,.int .i64 u.2.1,.int .i64 u.2.2]:Array Value).toList bx 0 W4
            have hS3:=hHeld.trans (hs1.mono HGE.out)
            have HRG:=hid (World.rangeAt_setCells_same W4 bx 0 (#[.int .i64 u.1,.int .i64 u.2.1,.int .i64 u.2.2]:Array Value).toList HTH.out)
            rw [← hs2] at HBX
            clear hHeld hs1 hs2 HTH
            generalize W4.setCells bx 0 (#[.int .i64 u.1,.int .i64 u.2.1,.int .i64 u.2.2]:Array Value).toList=W9 at hS3 HRG HBX ⊢
            refine hK.out _ _ hS3 (fun hHeld=>?_)
            clear hK Kq hS3
            try simp only [Tk.put]
            refine Tk.x 17 rfl ?_
            try simp only [Tk.put]
            refine wpAnyH_done (by kernel_rfl) ?_ _
            have HW9:=hid (HH2.out.trans (hHeld.mono HH2.out.size))
            have HB9:=hid (HB.out.trans (HW9.out.mono HB.out.size))
            have HO1:=hid (Kit.own_below HO.out HW9.out)
            have c0:=HRG.out 0 _ rfl
            have c1:=HRG.out 1 _ rfl
            have c2:=HRG.out 2 _ rfl
            simp only [Nat.zero_add] at c0 c1 c2
            clear hHeld HH2 HG HNB HCA HCB HGE HRG
            by_cases hz0:z=0
            ·have HGO2:=hid (HGO.out hz0)
             clear HEND HGO
             subst hz0
             go_wp2_with (at_builtin;refine Kit.za3 _ rfl (.tmp 65) (.tmp 67) _ rfl w.heap.size 23 i0 (.agg #[.int .i64 0,.int .i64 0,.int .i64 0]) 3 24 Tryz.underlying54 hi0 hi1 hi2 hi3 rfl (by decide) _ (k+1) (tvV L) rfl (HO1.out.alloc _) _ _ 1 1 [.int .i64 u.1,.int .i64 u.2.1,.int .i64 u.2.2] rfl rfl (Kit.Rd.new _ _ _ (lt_succ_self _)) (Kit.zb6 .i64 [u.1,u.2.1,u.2.2]) (by unfold maxLen;omega) (by omega) (by have:=HB9.out.size;simp;omega) ?_;intro v5 w5 hown5 hg5 hat5;(have hB5:Below w.heap.size w w5:=(HB9.out.alloc HB9.out.size _).grown hg5 (by have:=HB9.out.size;simp;omega) (fun q hq=>Kit.zbd HO1.out q hq));(have e5:tvV L ++ [.int .i64 u.1,.int .i64 u.2.1,.int .i64 u.2.2]=tvV (shL X t0 (k+1)):=by rw [shL,tvV_append,HXK.out,HLL.out,HNT.out];rfl);rw [e5] at hown5;(have HO5:=hid hown5);(have HB5:=hid hB5);clear hown5 hg5 hat5 hB5 e5)
             go_roundw
             case rel=>exact⟨k+1,by omega,by go_num,HGO2,HO5,HB5⟩
             case measure=>simp [intOf];omega
            ·have hz2:(z != 0)=true:=by simpa using hz0
             have HE9:=hid (HEND.out hz0)
             clear HEND HGO
             go_wp2_with fail
             go_ret3
             exact⟨.inl ⟨k,z,HE9.out,rfl⟩,HB9.out⟩
          ·skip
           go_simp
           have HTH:=hid (there_new W1)
           have hS2:=hHeld.alloc hHeld.size (.cells #[.int .i64 0,.int .i64 0,.int .i64 0] 23)
           have HBX:Hid (W1.heap.size < (W1.alloc (.cells #[.int .i64 0,.int .i64 0,.int .i64 0] 23)).heap.size):=hid (by simp)
           have HGE:=hid hHeld.size
           generalize hbx:W1.heap.size=bx at *
           generalize W1.alloc (.cells #[.int .i64 0,.int .i64 0,.int .i64 0] 23)=W2 at HTH hS2 HBX ⊢
           clear hHeld hbx
           refine hK.out _ _ hS2 (fun hHeld=>?_)
           clear hK Kq hS2
           try simp only [Tk.put]
           refine Tk.s 8 rfl (fun Kq hK=>?_)
           go_simp
           go_at_call 25
           refine (CD.out _).mono ?_
           rintro e W3 ⟨rfl,hb⟩
           have hS2:=hHeld.trans (hb.mono hHeld.size)
           replace HTH:=hid (zb1 HTH.out HBX.out hb)
           replace HBX:=hid (Nat.lt_of_lt_of_le HBX.out hb.size)
           clear hHeld hb
           dsimp only
           refine hK.out _ _ hS2 (fun hHeld=>?_)
           clear hK Kq hS2
           try simp only [Tk.put]
           refine Tk.x 9 rfl ?_
           try simp only [Tk.put]
           refine Tk.y 10 (v:=.agg #[.int .i64 b.1,.int .i64 b.2.1,.int .i64 b.2.2]) rfl ?_ ?_
           ·intro wS hSw
            obtain⟨q0,q1,q2⟩:=HCB.out wS hSw
            first | (go_simp;done) | (go_simp;with_reducible rfl)
           try simp only [Tk.put]
           refine Tk.s 11 rfl (fun Kq hK=>?_)
           go_simp
           go_at_call 24
           refine (CS.out _).mono ?_
           rintro e W4 ⟨rfl,hb⟩
           have hS2:=hHeld.trans (hb.mono hHeld.size)
           replace HTH:=hid (zb1 HTH.out HBX.out hb)
           replace HBX:=hid (Nat.lt_of_lt_of_le HBX.out hb.size)
           clear hHeld hb
           dsimp only
           refine hK.out _ _ hS2 (fun hHeld=>?_)
           clear hK Kq hS2
           try simp only [Tk.put]
           refine Tk.x 12 rfl ?_
           try simp only [Tk.put]
           refine Tk.x 13 rfl ?_
           try simp only [Tk.put]
           refine Tk.x 14 rfl ?_
           try simp only [Tk.put]
           refine Tk.s 16 rfl (fun Kq hK=>?_)
           rw [if_pos (by rfl)]
           refine wp_store_mid 23 _ _ rfl bx 0 #[.int .i64 u.1,.int .i64 u.2.1,.int .i64 u.2.2] rfl rfl HTH.out info_shape (tri_one _ _ _) ?_
           obtain⟨hs1,hs2⟩:=setCells_below (#[.int .i64 u.1,.int .i64 u.2.1,.int .i64 u.2.2]:Array Value).toList bx 0 W4
           have hS3:=hHeld.trans (hs1.mono HGE.out)
           have HRG:=hid (World.rangeAt_setCells_same W4 bx 0 (#[.int .i64 u.1,.int .i64 u.2.1,.int .i64 u.2.2]:Array Value).toList HTH.out)
           rw [← hs2] at HBX
           clear hHeld hs1 hs2 HTH
           generalize W4.setCells bx 0 (#[.int .i64 u.1,.int .i64 u.2.1,.int .i64 u.2.2]:Array Value).toList=W9 at hS3 HRG HBX ⊢
           refine hK.out _ _ hS3 (fun hHeld=>?_)
           clear hK Kq hS3
           try simp only [Tk.put]
           refine Tk.x 17 rfl ?_
           try simp only [Tk.put]
           refine wpAnyH_done (by kernel_rfl) ?_ _
           have HW9:=hid (HH2.out.trans (hHeld.mono HH2.out.size))
           have HB9:=hid (HB.out.trans (HW9.out.mono HB.out.size))
           have HO1:=hid (Kit.own_below HO.out HW9.out)
           have c0:=HRG.out 0 _ rfl
           have c1:=HRG.out 1 _ rfl
           have c2:=HRG.out 2 _ rfl
           simp only [Nat.zero_add] at c0 c1 c2
           clear hHeld HH2 HG HNB HCA HCB HGE HRG
           by_cases hz0:z=0
           ·have HGO2:=hid (HGO.out hz0)
            clear HEND HGO
            subst hz0
            go_wp2_with (at_builtin;refine Kit.za3 _ rfl (.tmp 65) (.tmp 67) _ rfl w.heap.size 23 i0 (.agg #[.int .i64 0,.int .i64 0,.int .i64 0]) 3 24 Tryz.underlying54 hi0 hi1 hi2 hi3 rfl (by decide) _ (k+1) (tvV L) rfl (HO1.out.alloc _) _ _ 1 1 [.int .i64 u.1,.int .i64 u.2.1,.int .i64 u.2.2] rfl rfl (Kit.Rd.new _ _ _ (lt_succ_self _)) (Kit.zb6 .i64 [u.1,u.2.1,u.2.2]) (by unfold maxLen;omega) (by omega) (by have:=HB9.out.size;simp;omega) ?_;intro v5 w5 hown5 hg5 hat5;(have hB5:Below w.heap.size w w5:=(HB9.out.alloc HB9.out.size _).grown hg5 (by have:=HB9.out.size;simp;omega) (fun q hq=>Kit.zbd HO1.out q hq));(have e5:tvV L ++ [.int .i64 u.1,.int .i64 u.2.1,.int .i64 u.2.2]=tvV (shL X t0 (k+1)):=by rw [shL,tvV_append,HXK.out,HLL.out,HNT.out];rfl);rw [e5] at hown5;(have HO5:=hid hown5);(have HB5:=hid hB5);clear hown5 hg5 hat5 hB5 e5)
            go_roundw
            case rel=>exact⟨k+1,by omega,by go_num,HGO2,HO5,HB5⟩
            case measure=>simp [intOf];omega
           ·have hz2:(z != 0)=true:=by simpa using hz0
            have HE9:=hid (HEND.out hz0)
            clear HEND HGO
            go_wp2_with fail
            go_ret3
            exact⟨.inl ⟨k,z,HE9.out,rfl⟩,HB9.out⟩
       ·have hz2:(cz != 0)=true:=by simpa using hz1
        have he:=hend (by rw [hsz,if_pos hz1];exact hz1)
        rw [show stopZ x L=cz by rw [hsz,if_pos hz1]] at he
        have HEND:=hid he
        clear hsz hend hgo he htb hcz hlen
        go_wp2_with (first
         | (refine zbm rfl _ rfl ba (oa+k * 19) x rfl HRA.out ?_)
         | (refine za2 rfl _ _ rfl wr.heap.size nd0 x rfl rfl (NdBox.new nd0 _ wr) ?_
            intro w1 hbx hbl hsz1
            have HNX:=hid hbx.1
            have hh:Below wr.heap.size wr w1:=((Below.refl _ _).alloc (le_refl _) _).trans hbl
            have HH:=hid hh
            have HGX:Hid (wr.heap.size < w1.heap.size):=hid (by rw [hsz1];simp)
            clear hbx hbl hsz1 hh)
         | (refine zac rfl _ rfl wr.heap.size x rfl HNX.out ?_)
         | (go_at_call 22
            refine (CK.out _).mono ?_
            rintro e w2 ⟨rfl,hb⟩
            have HNB:=hid (HNX.out.below HGX.out hb)
            have HG:=hid (Nat.lt_of_lt_of_le HGX.out hb.size)
            have HH2:=hid (HH.out.trans (hb.mono HH.out.size))
            clear hb HNX HGX))
        go_ret3
        exact⟨.inl ⟨k,cz,HEND.out,rfl⟩,HB.out.trans (HH2.out.mono HB.out.size)⟩
      ·obtain rfl:k=n:=by omega
       go_wp2_with fail
       go_ret3
       exact⟨.inr ⟨by rw [HO9.out,hst.out];rfl,_,rfl,HO.out⟩,HB.out⟩
end CGraph
end
end Go.Proofs.YtoffcaldhojjoaaGreatDoor
