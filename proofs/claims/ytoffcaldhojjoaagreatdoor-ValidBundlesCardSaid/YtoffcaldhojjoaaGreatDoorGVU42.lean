/- -/
import Derived.Test.YtoffcaldhojjoaaGreatDoorGVU41
open Go.Lib (hid)
open Nat (le_refl lt_of_succ_lt lt_succ_self)
set_option linter.unusedVariables false
set_option linter.unusedSimpArgs false
set_option maxRecDepth 100000
set_option maxHeartbeats 16000000
namespace Go.Proofs.YtoffcaldhojjoaaGreatDoor
namespace CConv
end CConv
namespace CFix
end CFix
namespace CGraph
end CGraph
namespace CKind
end CKind
namespace CSat
end CSat
namespace CSpan
end CSpan
namespace CTensor
end CTensor
open Go Go.ChangeShapes Go.WideShapes Go.ChangeAt Go.RowKit Go.Deep
section
namespace CGuard
open Plain CSat CFix CShape CTensor CConv CSpan CKind CGraph CJoin
theorem NdL.below {w w':World} {B:Nat} {x:Nd} {ws bs:List Int} (h:NdL w B x ws bs) (hb:Below B w w') (hB:B≤w'.heap.size):NdL w' w'.heap.size x ws bs :=
 ⟨CBund.NdOk.more (CBund.NdOk.below h.ok hb) hB,h.lw,h.lb,h.cw,h.iw,h.ib,(h.rw.below hb).more hB,(h.rb.below hb).more hB⟩
def outG (Y:Nat→NdW) (r0:Rch) (n:Nat):Option (Int × Int) :=
 if n=0 then some (-1,12) else if 8 < n then some (-1,4) else if r0.2 < r0.1 then some (-1,2) else (zbu Y r0 n).map fun r=>((r.1:Int),r.2)
def FlPost (Y:Nat→NdW) (r0:Rch) (n:Nat) (w:World) (e:Ending) (w':World):Prop :=
 ((∃ k z,outG Y r0 n=some (k,z)∧e=.returned (.tuple #[.slice none 0 0,.int .i64 k,.int .i64 z])) ∨
   (outG Y r0 n=none∧∃ v,e=.returned (.tuple #[v,.int .i64 (n:Int),.int .i64 0])∧w'.ownsRow w.heap.size 70 2 v (n+1) (rvV (rcL Y r0 n))))∧Below w.heap.size w w'
theorem info_r2:(Tryz.prog.info? 70).map (fun i=>(i.zero,i.size,i.bytes))=some (some (.agg #[.int .i8 0,.int .i8 0]),2,2):=by kernel_rfl
theorem own_new2 (w:World) (base:Nat) (hb:base≤w.heap.size) (t:Rch):(w.alloc (.cells #[.int .i8 t.1,.int .i8 t.2] 70)).ownsRow base 70 2 (.slice (some ⟨w.heap.size,0,none⟩) 1 1) 1 (rvV [t]) :=
 ⟨rfl,.inr ⟨w.heap.size,1,_,rfl,hb,heap_alloc_new w _,le_refl _,by unfold maxLen;omega,rfl,rfl⟩⟩
theorem there_newR (w:World):(w.alloc (.cells #[.int .i8 0,.int .i8 0] 70)).there w.heap.size 0 2:=by
 intro j hj
 rw [Nat.zero_add]
 refine⟨?_,?_⟩
 ·rw [Kit.zal]
  match j,hj with
  | 0,_=>rfl
  | 1,_=>rfl
 ·have hh:(w.alloc (.cells #[.int .i8 0,.int .i8 0] 70)).heap[w.heap.size]?=some (.cells #[.int .i8 0,.int .i8 0] 70):=heap_alloc_new _ _
  simp only [World.frozen?,hh]
  rfl
theorem info_r2s:(Tryz.prog.info? 70).map (·.size)=some 2:=by kernel_rfl
theorem two_one (a b:Int):(#[.int .i8 a,.int .i8 b]:Array Value).all (·.oneCell')=true:=by simp [Value.oneCell']
theorem rflow_to (Y:Nat→NdW) (r0:Rch) (h0:RBd r0) (n c:Nat) (hn:n≤50) (A:Option Addr) (w:World) (hA:NodesAt w w.heap.size A n fun j=>(Y j).1)
  (hY:∀ j,j < n→NdL w w.heap.size (Y j).1 (Y j).2.1 (Y j).2.2∧(Y j).1.nW≤20000∧(Y j).1.nB≤20000) :
  Calls Tryz.prog 19 #[.slice A n c,.agg #[.int .i8 r0.1,.int .i8 r0.2]] w (FlPost Y r0 n w):=by
 obtain⟨q0,q1⟩:=zce r0.1 r0.2 70 w
 have HB0:=hid ((Below.refl w.heap.size w).alloc (le_refl _) (.cells #[.int .i8 r0.1,.int .i8 r0.2] 70))
 have HA:=hid hA
 have HY:=hid hY
 have HR0:=hid h0
 obtain⟨i0,hi0,hi1,hi2,hi3⟩:=info_parts info_r2
 have hout:outG Y r0 n=if n=0 then some (-1,12) else if 8 < n then some (-1,4) else if r0.2 < r0.1 then some (-1,2) else (zbu Y r0 n).map fun r=>((r.1:Int),r.2):=rfl
 have HOUT:=hid hout
 clear hA hY hout h0
 go_enter Tryz.func19,Tryz.ntmps19
 go_upto_region 1 with fail
 generalize w.alloc (.cells #[.int .i8 r0.1,.int .i8 r0.2] 70)=W0 at q0 q1 HB0 ⊢
 by_cases h0:n=0
 ·subst h0
  go_wp2_with fail
  go_ret3
  exact⟨.inl ⟨-1,12,by rw [HOUT.out];rfl,rfl⟩,HB0.out⟩
 ·have h1:((n:Int) == 0)=false:=by simp;omega
  have h1b:¬ (n:Int)=0:=by omega
  by_cases h2:8 < n
  ·have h3:(n:Int) > 8:=by omega
   have ho:outG Y r0 n=some (-1,4):=by rw [HOUT.out];simp [h0,h2]
   have HO:=hid ho
   clear h0 h2 ho HOUT
   go_wp2_with fail
   go_ret3
   exact⟨.inl ⟨-1,4,HO.out,rfl⟩,HB0.out⟩
  ·have h3:¬ (n:Int) > 8:=by omega
   by_cases h4:r0.2 < r0.1
   ·have h5:r0.1 > r0.2:=h4
    have ho:outG Y r0 n=some (-1,2):=by rw [HOUT.out];simp [h0,h2,h4]
    have HO:=hid ho
    clear h0 h2 ho HOUT
    go_wp2_with fail
    go_ret3
    exact⟨.inl ⟨-1,2,HO.out,rfl⟩,HB0.out⟩
   ·have h5:¬ r0.1 > r0.2:=h4
    have ho:outG Y r0 n=(zbu Y r0 n).map fun r=>((r.1:Int),r.2):=by rw [HOUT.out];simp [h0,h2,h4]
    have HO9:=hid ho
    clear h0 h2 h4 ho HOUT
    go_wp2_with fail
    have HO0:=hid (own_new2 W0 w.heap.size HB0.out.size r0)
    have HBS:=hid (HB0.out.alloc HB0.out.size (.cells #[.int .i8 r0.1,.int .i8 r0.2] 70))
    generalize W0.alloc (.cells #[.int .i8 r0.1,.int .i8 r0.2] 70)=WS at HO0 HBS ⊢
    clear q0 q1 HB0
    go_loopw [7,8] (fun v u wr=>∃ k:Nat,k≤n∧u=.int .i64 k∧Hid (zbu Y r0 k=none)∧Hid (wr.ownsRow w.heap.size 70 2 v (k+1) (rvV (rcL Y r0 k)))∧Hid (Below w.heap.size w wr)) (fun _ u _=>n - (intOf u).toNat)
    case atStart=>exact⟨0,Nat.zero_le _,rfl,hid rfl,HO0,HBS⟩
    case round =>
     obtain⟨k,hk,rfl,hst,HO,HB⟩:=hrel
     clear HO0 HBS
     by_cases hlt:k < n
     ·obtain⟨Av,cv,rfl, -, -,hrd⟩:=Kit.own_rd HO.out
      obtain⟨ba,oa,rfl,hba,hra⟩:=(HA.out.below HB.out) k hlt
      have k0:(0:Int)≤(k:Int):=by omega
      have k1:(k:Int) < (n:Int):=by omega
      have hlen:=rcL_len Y r0 k
      have hall:=rcL_bd Y r0 HR0.out k (fun j hj=>⟨_,_,(HY.out j (by omega)).1.ok⟩)
      obtain⟨hyl,hyw,hyb⟩:=HY.out k hlt
      obtain⟨y,hy⟩:∃ y,Y k=y:=⟨_,rfl⟩
      rw [hy] at hyl hyw hyb
      simp only [hy] at hra
      obtain⟨x,ws,bs⟩:=y
      simp only [] at hyl hyw hyb hra
      obtain⟨L,hL⟩:∃ L,rcL Y r0 k=L:=⟨_,rfl⟩
      rw [hL] at hlen hall hrd HO
      have HRA:=hid hra
      have HYK:=hid hy
      have HLL:=hid hL
      have HRD:=hid hrd
      have HYL:=hid hyl
      obtain⟨tb,htb⟩:∃ tb,zbp x (k+1)=tb:=⟨_,rfl⟩
      have CT:=hid (fun w:World=>by have h:=refThere_to x (k+1) w;rw [htb] at h;exact h)
      have hsz:stopG (x,ws,bs) L=if tb=false then 8 else (nodeG (x,ws,bs) L).2.2:=by unfold stopG;simp only [hlen,htb]
      have hend:stopG (x,ws,bs) L≠0→outG Y r0 n=some ((k:Int),stopG (x,ws,bs) L):=by
       intro h
       have:=stopGA_end (Y:=Y) (r0:=r0) hlt hst.out (by rw [hy,hL];exact h)
       rw [hy,hL] at this
       rw [HO9.out,this];rfl
      have hgo:stopG (x,ws,bs) L=0→zbu Y r0 (k+1)=none:=fun h=>stopGA_go hst.out (by rw [hy,hL];exact h)
      clear hrd hra hba hy hL hyl
      cases tb with
      | false =>
        have he:=hend (by rw [hsz];simp)
        rw [show stopG (x,ws,bs) L=8 by rw [hsz];rfl] at he
        have HEND:=hid he
        clear hsz hend hgo he htb hlen hall
        go_wp2_with (first
         | (refine zbm rfl _ rfl ba (oa+k * 19) x rfl HRA.out ?_)
         | (refine za2 rfl _ _ rfl wr.heap.size nd0 x rfl rfl (NdBox.new nd0 _ wr) ?_
            intro w1 hbx hbl hsz1
            have HNX:=hid hbx.1
            have hh:Below wr.heap.size wr w1:=((Below.refl _ _).alloc (le_refl _) _).trans hbl
            have HH:=hid hh
            have HGX:Hid (wr.heap.size < w1.heap.size):=hid (by rw [hsz1];simp)
            clear hbx hbl hsz1 hh)
         | (refine zac rfl _ rfl wr.heap.size x rfl HNX.out ?_)
         | (go_at_call 23
            refine (CT.out _).mono ?_
            rintro e w3 ⟨rfl,hb⟩
            have HNB:=hid (HNX.out.below HGX.out hb)
            have HG:=hid (Nat.lt_of_lt_of_le HGX.out hb.size)
            have HH2:=hid (HH.out.trans (hb.mono HH.out.size))
            clear hb HNX HGX))
        go_ret3
        exact⟨.inl ⟨k,8,HEND.out,rfl⟩,HB.out.trans (HH2.out.mono HB.out.size)⟩
      | true =>
        have ht2:0≤x.na∧x.na < (k+1:Nat)∧(x.kd=6→0≤x.nb∧x.nb < (k+1:Nat)):=of_decide_eq_true htb
        have hnb:0≤sndZ x∧sndZ x < (k+1:Nat):=by
         unfold sndZ
         by_cases h6:x.kd=6
         ·rw [if_pos h6];exact ht2.2.2 h6
         ·rw [if_neg h6];exact⟨ht2.1,ht2.2.1⟩
        obtain⟨ka,hka⟩:∃ ka:Nat,x.na=ka:=⟨x.na.toNat,by omega⟩
        obtain⟨kb,hkb⟩:∃ kb:Nat,sndZ x=kb:=⟨(sndZ x).toNat,by omega⟩
        obtain⟨a,ha1,ha2⟩:=rcL_at (k:=ka) hlen (by omega)
        obtain⟨b,hb1,hb2⟩:=rcL_at (k:=kb) hlen (by omega)
        obtain⟨u,z,hu⟩:∃ (u:Rch) (z:Int),gnZ x ws bs a.1 a.2 b.1 b.2=(u.1,u.2,z):=⟨(_,_),_,rfl⟩
        have hng:nodeG (x,ws,bs) L=(u.1,u.2,z):=by unfold nodeG;simp only [hka,hkb,Int.toNat_natCast,ha2,hb2,hu]
        have hszz:stopG (x,ws,bs) L=z:=by rw [hsz,hng];simp
        rw [hszz] at hend hgo
        have HEND:=hid (fun h:z≠0=>hend h)
        have HGO:=hid (fun h:z=0=>hgo h)
        have HNT:Hid (nextR (x,ws,bs) L=u):=hid (by unfold nextR;rw [hng])
        have CN:Hid (∀ wx:World,Below w.heap.size w wx→Calls Tryz.prog 30 #[.agg x.val,.agg #[.int .i8 a.1,.int .i8 a.2],.agg #[.int .i8 b.1,.int .i8 b.2]] wx fun e w'=>e=.returned (.tuple #[.agg #[.int .i8 u.1,.int .i8 u.2],.int .i64 z])∧Below wx.heap.size wx w'):=hid (fun wx hb=>by
         have h:=rgnode_to x a.1 a.2 b.1 b.2 ⟨(hall ka a ha1).1,(hall ka a ha1).2,(hall kb b hb1).1,(hall kb b hb1).2⟩ ws bs (HYL.out.below hb hb.size) hyw hyb
         rw [hu] at h
         exact h)
        have ie0:(0:Int)≤(ka:Int):=by omega
        have ie1:(ka:Int) < ((k+1:Nat):Int):=by omega
        have j0:(0:Int)≤(kb:Int):=by omega
        have j1:(kb:Int) < ((k+1:Nat):Int):=by omega
        have ie2:(ka:Int) < (k:Int)+1:=by omega
        have j2:(kb:Int) < (k:Int)+1:=by omega
        obtain⟨bl,ol,rfl,hbl,hcell⟩:=rv_cells HRD.out (by omega)
        have HCA0:=hid (hcell ka a ha1)
        have HCB0:=hid (hcell kb b hb1)
        have HBL:=hid hbl
        have hA1:Hid (x.val.toList[1]?=some (.int .i64 (ka:Int))):=hid (by rw [← hka];rfl)
        have hA0:Hid (x.val.toList[0]?=some (.int .i64 x.kd)):=hid rfl
        have HKK:Hid (if x.kd=6 then x.nb=kb else a=b):=hid (by
         unfold sndZ at hkb
         by_cases h6:x.kd=6
         ·rw [if_pos h6] at hkb ⊢;exact hkb
         ·rw [if_neg h6] at hkb ⊢
          have e:ka=kb:=by omega
          subst e
          rw [ha1] at hb1
          injection hb1)
        clear hend hgo hsz hszz htb hlen ht2 hnb hka hkb ha1 ha2 hb1 hb2 hu hng hcell hbl hall
        go_upto_region 14 with (first
         | (refine zbm rfl _ rfl ba (oa+k * 19) x rfl HRA.out ?_)
         | (refine za2 rfl _ _ rfl wr.heap.size nd0 x rfl rfl (NdBox.new nd0 _ wr) ?_
            intro w1 hbx hbl hsz1
            have HNX:=hid hbx.1
            have hh:Below wr.heap.size wr w1:=((Below.refl _ _).alloc (le_refl _) _).trans hbl
            have HH:=hid hh
            have HGX:Hid (wr.heap.size < w1.heap.size):=hid (by rw [hsz1];simp)
            clear hbx hbl hsz1 hh)
         | (refine zac rfl _ rfl wr.heap.size x rfl HNX.out ?_)
         | (go_at_call 23
            refine (CT.out _).mono ?_
            rintro e w3 ⟨rfl,hb⟩
            have HNB:=hid (HNX.out.below HGX.out hb)
            have HG:=hid (Nat.lt_of_lt_of_le HGX.out hb.size)
            have HH2:=hid (HH.out.trans (hb.mono HH.out.size))
            clear hb HNX HGX))
        have HCA:Hid (∀ wS,Below w3.heap.size w3 wS→wS.cell? ⟨bl,ol+ka * 2,none⟩=some (.int .i8 a.1)∧wS.cell? ⟨bl,ol+ka * 2+1,none⟩=some (.int .i8 a.2)) :=
         hid (fun wS h=>have hh:=HH2.out.trans (h.mono HH2.out.size); ⟨(hh.cell (p:=⟨bl,ol+ka * 2,none⟩) HBL.out).trans (HCA0.out 0 _ rfl),(hh.cell (p:=⟨bl,ol+ka * 2+1,none⟩) HBL.out).trans (HCA0.out 1 _ rfl)⟩)
        have HCB:Hid (∀ wS,Below w3.heap.size w3 wS→wS.cell? ⟨bl,ol+kb * 2,none⟩=some (.int .i8 b.1)∧wS.cell? ⟨bl,ol+kb * 2+1,none⟩=some (.int .i8 b.2)) :=
         hid (fun wS h=>have hh:=HH2.out.trans (h.mono HH2.out.size); ⟨(hh.cell (p:=⟨bl,ol+kb * 2,none⟩) HBL.out).trans (HCB0.out 0 _ rfl),(hh.cell (p:=⟨bl,ol+kb * 2+1,none⟩) HBL.out).trans (HCB0.out 1 _ rfl)⟩)
        clear CT HRA HRD HCA0 HCB0
        obtain⟨qa0,qa1⟩:=HCA.out w3 (Below.refl _ _)
        have qn1:=HNB.out.at 1 (.int .i64 (ka:Int)) hA1.out
        go_upto_region 15 with fail
        have HB4:=hid ((Below.refl w3.heap.size w3).alloc (le_refl _) (.cells #[.int .i8 a.1,.int .i8 a.2] 70))
        have qk:=(HNB.out.below HG.out HB4.out).at 0 (.int .i64 x.kd) hA0.out
        clear qa0 qa1 qn1
        by_cases h6:x.kd=6
        ·rw [if_pos h6] at HKK
         have h61:(x.kd == 6)=true:=by simp [h6]
         have hA2:x.val.toList[2]?=some (.int .i64 (kb:Int)):=by rw [← HKK.out];rfl
         have qn2:=(HNB.out.below HG.out HB4.out).at 2 (.int .i64 (kb:Int)) hA2
         obtain⟨qb0,qb1⟩:=HCB.out _ HB4.out
         go_upto_region 17 with fail
         clear qb0 qb1 qn2 qk h6 h61 HB4 hA2 HKK
         have HB5:=hid ((Below.refl w3.heap.size w3).alloc (le_refl _) (.cells #[.int .i8 b.1,.int .i8 b.2] 70))
         have HN5:=hid (HNB.out.below HG.out HB5.out)
         have HG5:=hid (Nat.lt_of_lt_of_le HG.out HB5.out.size)
         have HX5:=hid (zce b.1 b.2 70 w3)
         have HL5:Hid (w3.heap.size < (w3.alloc (.cells #[.int .i8 b.1,.int .i8 b.2] 70)).heap.size):=hid (by simp)
         have HH5:=hid (HH2.out.trans (HB5.out.mono HH2.out.size))
         have HA5:Hid (∀ wS,Below (w3.alloc (.cells #[.int .i8 b.1,.int .i8 b.2] 70)).heap.size (w3.alloc (.cells #[.int .i8 b.1,.int .i8 b.2] 70)) wS→wS.cell? ⟨bl,ol+ka * 2,none⟩=some (.int .i8 a.1)∧wS.cell? ⟨bl,ol+ka * 2+1,none⟩=some (.int .i8 a.2)) :=
          hid (fun wS h=>HCA.out wS (HB5.out.trans (h.mono HB5.out.size)))
         clear HNB HG HB5 HH2 HCA HCB
         generalize w3.alloc (.cells #[.int .i8 b.1,.int .i8 b.2] 70)=w4 at HN5 HG5 HX5 HL5 HH5 HA5 ⊢
         generalize w3.heap.size=bz at HX5 HL5 ⊢
         refine wp_region_held_drew (S:=fun w'=>Below w4.heap.size w4 w') (by kernel_rfl) (Below.refl _ _).drew (fun hHeld=>?_)
         generalize w4.drew=W1 at hHeld ⊢
         refine Tk.t 0 (v:=.agg x.val) rfl (zav _ rfl (by rfl) _ x rfl (fun _ h=>HN5.out.below HG5.out h)) (by assumption) ?_
         try simp only [Tk.put]
         refine Tk.x 1 rfl ?_
         try simp only [Tk.put]
         refine Tk.x 2 rfl ?_
         try simp only [Tk.put]
         refine Tk.y 3 (v:=.int .i64 (ka:Int)) rfl ?_ ?_
         ·intro wS hSw
          have q:=(HN5.out.below HG5.out hSw).at 1 (.int .i64 (ka:Int)) hA1.out
          first | (go_simp;done) | (go_simp;with_reducible rfl)
         try simp only [Tk.put]
         refine Tk.x 4 rfl ?_
         try simp only [Tk.put]
         refine Tk.y 5 (v:=.agg #[.int .i8 a.1,.int .i8 a.2]) rfl ?_ ?_
         ·intro wS hSw
          obtain⟨q0,q1⟩:=HA5.out wS hSw
          first | (go_simp;done) | (go_simp;with_reducible rfl)
         try simp only [Tk.put]
         refine Tk.y 6 (v:=.agg #[.int .i8 b.1,.int .i8 b.2]) rfl ?_ ?_
         ·intro wS hSw
          obtain⟨q0,q1⟩:=HX5.out.below HL5.out hSw
          first | (go_simp;done) | (go_simp;with_reducible rfl)
         try simp only [Tk.put]
         refine wpAnyH_ready (rs:=[7,11]) (by kernel_rfl) (by simp) ?_
         refine Tk.c rfl (fun Kq hK=>?_) (Tk.c rfl (fun Kq hK=>?_) AllReadyH.nil)
         ·skip
          go_simp
          go_at_call 30
          refine (CN.out _ (HB.out.trans ((HH5.out.trans (hHeld.mono HH5.out.size)).mono HB.out.size))).mono ?_
          rintro e W2 ⟨rfl,hb⟩
          have hS2:=hHeld.trans (hb.mono hHeld.size)
          clear hHeld hb
          dsimp only
          refine hK.out _ _ hS2 (fun hHeld=>?_)
          clear hK Kq hS2
          try simp only [Tk.put]
          refine Tk.x 8 rfl ?_
          try simp only [Tk.put]
          refine Tk.x 9 rfl ?_
          try simp only [Tk.put]
          refine Tk.x 10 rfl ?_
          try simp only [Tk.put]
          refine Tk.s 11 rfl (fun Kq hK=>?_)
          go_simp
          have HTH:=hid (there_newR W2)
          have hS2:=hHeld.alloc hHeld.size (.cells #[.int .i8 0,.int .i8 0] 70)
          have HBX:Hid (W2.heap.size < (W2.alloc (.cells #[.int .i8 0,.int .i8 0] 70)).heap.size):=hid (by simp)
          have HGE:=hid hHeld.size
          generalize hbx:W2.heap.size=bx at *
          generalize W2.alloc (.cells #[.int .i8 0,.int .i8 0] 70)=W3 at HTH hS2 HBX ⊢
          clear hHeld hbx
          refine hK.out _ _ hS2 (fun hHeld=>?_)
          clear hK Kq hS2
          try simp only [Tk.put]
          refine Tk.s 12 rfl (fun Kq hK=>?_)
          rw [if_pos (by rfl)]
          refine wp_store_mid 70 _ _ rfl bx 0 #[.int .i8 u.1,.int .i8 u.2] rfl rfl HTH.out info_r2s (two_one _ _) ?_
          obtain⟨hs1,hs2⟩:=setCells_below (#[.int .i8 u.1,.int .i8 u.2]:Array Value).toList bx 0 W3
          have hS3:=hHeld.trans (hs1.mono HGE.out)
          have HRG:=hid (World.rangeAt_setCells_same W3 bx 0 (#[.int .i8 u.1,.int .i8 u.2]:Array Value).toList HTH.out)
          rw [← hs2] at HBX
          clear hHeld hs1 hs2 HTH
          generalize W3.setCells bx 0 (#[.int .i8 u.1,.int .i8 u.2]:Array Value).toList=W9 at hS3 HRG HBX ⊢
          refine hK.out _ _ hS3 (fun hHeld=>?_)
          clear hK Kq hS3
          try simp only [Tk.put]
          refine Tk.x 13 rfl ?_
          try simp only [Tk.put]
          refine wpAnyH_done (by kernel_rfl) ?_ _
          have HW9:=hid (HH5.out.trans (hHeld.mono HH5.out.size))
          have HB9:=hid (HB.out.trans (HW9.out.mono HB.out.size))
          have HO1:=hid (Kit.own_below HO.out HW9.out)
          have c0:=HRG.out 0 _ rfl
          have c1:=HRG.out 1 _ rfl
          simp only [Nat.zero_add] at c0 c1
          clear hHeld HH5 HG5 HN5 HA5 HX5 HL5 HGE HRG
          by_cases hz0:z=0
          ·have HGO2:=hid (HGO.out hz0)
           clear HEND HGO
           subst hz0
           go_wp2_with (at_builtin;refine Kit.za3 _ rfl (.tmp 70) (.tmp 72) _ rfl w.heap.size 70 i0 (.agg #[.int .i8 0,.int .i8 0]) 2 2 Tryz.underlying66 hi0 hi1 hi2 hi3 rfl (by decide) _ (k+1) (rvV L) rfl (HO1.out.alloc _) _ _ 1 1 [.int .i8 u.1,.int .i8 u.2] rfl rfl (Kit.Rd.new _ _ _ (lt_succ_self _)) (Kit.zb6 .i8 [u.1,u.2]) (by unfold maxLen;omega) (by omega) (by have:=HB9.out.size;simp;omega) ?_;intro v5 w5 hown5 hg5 hat5;(have hB5:Below w.heap.size w w5:=(HB9.out.alloc HB9.out.size _).grown hg5 (by have:=HB9.out.size;simp;omega) (fun q hq=>Kit.zbd HO1.out q hq));(have e5:rvV L ++ [.int .i8 u.1,.int .i8 u.2]=rvV (rcL Y r0 (k+1)):=by rw [rcL,rvV_append,HYK.out,HLL.out,HNT.out];rfl);rw [e5] at hown5;(have HO5:=hid hown5);(have HB5:=hid hB5);clear hown5 hg5 hat5 hB5 e5)
           go_roundw
           case rel=>exact⟨k+1,by omega,by go_num,HGO2,HO5,HB5⟩
           case measure=>simp [intOf];omega
          ·have hz2:(z != 0)=true:=by simpa using hz0
           have HE9:=hid (HEND.out hz0)
           clear HEND HGO
           go_wp2_with fail
           go_ret3
           exact⟨.inl ⟨k,z,HE9.out,rfl⟩,HB9.out⟩
         ·skip
          go_simp
          have HTH:=hid (there_newR W1)
          have hS2:=hHeld.alloc hHeld.size (.cells #[.int .i8 0,.int .i8 0] 70)
          have HBX:Hid (W1.heap.size < (W1.alloc (.cells #[.int .i8 0,.int .i8 0] 70)).heap.size):=hid (by simp)
          have HGE:=hid hHeld.size
          generalize hbx:W1.heap.size=bx at *
          generalize W1.alloc (.cells #[.int .i8 0,.int .i8 0] 70)=W2 at HTH hS2 HBX ⊢
          clear hHeld hbx
          refine hK.out _ _ hS2 (fun hHeld=>?_)
          clear hK Kq hS2
          try simp only [Tk.put]
          refine Tk.s 7 rfl (fun Kq hK=>?_)
          go_simp
          go_at_call 30
          refine (CN.out _ (HB.out.trans ((HH5.out.trans (hHeld.mono HH5.out.size)).mono HB.out.size))).mono ?_
          rintro e W3 ⟨rfl,hb⟩
          have hS2:=hHeld.trans (hb.mono hHeld.size)
          replace HTH:=hid (zb1 HTH.out HBX.out hb)
          replace HBX:=hid (Nat.lt_of_lt_of_le HBX.out hb.size)
          clear hHeld hb
          dsimp only
          refine hK.out _ _ hS2 (fun hHeld=>?_)
          clear hK Kq hS2
          try simp only [Tk.put]
          refine Tk.x 8 rfl ?_
          try simp only [Tk.put]
          refine Tk.x 9 rfl ?_
          try simp only [Tk.put]
          refine Tk.x 10 rfl ?_
          try simp only [Tk.put]
          refine Tk.s 12 rfl (fun Kq hK=>?_)
          rw [if_pos (by rfl)]
          refine wp_store_mid 70 _ _ rfl bx 0 #[.int .i8 u.1,.int .i8 u.2] rfl rfl HTH.out info_r2s (two_one _ _) ?_
          obtain⟨hs1,hs2⟩:=setCells_below (#[.int .i8 u.1,.int .i8 u.2]:Array Value).toList bx 0 W3
          have hS3:=hHeld.trans (hs1.mono HGE.out)
          have HRG:=hid (World.rangeAt_setCells_same W3 bx 0 (#[.int .i8 u.1,.int .i8 u.2]:Array Value).toList HTH.out)
          rw [← hs2] at HBX
          clear hHeld hs1 hs2 HTH
          generalize W3.setCells bx 0 (#[.int .i8 u.1,.int .i8 u.2]:Array Value).toList=W9 at hS3 HRG HBX ⊢
          refine hK.out _ _ hS3 (fun hHeld=>?_)
          clear hK Kq hS3
          try simp only [Tk.put]
          refine Tk.x 13 rfl ?_
          try simp only [Tk.put]
          refine wpAnyH_done (by kernel_rfl) ?_ _
          have HW9:=hid (HH5.out.trans (hHeld.mono HH5.out.size))
          have HB9:=hid (HB.out.trans (HW9.out.mono HB.out.size))
          have HO1:=hid (Kit.own_below HO.out HW9.out)
          have c0:=HRG.out 0 _ rfl
          have c1:=HRG.out 1 _ rfl
          simp only [Nat.zero_add] at c0 c1
          clear hHeld HH5 HG5 HN5 HA5 HX5 HL5 HGE HRG
          by_cases hz0:z=0
          ·have HGO2:=hid (HGO.out hz0)
           clear HEND HGO
           subst hz0
           go_wp2_with (at_builtin;refine Kit.za3 _ rfl (.tmp 70) (.tmp 72) _ rfl w.heap.size 70 i0 (.agg #[.int .i8 0,.int .i8 0]) 2 2 Tryz.underlying66 hi0 hi1 hi2 hi3 rfl (by decide) _ (k+1) (rvV L) rfl (HO1.out.alloc _) _ _ 1 1 [.int .i8 u.1,.int .i8 u.2] rfl rfl (Kit.Rd.new _ _ _ (lt_succ_self _)) (Kit.zb6 .i8 [u.1,u.2]) (by unfold maxLen;omega) (by omega) (by have:=HB9.out.size;simp;omega) ?_;intro v5 w5 hown5 hg5 hat5;(have hB5:Below w.heap.size w w5:=(HB9.out.alloc HB9.out.size _).grown hg5 (by have:=HB9.out.size;simp;omega) (fun q hq=>Kit.zbd HO1.out q hq));(have e5:rvV L ++ [.int .i8 u.1,.int .i8 u.2]=rvV (rcL Y r0 (k+1)):=by rw [rcL,rvV_append,HYK.out,HLL.out,HNT.out];rfl);rw [e5] at hown5;(have HO5:=hid hown5);(have HB5:=hid hB5);clear hown5 hg5 hat5 hB5 e5)
           go_roundw
           case rel=>exact⟨k+1,by omega,by go_num,HGO2,HO5,HB5⟩
           case measure=>simp [intOf];omega
          ·have hz2:(z != 0)=true:=by simpa using hz0
           have HE9:=hid (HEND.out hz0)
           clear HEND HGO
           go_wp2_with fail
           go_ret3
           exact⟨.inl ⟨k,z,HE9.out,rfl⟩,HB9.out⟩
        ·rw [if_neg h6] at HKK
         have h61:(x.kd == 6)=false:=by simp [h6]
         go_upto_region 17 with fail
         have eab:=HKK.out
         clear qk h6 h61 HB4 HKK
         rw [eab]
         clear eab
         have HB5:=hid ((Below.refl w3.heap.size w3).alloc (le_refl _) (.cells #[.int .i8 b.1,.int .i8 b.2] 70))
         have HN5:=hid (HNB.out.below HG.out HB5.out)
         have HG5:=hid (Nat.lt_of_lt_of_le HG.out HB5.out.size)
         have HX5:=hid (zce b.1 b.2 70 w3)
         have HL5:Hid (w3.heap.size < (w3.alloc (.cells #[.int .i8 b.1,.int .i8 b.2] 70)).heap.size):=hid (by simp)
         have HH5:=hid (HH2.out.trans (HB5.out.mono HH2.out.size))
         have HA5:Hid (∀ wS,Below (w3.alloc (.cells #[.int .i8 b.1,.int .i8 b.2] 70)).heap.size (w3.alloc (.cells #[.int .i8 b.1,.int .i8 b.2] 70)) wS→wS.cell? ⟨bl,ol+ka * 2,none⟩=some (.int .i8 a.1)∧wS.cell? ⟨bl,ol+ka * 2+1,none⟩=some (.int .i8 a.2)) :=
          hid (fun wS h=>HCA.out wS (HB5.out.trans (h.mono HB5.out.size)))
         clear HNB HG HB5 HH2 HCA HCB
         generalize w3.alloc (.cells #[.int .i8 b.1,.int .i8 b.2] 70)=w4 at HN5 HG5 HX5 HL5 HH5 HA5 ⊢
         generalize w3.heap.size=bz at HX5 HL5 ⊢
         refine wp_region_held_drew (S:=fun w'=>Below w4.heap.size w4 w') (by kernel_rfl) (Below.refl _ _).drew (fun hHeld=>?_)
         generalize w4.drew=W1 at hHeld ⊢
         refine Tk.t 0 (v:=.agg x.val) rfl (zav _ rfl (by rfl) _ x rfl (fun _ h=>HN5.out.below HG5.out h)) (by assumption) ?_
         try simp only [Tk.put]
         refine Tk.x 1 rfl ?_
         try simp only [Tk.put]
         refine Tk.x 2 rfl ?_
         try simp only [Tk.put]
         refine Tk.y 3 (v:=.int .i64 (ka:Int)) rfl ?_ ?_
         ·intro wS hSw
          have q:=(HN5.out.below HG5.out hSw).at 1 (.int .i64 (ka:Int)) hA1.out
          first | (go_simp;done) | (go_simp;with_reducible rfl)
         try simp only [Tk.put]
         refine Tk.x 4 rfl ?_
         try simp only [Tk.put]
         refine Tk.y 5 (v:=.agg #[.int .i8 a.1,.int .i8 a.2]) rfl ?_ ?_
         ·intro wS hSw
          obtain⟨q0,q1⟩:=HA5.out wS hSw
          first | (go_simp;done) | (go_simp;with_reducible rfl)
         try simp only [Tk.put]
         refine Tk.y 6 (v:=.agg #[.int .i8 b.1,.int .i8 b.2]) rfl ?_ ?_
         ·intro wS hSw
          obtain⟨q0,q1⟩:=HX5.out.below HL5.out hSw
          first | (go_simp;done) | (go_simp;with_reducible rfl)
         try simp only [Tk.put]
         refine wpAnyH_ready (rs:=[7,11]) (by kernel_rfl) (by simp) ?_
         refine Tk.c rfl (fun Kq hK=>?_) (Tk.c rfl (fun Kq hK=>?_) AllReadyH.nil)
         ·skip
          go_simp
          go_at_call 30
          refine (CN.out _ (HB.out.trans ((HH5.out.trans (hHeld.mono HH5.out.size)).mono HB.out.size))).mono ?_
          rintro e W2 ⟨rfl,hb⟩
          have hS2:=hHeld.trans (hb.mono hHeld.size)
          clear hHeld hb
          dsimp only
          refine hK.out _ _ hS2 (fun hHeld=>?_)
          clear hK Kq hS2
          try simp only [Tk.put]
          refine Tk.x 8 rfl ?_
          try simp only [Tk.put]
          refine Tk.x 9 rfl ?_
          try simp only [Tk.put]
          refine Tk.x 10 rfl ?_
          try simp only [Tk.put]
          refine Tk.s 11 rfl (fun Kq hK=>?_)
          go_simp
          have HTH:=hid (there_newR W2)
          have hS2:=hHeld.alloc hHeld.size (.cells #[.int .i8 0,.int .i8 0] 70)
          have HBX:Hid (W2.heap.size < (W2.alloc (.cells #[.int .i8 0,.int .i8 0] 70)).heap.size):=hid (by simp)
          have HGE:=hid hHeld.size
          generalize hbx:W2.heap.size=bx at *
          generalize W2.alloc (.cells #[.int .i8 0,.int .i8 0] 70)=W3 at HTH hS2 HBX ⊢
          clear hHeld hbx
          refine hK.out _ _ hS2 (fun hHeld=>?_)
          clear hK Kq hS2
          try simp only [Tk.put]
          refine Tk.s 12 rfl (fun Kq hK=>?_)
          rw [if_pos (by rfl)]
          refine wp_store_mid 70 _ _ rfl bx 0 #[.int .i8 u.1,.int .i8 u.2] rfl rfl HTH.out info_r2s (two_one _ _) ?_
          obtain⟨hs1,hs2⟩:=setCells_below (#[.int .i8 u.1,.int .i8 u.2]:Array Value).toList bx 0 W3
          have hS3:=hHeld.trans (hs1.mono HGE.out)
          have HRG:=hid (World.rangeAt_setCells_same W3 bx 0 (#[.int .i8 u.1,.int .i8 u.2]:Array Value).toList HTH.out)
          rw [← hs2] at HBX
          clear hHeld hs1 hs2 HTH
          generalize W3.setCells bx 0 (#[.int .i8 u.1,.int .i8 u.2]:Array Value).toList=W9 at hS3 HRG HBX ⊢
          refine hK.out _ _ hS3 (fun hHeld=>?_)
          clear hK Kq hS3
          try simp only [Tk.put]
          refine Tk.x 13 rfl ?_
          try simp only [Tk.put]
          refine wpAnyH_done (by kernel_rfl) ?_ _
          have HW9:=hid (HH5.out.trans (hHeld.mono HH5.out.size))
          have HB9:=hid (HB.out.trans (HW9.out.mono HB.out.size))
          have HO1:=hid (Kit.own_below HO.out HW9.out)
          have c0:=HRG.out 0 _ rfl
          have c1:=HRG.out 1 _ rfl
          simp only [Nat.zero_add] at c0 c1
          clear hHeld HH5 HG5 HN5 HA5 HX5 HL5 HGE HRG
          by_cases hz0:z=0
          ·have HGO2:=hid (HGO.out hz0)
           clear HEND HGO
           subst hz0
           go_wp2_with (at_builtin;refine Kit.za3 _ rfl (.tmp 70) (.tmp 72) _ rfl w.heap.size 70 i0 (.agg #[.int .i8 0,.int .i8 0]) 2 2 Tryz.underlying66 hi0 hi1 hi2 hi3 rfl (by decide) _ (k+1) (rvV L) rfl (HO1.out.alloc _) _ _ 1 1 [.int .i8 u.1,.int .i8 u.2] rfl rfl (Kit.Rd.new _ _ _ (lt_succ_self _)) (Kit.zb6 .i8 [u.1,u.2]) (by unfold maxLen;omega) (by omega) (by have:=HB9.out.size;simp;omega) ?_;intro v5 w5 hown5 hg5 hat5;(have hB5:Below w.heap.size w w5:=(HB9.out.alloc HB9.out.size _).grown hg5 (by have:=HB9.out.size;simp;omega) (fun q hq=>Kit.zbd HO1.out q hq));(have e5:rvV L ++ [.int .i8 u.1,.int .i8 u.2]=rvV (rcL Y r0 (k+1)):=by rw [rcL,rvV_append,HYK.out,HLL.out,HNT.out];rfl);rw [e5] at hown5;(have HO5:=hid hown5);(have HB5:=hid hB5);clear hown5 hg5 hat5 hB5 e5)
           go_roundw
           case rel=>exact⟨k+1,by omega,by go_num,HGO2,HO5,HB5⟩
           case measure=>simp [intOf];omega
          ·have hz2:(z != 0)=true:=by simpa using hz0
           have HE9:=hid (HEND.out hz0)
           clear HEND HGO
           go_wp2_with fail
           go_ret3
           exact⟨.inl ⟨k,z,HE9.out,rfl⟩,HB9.out⟩
         ·skip
          go_simp
          have HTH:=hid (there_newR W1)
          have hS2:=hHeld.alloc hHeld.size (.cells #[.int .i8 0,.int .i8 0] 70)
          have HBX:Hid (W1.heap.size < (W1.alloc (.cells #[.int .i8 0,.int .i8 0] 70)).heap.size):=hid (by simp)
          have HGE:=hid hHeld.size
          generalize hbx:W1.heap.size=bx at *
          generalize W1.alloc (.cells #[.int .i8 0,.int .i8 0] 70)=W2 at HTH hS2 HBX ⊢
          clear hHeld hbx
          refine hK.out _ _ hS2 (fun hHeld=>?_)
          clear hK Kq hS2
          try simp only [Tk.put]
          refine Tk.s 7 rfl (fun Kq hK=>?_)
          go_simp
          go_at_call 30
          refine (CN.out _ (HB.out.trans ((HH5.out.trans (hHeld.mono HH5.out.size)).mono HB.out.size))).mono ?_
          rintro e W3 ⟨rfl,hb⟩
          have hS2:=hHeld.trans (hb.mono hHeld.size)
          replace HTH:=hid (zb1 HTH.out HBX.out hb)
          replace HBX:=hid (Nat.lt_of_lt_of_le HBX.out hb.size)
          clear hHeld hb
          dsimp only
          refine hK.out _ _ hS2 (fun hHeld=>?_)
          clear hK Kq hS2
          try simp only [Tk.put]
          refine Tk.x 8 rfl ?_
          try simp only [Tk.put]
          refine Tk.x 9 rfl ?_
          try simp only [Tk.put]
          refine Tk.x 10 rfl ?_
          try simp only [Tk.put]
          refine Tk.s 12 rfl (fun Kq hK=>?_)
          rw [if_pos (by rfl)]
          refine wp_store_mid 70 _ _ rfl bx 0 #[.int .i8 u.1,.int .i8 u.2] rfl rfl HTH.out info_r2s (two_one _ _) ?_
          obtain⟨hs1,hs2⟩:=setCells_below (#[.int .i8 u.1,.int .i8 u.2]:Array Value).toList bx 0 W3
          have hS3:=hHeld.trans (hs1.mono HGE.out)
          have HRG:=hid (World.rangeAt_setCells_same W3 bx 0 (#[.int .i8 u.1,.int .i8 u.2]:Array Value).toList HTH.out)
          rw [← hs2] at HBX
          clear hHeld hs1 hs2 HTH
          generalize W3.setCells bx 0 (#[.int .i8 u.1,.int .i8 u.2]:Array Value).toList=W9 at hS3 HRG HBX ⊢
          refine hK.out _ _ hS3 (fun hHeld=>?_)
          clear hK Kq hS3
          try simp only [Tk.put]
          refine Tk.x 13 rfl ?_
          try simp only [Tk.put]
          refine wpAnyH_done (by kernel_rfl) ?_ _
          have HW9:=hid (HH5.out.trans (hHeld.mono HH5.out.size))
          have HB9:=hid (HB.out.trans (HW9.out.mono HB.out.size))
          have HO1:=hid (Kit.own_below HO.out HW9.out)
          have c0:=HRG.out 0 _ rfl
          have c1:=HRG.out 1 _ rfl
          simp only [Nat.zero_add] at c0 c1
          clear hHeld HH5 HG5 HN5 HA5 HX5 HL5 HGE HRG
          by_cases hz0:z=0
          ·have HGO2:=hid (HGO.out hz0)
           clear HEND HGO
           subst hz0
           go_wp2_with (at_builtin;refine Kit.za3 _ rfl (.tmp 70) (.tmp 72) _ rfl w.heap.size 70 i0 (.agg #[.int .i8 0,.int .i8 0]) 2 2 Tryz.underlying66 hi0 hi1 hi2 hi3 rfl (by decide) _ (k+1) (rvV L) rfl (HO1.out.alloc _) _ _ 1 1 [.int .i8 u.1,.int .i8 u.2] rfl rfl (Kit.Rd.new _ _ _ (lt_succ_self _)) (Kit.zb6 .i8 [u.1,u.2]) (by unfold maxLen;omega) (by omega) (by have:=HB9.out.size;simp;omega) ?_;intro v5 w5 hown5 hg5 hat5;(have hB5:Below w.heap.size w w5:=(HB9.out.alloc HB9.out.size _).grown hg5 (by have:=HB9.out.size;simp;omega) (fun q hq=>Kit.zbd HO1.out q hq));(have e5:rvV L ++ [.int .i8 u.1,.int .i8 u.2]=rvV (rcL Y r0 (k+1)):=by rw [rcL,rvV_append,HYK.out,HLL.out,HNT.out];rfl);rw [e5] at hown5;(have HO5:=hid hown5);(have HB5:=hid hB5);clear hown5 hg5 hat5 hB5 e5)
           go_roundw
           case rel=>exact⟨k+1,by omega,by go_num,HGO2,HO5,HB5⟩
           case measure=>simp [intOf];omega
          ·have hz2:(z != 0)=true:=by simpa using hz0
           have HE9:=hid (HEND.out hz0)
           clear HEND HGO
           go_wp2_with fail
           go_ret3
           exact⟨.inl ⟨k,z,HE9.out,rfl⟩,HB9.out⟩
     ·obtain rfl:k=n:=by omega
      go_wp2_with fail
      go_ret3
      exact⟨.inr ⟨by rw [HO9.out,hst.out];rfl,_,rfl,HO.out⟩,HB.out⟩
end CGuard
end
end Go.Proofs.YtoffcaldhojjoaaGreatDoor
