/- -/
import Derived.Test.YtjhlkmnpfibgaaaDoorGT40
open Go.Lib (hid)
open Nat (le_refl lt_of_succ_lt lt_succ_self)
set_option linter.unusedVariables false
set_option linter.unusedSimpArgs false
set_option maxRecDepth 100000
set_option maxHeartbeats 16000000
namespace Go.Proofs.YtjhlkmnpfibgaaaDoor
namespace CConv
end CConv
namespace CDense
end CDense
namespace CSat
end CSat
namespace CTensor
end CTensor
open Go Go.ChangeShapes Go.WideShapes Go.ChangeAt Go.RowKit Go.Deep
section
namespace CCost
open Plain CSat CFix CShape CTensor CConv CKind CGraph CDense
def TriAt (B:Nat) (a:Tri) (w:World):Prop:=w.cell? ⟨B,0,none⟩=some (.int .i64 a.1)∧w.cell? ⟨B,1,none⟩=some (.int .i64 a.2.1)∧w.cell? ⟨B,2,none⟩=some (.int .i64 a.2.2)
theorem TriAt.new (a:Tri) (T:TypeId) (w:World):TriAt w.heap.size a (w.alloc (.cells #[.int .i64 a.1,.int .i64 a.2.1,.int .i64 a.2.2] T)):=⟨Kit.zak _ _ _ _,Kit.zak _ _ _ _,Kit.zak _ _ _ _⟩
theorem TriAt.below {B B':Nat} {a:Tri} {w w':World} (h:TriAt B a w) (hB:B < B') (hb:Below B' w w'):TriAt B a w' :=
 ⟨(hb.cell (p:=⟨B,0,none⟩) hB).trans h.1,(hb.cell (p:=⟨B,1,none⟩) hB).trans h.2.1,(hb.cell (p:=⟨B,2,none⟩) hB).trans h.2.2⟩
theorem wrap_in {z:Int} (h1:0≤z) (h2:z≤26214400):IntKind.i64.wrap z=z:=IntWalk.i64_in _ (by omega)
theorem cost_ways (x:Nd) (a b:Tri) :
  (eZ x a b≠0∧costZ x a b=0)∨(eZ x a b=0∧x.kd=1∧costZ x a b=elT (sZ x a b) * x.K * x.K * a.2.2)∨(eZ x a b=0∧¬ x.kd=1∧(x.kd=2∨x.kd=4∨x.kd=5)∧costZ x a b=elT (sZ x a b) * x.K * x.K) ∨
  (eZ x a b=0∧x.kd=3∧costZ x a b=elT (sZ x a b) * elT a)∨(eZ x a b=0∧¬ x.kd=1∧¬ x.kd=2∧¬ x.kd=3∧¬ x.kd=4∧¬ x.kd=5∧costZ x a b=elT (sZ x a b)):=by
 by_cases h:eZ x a b=0
 ·have e:∀ p:Prop,(¬ eZ x a b≠0):=fun _=>by omega
  by_cases k1:x.kd=1
  ·exact .inr (.inl ⟨h,k1,by unfold costZ;rw [if_neg (by omega),if_pos k1]⟩)
  ·by_cases k2:x.kd=2∨x.kd=4∨x.kd=5
   ·exact .inr (.inr (.inl ⟨h,k1,k2,by unfold costZ;rw [if_neg (by omega),if_neg k1,if_pos k2]⟩))
   ·by_cases k3:x.kd=3
    ·exact .inr (.inr (.inr (.inl ⟨h,k3,by unfold costZ;rw [if_neg (by omega),if_neg k1,if_neg k2,if_pos k3]⟩)))
    ·exact .inr (.inr (.inr (.inr ⟨h,k1,by omega,k3,by omega,by omega,by unfold costZ;rw [if_neg (by omega),if_neg k1,if_neg k2,if_neg k3]⟩)))
 ·exact .inl ⟨h,by unfold costZ;rw [if_pos h]⟩
theorem win_mul {m K:Int} (m1:1≤m) (m2:m≤1024) (k1:1≤K) (k2:K≤5):IntKind.i64.wrap (m * K)=m * K∧IntKind.i64.wrap (m * K * K)=m * K * K∧1≤m * K * K∧m * K * K≤25600:=by
 have e1:=mul_le m1 m2 k1 k2 (by omega)
 have e2:=mul_le e1.1 e1.2 k1 k2 (by omega)
 exact⟨wrap_in (by omega) (by omega),wrap_in (by omega) (by omega),e2.1,by omega⟩
theorem rnode_no (x:Nd) (a b:Tri) (he:eZ x a b≠0) (w:World) :
  Calls Tryd.prog 12 #[.agg x.val,.agg #[.int .i64 a.1,.int .i64 a.2.1,.int .i64 a.2.2],.agg #[.int .i64 b.1,.int .i64 b.2.1,.int .i64 b.2.2]] w fun e w'=>e=.returned (.int .i64 (0))∧Below w.heap.size w w':=by
 obtain⟨u0,u1,u2,hv⟩:=Nd.sh_three x a.1 a.2.1 a.2.2 b.1 b.2.1 b.2.2
 have hs:sZ x a b=(u0,u1,u2):=by unfold sZ;rw [hv,zbh]
 have CS:=hid (fun w:World=>zbg x a.1 a.2.1 a.2.2 b.1 b.2.1 b.2.2 (eZ x a b) u0 u1 u2 rfl hv w)
 have HB0:=hid ((((Below.refl w.heap.size w).alloc (le_refl _) (.cells x.val 35)).alloc (by simp) (.cells #[.int .i64 a.1,.int .i64 a.2.1,.int .i64 a.2.2] 30)).alloc (by simp;omega) (.cells #[.int .i64 b.1,.int .i64 b.2.1,.int .i64 b.2.2] 30))
 have hb3:Below (w.heap.size+2) ((w.alloc (.cells x.val 35)).alloc (.cells #[.int .i64 a.1,.int .i64 a.2.1,.int .i64 a.2.2] 30)) (((w.alloc (.cells x.val 35)).alloc (.cells #[.int .i64 a.1,.int .i64 a.2.1,.int .i64 a.2.2] 30)).alloc (.cells #[.int .i64 b.1,.int .i64 b.2.1,.int .i64 b.2.2] 30)):=(Below.refl _ _).alloc (by simp) _
 have hb2:Below (w.heap.size+1) (w.alloc (.cells x.val 35)) (((w.alloc (.cells x.val 35)).alloc (.cells #[.int .i64 a.1,.int .i64 a.2.1,.int .i64 a.2.2] 30)).alloc (.cells #[.int .i64 b.1,.int .i64 b.2.1,.int .i64 b.2.2] 30)):=((Below.refl _ _).alloc (by simp) _).trans (hb3.mono (by omega))
 have HN:=hid ((NdAt.new x 35 w).below (lt_succ_self _) hb2)
 have q2:=TriAt.new a 30 (w.alloc (.cells x.val 35))
 have q3:=TriAt.new b 30 ((w.alloc (.cells x.val 35)).alloc (.cells #[.int .i64 a.1,.int .i64 a.2.1,.int .i64 a.2.2] 30))
 simp only [World.size_alloc] at q2 q3
 have HA:=hid (q2.below (lt_succ_self _) hb3)
 have HB:=hid q3
 have HSZ:Hid (w.heap.size+3≤(((w.alloc (.cells x.val 35)).alloc (.cells #[.int .i64 a.1,.int .i64 a.2.1,.int .i64 a.2.2] 30)).alloc (.cells #[.int .i64 b.1,.int .i64 b.2.1,.int .i64 b.2.2] 30)).heap.size):=hid (by simp)
 clear q2 q3 hb2 hb3 hv
 generalize eZ x a b=er at he CS
 have n1:(er != 0)=true:=by simpa using he
 clear hs he
 go_enter Tryd.func12,Tryd.ntmps12
 go_upto_region 1 with fail
 generalize ((w.alloc (.cells x.val 35)).alloc (.cells #[.int .i64 a.1,.int .i64 a.2.1,.int .i64 a.2.2] 30)).alloc (.cells #[.int .i64 b.1,.int .i64 b.2.1,.int .i64 b.2.2] 30)=W0 at HN HA HB HB0 HSZ ⊢
 obtain⟨a0,a1,a2⟩:=HA.out
 obtain⟨b0,b1,b2⟩:=HB.out
 go_wp2_with (first
  | (refine zal rfl _ rfl w.heap.size x rfl HN.out ?_)
  | (go_at_call 25
     refine (CS.out _).mono ?_
     rintro e w1 ⟨rfl,hb⟩
     have HB1:=hid (HB0.out.trans (hb.mono HB0.out.size))
     replace HN:=hid (HN.out.below (B:=W0.heap.size) (by have:=HSZ.out;omega) hb)
     replace HA:=hid (HA.out.below (B':=W0.heap.size) (by have:=HSZ.out;omega) hb)
     have HS1:=hid (Nat.le_trans HSZ.out hb.size)
     clear hb a0 a1 a2 b0 b1 b2 HB HSZ))
 go_ret
 exact⟨rfl,HB1.out.alloc HB1.out.size _⟩
theorem rnode_1 (x:Nd) (a b:Tri) (he:eZ x a b=0) (hk:x.kd=1) (w:World) :
  Calls Tryd.prog 12 #[.agg x.val,.agg #[.int .i64 a.1,.int .i64 a.2.1,.int .i64 a.2.2],.agg #[.int .i64 b.1,.int .i64 b.2.1,.int .i64 b.2.2]] w fun e w'=>e=.returned (.int .i64 (elT (sZ x a b) * x.K * x.K * a.2.2))∧Below w.heap.size w w':=by
 obtain⟨u0,u1,u2,hv⟩:=Nd.sh_three x a.1 a.2.1 a.2.2 b.1 b.2.1 b.2.2
 have hs:sZ x a b=(u0,u1,u2):=by unfold sZ;rw [hv,zbh]
 have CS:=hid (fun w:World=>zbg x a.1 a.2.1 a.2.2 b.1 b.2.1 b.2.2 (eZ x a b) u0 u1 u2 rfl hv w)
 have HB0:=hid ((((Below.refl w.heap.size w).alloc (le_refl _) (.cells x.val 35)).alloc (by simp) (.cells #[.int .i64 a.1,.int .i64 a.2.1,.int .i64 a.2.2] 30)).alloc (by simp;omega) (.cells #[.int .i64 b.1,.int .i64 b.2.1,.int .i64 b.2.2] 30))
 have hb3:Below (w.heap.size+2) ((w.alloc (.cells x.val 35)).alloc (.cells #[.int .i64 a.1,.int .i64 a.2.1,.int .i64 a.2.2] 30)) (((w.alloc (.cells x.val 35)).alloc (.cells #[.int .i64 a.1,.int .i64 a.2.1,.int .i64 a.2.2] 30)).alloc (.cells #[.int .i64 b.1,.int .i64 b.2.1,.int .i64 b.2.2] 30)):=(Below.refl _ _).alloc (by simp) _
 have hb2:Below (w.heap.size+1) (w.alloc (.cells x.val 35)) (((w.alloc (.cells x.val 35)).alloc (.cells #[.int .i64 a.1,.int .i64 a.2.1,.int .i64 a.2.2] 30)).alloc (.cells #[.int .i64 b.1,.int .i64 b.2.1,.int .i64 b.2.2] 30)):=((Below.refl _ _).alloc (by simp) _).trans (hb3.mono (by omega))
 have HN:=hid ((NdAt.new x 35 w).below (lt_succ_self _) hb2)
 have q2:=TriAt.new a 30 (w.alloc (.cells x.val 35))
 have q3:=TriAt.new b 30 ((w.alloc (.cells x.val 35)).alloc (.cells #[.int .i64 a.1,.int .i64 a.2.1,.int .i64 a.2.2] 30))
 simp only [World.size_alloc] at q2 q3
 have HA:=hid (q2.below (lt_succ_self _) hb3)
 have HB:=hid q3
 have HSZ:Hid (w.heap.size+3≤(((w.alloc (.cells x.val 35)).alloc (.cells #[.int .i64 a.1,.int .i64 a.2.1,.int .i64 a.2.2] 30)).alloc (.cells #[.int .i64 b.1,.int .i64 b.2.1,.int .i64 b.2.2] 30)).heap.size):=hid (by simp)
 clear q2 q3 hb2 hb3 hv
 have hel:=(za5 (zax he)).1
 have hbd:=(za5 (zax he)).2
 rw [he] at CS
 rw [hs] at hel hbd ⊢
 have CE:=hid (fun w:World=>zah u0 u1 u2 (elT (u0,u1,u2)) rfl w)
 generalize elT (u0,u1,u2)=m at CE hel hbd ⊢
 obtain⟨⟨k1,k2⟩,hsh⟩:=K_bd he (.inl hk)
 obtain⟨-, -, -, -,q1,q2, -⟩:=zad hsh
 obtain⟨w1',w2',w3,w4⟩:=win_mul hel hbd k1 k2
 have e3:=mul_le w3 w4 q1 q2 (by omega)
 have w5:IntKind.i64.wrap (m * x.K * x.K * a.2.2)=m * x.K * x.K * a.2.2:=wrap_in (by omega) (by omega)
 have d1:(x.kd == 1)=true:=by simp [hk]
 clear hs he hsh e3 w3 w4 k1 k2 q1 q2 hel hbd
 go_enter Tryd.func12,Tryd.ntmps12
 go_upto_region 1 with fail
 generalize ((w.alloc (.cells x.val 35)).alloc (.cells #[.int .i64 a.1,.int .i64 a.2.1,.int .i64 a.2.2] 30)).alloc (.cells #[.int .i64 b.1,.int .i64 b.2.1,.int .i64 b.2.2] 30)=W0 at HN HA HB HB0 HSZ ⊢
 obtain⟨a0,a1,a2⟩:=HA.out
 obtain⟨b0,b1,b2⟩:=HB.out
 go_wp2_with (first
  | (refine zal rfl _ rfl w.heap.size x rfl HN.out ?_)
  | (go_at_call 25
     refine (CS.out _).mono ?_
     rintro e w1 ⟨rfl,hb⟩
     have HB1:=hid (HB0.out.trans (hb.mono HB0.out.size))
     replace HN:=hid (HN.out.below (B:=W0.heap.size) (by have:=HSZ.out;omega) hb)
     replace HA:=hid (HA.out.below (B':=W0.heap.size) (by have:=HSZ.out;omega) hb)
     have HS1:=hid (Nat.le_trans HSZ.out hb.size)
     clear hb a0 a1 a2 b0 b1 b2 HB HSZ)
  | (go_at_call 21
     with_reducible refine (CE.out _).mono ?_
     rintro e w2 ⟨rfl,hb⟩
     have hh:Below w1.heap.size w1 w2:=((Below.refl _ _).alloc (le_refl _) _).trans (hb.mono (by simp))
     have HB2:=hid (HB1.out.trans (hh.mono HB1.out.size))
     replace HN:=hid (HN.out.below (B:=w1.heap.size) (by have:=HS1.out;omega) hh)
     replace HA:=hid (HA.out.below (B':=w1.heap.size) (by have:=HS1.out;omega) hh)
     have c0:=HN.out.at 0 _ rfl
     have c3:=HN.out.at 3 _ rfl
     obtain⟨a0,a1,a2⟩:=HA.out
     clear hb hh))
 go_ret
 exact⟨rfl,HB2.out⟩
theorem rnode_2 (x:Nd) (a b:Tri) (he:eZ x a b=0) (hk:x.kd=2) (w:World) :
  Calls Tryd.prog 12 #[.agg x.val,.agg #[.int .i64 a.1,.int .i64 a.2.1,.int .i64 a.2.2],.agg #[.int .i64 b.1,.int .i64 b.2.1,.int .i64 b.2.2]] w fun e w'=>e=.returned (.int .i64 (elT (sZ x a b) * x.K * x.K))∧Below w.heap.size w w':=by
 obtain⟨u0,u1,u2,hv⟩:=Nd.sh_three x a.1 a.2.1 a.2.2 b.1 b.2.1 b.2.2
 have hs:sZ x a b=(u0,u1,u2):=by unfold sZ;rw [hv,zbh]
 have CS:=hid (fun w:World=>zbg x a.1 a.2.1 a.2.2 b.1 b.2.1 b.2.2 (eZ x a b) u0 u1 u2 rfl hv w)
 have HB0:=hid ((((Below.refl w.heap.size w).alloc (le_refl _) (.cells x.val 35)).alloc (by simp) (.cells #[.int .i64 a.1,.int .i64 a.2.1,.int .i64 a.2.2] 30)).alloc (by simp;omega) (.cells #[.int .i64 b.1,.int .i64 b.2.1,.int .i64 b.2.2] 30))
 have hb3:Below (w.heap.size+2) ((w.alloc (.cells x.val 35)).alloc (.cells #[.int .i64 a.1,.int .i64 a.2.1,.int .i64 a.2.2] 30)) (((w.alloc (.cells x.val 35)).alloc (.cells #[.int .i64 a.1,.int .i64 a.2.1,.int .i64 a.2.2] 30)).alloc (.cells #[.int .i64 b.1,.int .i64 b.2.1,.int .i64 b.2.2] 30)):=(Below.refl _ _).alloc (by simp) _
 have hb2:Below (w.heap.size+1) (w.alloc (.cells x.val 35)) (((w.alloc (.cells x.val 35)).alloc (.cells #[.int .i64 a.1,.int .i64 a.2.1,.int .i64 a.2.2] 30)).alloc (.cells #[.int .i64 b.1,.int .i64 b.2.1,.int .i64 b.2.2] 30)):=((Below.refl _ _).alloc (by simp) _).trans (hb3.mono (by omega))
 have HN:=hid ((NdAt.new x 35 w).below (lt_succ_self _) hb2)
 have q2:=TriAt.new a 30 (w.alloc (.cells x.val 35))
 have q3:=TriAt.new b 30 ((w.alloc (.cells x.val 35)).alloc (.cells #[.int .i64 a.1,.int .i64 a.2.1,.int .i64 a.2.2] 30))
 simp only [World.size_alloc] at q2 q3
 have HA:=hid (q2.below (lt_succ_self _) hb3)
 have HB:=hid q3
 have HSZ:Hid (w.heap.size+3≤(((w.alloc (.cells x.val 35)).alloc (.cells #[.int .i64 a.1,.int .i64 a.2.1,.int .i64 a.2.2] 30)).alloc (.cells #[.int .i64 b.1,.int .i64 b.2.1,.int .i64 b.2.2] 30)).heap.size):=hid (by simp)
 clear q2 q3 hb2 hb3 hv
 have hel:=(za5 (zax he)).1
 have hbd:=(za5 (zax he)).2
 rw [he] at CS
 rw [hs] at hel hbd ⊢
 have CE:=hid (fun w:World=>zah u0 u1 u2 (elT (u0,u1,u2)) rfl w)
 generalize elT (u0,u1,u2)=m at CE hel hbd ⊢
 obtain⟨⟨k1,k2⟩,hsh⟩:=K_bd he (by omega)
 obtain⟨w1',w2',w3,w4⟩:=win_mul hel hbd k1 k2
 have d1:(x.kd == 1)=false:=by simp [hk]
 have d2:(x.kd == 2)=true:=by simp [hk]
 have d4:(x.kd == 4)=false:=by simp [hk]
 have d5:(x.kd == 5)=false:=by simp [hk]
 clear hs he hsh w3 w4 k1 k2 hel hbd
 go_enter Tryd.func12,Tryd.ntmps12
 go_upto_region 1 with fail
 generalize ((w.alloc (.cells x.val 35)).alloc (.cells #[.int .i64 a.1,.int .i64 a.2.1,.int .i64 a.2.2] 30)).alloc (.cells #[.int .i64 b.1,.int .i64 b.2.1,.int .i64 b.2.2] 30)=W0 at HN HA HB HB0 HSZ ⊢
 obtain⟨a0,a1,a2⟩:=HA.out
 obtain⟨b0,b1,b2⟩:=HB.out
 go_wp2_with (first
  | (refine zal rfl _ rfl w.heap.size x rfl HN.out ?_)
  | (go_at_call 25
     refine (CS.out _).mono ?_
     rintro e w1 ⟨rfl,hb⟩
     have HB1:=hid (HB0.out.trans (hb.mono HB0.out.size))
     replace HN:=hid (HN.out.below (B:=W0.heap.size) (by have:=HSZ.out;omega) hb)
     replace HA:=hid (HA.out.below (B':=W0.heap.size) (by have:=HSZ.out;omega) hb)
     have HS1:=hid (Nat.le_trans HSZ.out hb.size)
     clear hb a0 a1 a2 b0 b1 b2 HB HSZ)
  | (go_at_call 21
     with_reducible refine (CE.out _).mono ?_
     rintro e w2 ⟨rfl,hb⟩
     have hh:Below w1.heap.size w1 w2:=((Below.refl _ _).alloc (le_refl _) _).trans (hb.mono (by simp))
     have HB2:=hid (HB1.out.trans (hh.mono HB1.out.size))
     replace HN:=hid (HN.out.below (B:=w1.heap.size) (by have:=HS1.out;omega) hh)
     replace HA:=hid (HA.out.below (B':=w1.heap.size) (by have:=HS1.out;omega) hh)
     have c0:=HN.out.at 0 _ rfl
     have c3:=HN.out.at 3 _ rfl
     obtain⟨a0,a1,a2⟩:=HA.out
     clear hb hh))
 go_ret
 exact⟨rfl,HB2.out⟩
theorem rnode_4 (x:Nd) (a b:Tri) (he:eZ x a b=0) (hk:x.kd=4) (w:World) :
  Calls Tryd.prog 12 #[.agg x.val,.agg #[.int .i64 a.1,.int .i64 a.2.1,.int .i64 a.2.2],.agg #[.int .i64 b.1,.int .i64 b.2.1,.int .i64 b.2.2]] w fun e w'=>e=.returned (.int .i64 (elT (sZ x a b) * x.K * x.K))∧Below w.heap.size w w':=by
 obtain⟨u0,u1,u2,hv⟩:=Nd.sh_three x a.1 a.2.1 a.2.2 b.1 b.2.1 b.2.2
 have hs:sZ x a b=(u0,u1,u2):=by unfold sZ;rw [hv,zbh]
 have CS:=hid (fun w:World=>zbg x a.1 a.2.1 a.2.2 b.1 b.2.1 b.2.2 (eZ x a b) u0 u1 u2 rfl hv w)
 have HB0:=hid ((((Below.refl w.heap.size w).alloc (le_refl _) (.cells x.val 35)).alloc (by simp) (.cells #[.int .i64 a.1,.int .i64 a.2.1,.int .i64 a.2.2] 30)).alloc (by simp;omega) (.cells #[.int .i64 b.1,.int .i64 b.2.1,.int .i64 b.2.2] 30))
 have hb3:Below (w.heap.size+2) ((w.alloc (.cells x.val 35)).alloc (.cells #[.int .i64 a.1,.int .i64 a.2.1,.int .i64 a.2.2] 30)) (((w.alloc (.cells x.val 35)).alloc (.cells #[.int .i64 a.1,.int .i64 a.2.1,.int .i64 a.2.2] 30)).alloc (.cells #[.int .i64 b.1,.int .i64 b.2.1,.int .i64 b.2.2] 30)):=(Below.refl _ _).alloc (by simp) _
 have hb2:Below (w.heap.size+1) (w.alloc (.cells x.val 35)) (((w.alloc (.cells x.val 35)).alloc (.cells #[.int .i64 a.1,.int .i64 a.2.1,.int .i64 a.2.2] 30)).alloc (.cells #[.int .i64 b.1,.int .i64 b.2.1,.int .i64 b.2.2] 30)):=((Below.refl _ _).alloc (by simp) _).trans (hb3.mono (by omega))
 have HN:=hid ((NdAt.new x 35 w).below (lt_succ_self _) hb2)
 have q2:=TriAt.new a 30 (w.alloc (.cells x.val 35))
 have q3:=TriAt.new b 30 ((w.alloc (.cells x.val 35)).alloc (.cells #[.int .i64 a.1,.int .i64 a.2.1,.int .i64 a.2.2] 30))
 simp only [World.size_alloc] at q2 q3
 have HA:=hid (q2.below (lt_succ_self _) hb3)
 have HB:=hid q3
 have HSZ:Hid (w.heap.size+3≤(((w.alloc (.cells x.val 35)).alloc (.cells #[.int .i64 a.1,.int .i64 a.2.1,.int .i64 a.2.2] 30)).alloc (.cells #[.int .i64 b.1,.int .i64 b.2.1,.int .i64 b.2.2] 30)).heap.size):=hid (by simp)
 clear q2 q3 hb2 hb3 hv
 have hel:=(za5 (zax he)).1
 have hbd:=(za5 (zax he)).2
 rw [he] at CS
 rw [hs] at hel hbd ⊢
 have CE:=hid (fun w:World=>zah u0 u1 u2 (elT (u0,u1,u2)) rfl w)
 generalize elT (u0,u1,u2)=m at CE hel hbd ⊢
 obtain⟨⟨k1,k2⟩,hsh⟩:=K_bd he (by omega)
 obtain⟨w1',w2',w3,w4⟩:=win_mul hel hbd k1 k2
 have d1:(x.kd == 1)=false:=by simp [hk]
 have d2:(x.kd == 2)=false:=by simp [hk]
 have d4:(x.kd == 4)=true:=by simp [hk]
 have d5:(x.kd == 5)=false:=by simp [hk]
 clear hs he hsh w3 w4 k1 k2 hel hbd
 go_enter Tryd.func12,Tryd.ntmps12
 go_upto_region 1 with fail
 generalize ((w.alloc (.cells x.val 35)).alloc (.cells #[.int .i64 a.1,.int .i64 a.2.1,.int .i64 a.2.2] 30)).alloc (.cells #[.int .i64 b.1,.int .i64 b.2.1,.int .i64 b.2.2] 30)=W0 at HN HA HB HB0 HSZ ⊢
 obtain⟨a0,a1,a2⟩:=HA.out
 obtain⟨b0,b1,b2⟩:=HB.out
 go_wp2_with (first
  | (refine zal rfl _ rfl w.heap.size x rfl HN.out ?_)
  | (go_at_call 25
     refine (CS.out _).mono ?_
     rintro e w1 ⟨rfl,hb⟩
     have HB1:=hid (HB0.out.trans (hb.mono HB0.out.size))
     replace HN:=hid (HN.out.below (B:=W0.heap.size) (by have:=HSZ.out;omega) hb)
     replace HA:=hid (HA.out.below (B':=W0.heap.size) (by have:=HSZ.out;omega) hb)
     have HS1:=hid (Nat.le_trans HSZ.out hb.size)
     clear hb a0 a1 a2 b0 b1 b2 HB HSZ)
  | (go_at_call 21
     with_reducible refine (CE.out _).mono ?_
     rintro e w2 ⟨rfl,hb⟩
     have hh:Below w1.heap.size w1 w2:=((Below.refl _ _).alloc (le_refl _) _).trans (hb.mono (by simp))
     have HB2:=hid (HB1.out.trans (hh.mono HB1.out.size))
     replace HN:=hid (HN.out.below (B:=w1.heap.size) (by have:=HS1.out;omega) hh)
     replace HA:=hid (HA.out.below (B':=w1.heap.size) (by have:=HS1.out;omega) hh)
     have c0:=HN.out.at 0 _ rfl
     have c3:=HN.out.at 3 _ rfl
     obtain⟨a0,a1,a2⟩:=HA.out
     clear hb hh))
 go_ret
 exact⟨rfl,HB2.out⟩
theorem rnode_5 (x:Nd) (a b:Tri) (he:eZ x a b=0) (hk:x.kd=5) (w:World) :
  Calls Tryd.prog 12 #[.agg x.val,.agg #[.int .i64 a.1,.int .i64 a.2.1,.int .i64 a.2.2],.agg #[.int .i64 b.1,.int .i64 b.2.1,.int .i64 b.2.2]] w fun e w'=>e=.returned (.int .i64 (elT (sZ x a b) * x.K * x.K))∧Below w.heap.size w w':=by
 obtain⟨u0,u1,u2,hv⟩:=Nd.sh_three x a.1 a.2.1 a.2.2 b.1 b.2.1 b.2.2
 have hs:sZ x a b=(u0,u1,u2):=by unfold sZ;rw [hv,zbh]
 have CS:=hid (fun w:World=>zbg x a.1 a.2.1 a.2.2 b.1 b.2.1 b.2.2 (eZ x a b) u0 u1 u2 rfl hv w)
 have HB0:=hid ((((Below.refl w.heap.size w).alloc (le_refl _) (.cells x.val 35)).alloc (by simp) (.cells #[.int .i64 a.1,.int .i64 a.2.1,.int .i64 a.2.2] 30)).alloc (by simp;omega) (.cells #[.int .i64 b.1,.int .i64 b.2.1,.int .i64 b.2.2] 30))
 have hb3:Below (w.heap.size+2) ((w.alloc (.cells x.val 35)).alloc (.cells #[.int .i64 a.1,.int .i64 a.2.1,.int .i64 a.2.2] 30)) (((w.alloc (.cells x.val 35)).alloc (.cells #[.int .i64 a.1,.int .i64 a.2.1,.int .i64 a.2.2] 30)).alloc (.cells #[.int .i64 b.1,.int .i64 b.2.1,.int .i64 b.2.2] 30)):=(Below.refl _ _).alloc (by simp) _
 have hb2:Below (w.heap.size+1) (w.alloc (.cells x.val 35)) (((w.alloc (.cells x.val 35)).alloc (.cells #[.int .i64 a.1,.int .i64 a.2.1,.int .i64 a.2.2] 30)).alloc (.cells #[.int .i64 b.1,.int .i64 b.2.1,.int .i64 b.2.2] 30)):=((Below.refl _ _).alloc (by simp) _).trans (hb3.mono (by omega))
 have HN:=hid ((NdAt.new x 35 w).below (lt_succ_self _) hb2)
 have q2:=TriAt.new a 30 (w.alloc (.cells x.val 35))
 have q3:=TriAt.new b 30 ((w.alloc (.cells x.val 35)).alloc (.cells #[.int .i64 a.1,.int .i64 a.2.1,.int .i64 a.2.2] 30))
 simp only [World.size_alloc] at q2 q3
 have HA:=hid (q2.below (lt_succ_self _) hb3)
 have HB:=hid q3
 have HSZ:Hid (w.heap.size+3≤(((w.alloc (.cells x.val 35)).alloc (.cells #[.int .i64 a.1,.int .i64 a.2.1,.int .i64 a.2.2] 30)).alloc (.cells #[.int .i64 b.1,.int .i64 b.2.1,.int .i64 b.2.2] 30)).heap.size):=hid (by simp)
 clear q2 q3 hb2 hb3 hv
 have hel:=(za5 (zax he)).1
 have hbd:=(za5 (zax he)).2
 rw [he] at CS
 rw [hs] at hel hbd ⊢
 have CE:=hid (fun w:World=>zah u0 u1 u2 (elT (u0,u1,u2)) rfl w)
 generalize elT (u0,u1,u2)=m at CE hel hbd ⊢
 obtain⟨⟨k1,k2⟩,hsh⟩:=K_bd he (by omega)
 obtain⟨w1',w2',w3,w4⟩:=win_mul hel hbd k1 k2
 have d1:(x.kd == 1)=false:=by simp [hk]
 have d2:(x.kd == 2)=false:=by simp [hk]
 have d4:(x.kd == 4)=false:=by simp [hk]
 have d5:(x.kd == 5)=true:=by simp [hk]
 clear hs he hsh w3 w4 k1 k2 hel hbd
 go_enter Tryd.func12,Tryd.ntmps12
 go_upto_region 1 with fail
 generalize ((w.alloc (.cells x.val 35)).alloc (.cells #[.int .i64 a.1,.int .i64 a.2.1,.int .i64 a.2.2] 30)).alloc (.cells #[.int .i64 b.1,.int .i64 b.2.1,.int .i64 b.2.2] 30)=W0 at HN HA HB HB0 HSZ ⊢
 obtain⟨a0,a1,a2⟩:=HA.out
 obtain⟨b0,b1,b2⟩:=HB.out
 go_wp2_with (first
  | (refine zal rfl _ rfl w.heap.size x rfl HN.out ?_)
  | (go_at_call 25
     refine (CS.out _).mono ?_
     rintro e w1 ⟨rfl,hb⟩
     have HB1:=hid (HB0.out.trans (hb.mono HB0.out.size))
     replace HN:=hid (HN.out.below (B:=W0.heap.size) (by have:=HSZ.out;omega) hb)
     replace HA:=hid (HA.out.below (B':=W0.heap.size) (by have:=HSZ.out;omega) hb)
     have HS1:=hid (Nat.le_trans HSZ.out hb.size)
     clear hb a0 a1 a2 b0 b1 b2 HB HSZ)
  | (go_at_call 21
     with_reducible refine (CE.out _).mono ?_
     rintro e w2 ⟨rfl,hb⟩
     have hh:Below w1.heap.size w1 w2:=((Below.refl _ _).alloc (le_refl _) _).trans (hb.mono (by simp))
     have HB2:=hid (HB1.out.trans (hh.mono HB1.out.size))
     replace HN:=hid (HN.out.below (B:=w1.heap.size) (by have:=HS1.out;omega) hh)
     replace HA:=hid (HA.out.below (B':=w1.heap.size) (by have:=HS1.out;omega) hh)
     have c0:=HN.out.at 0 _ rfl
     have c3:=HN.out.at 3 _ rfl
     obtain⟨a0,a1,a2⟩:=HA.out
     clear hb hh))
 go_ret
 exact⟨rfl,HB2.out⟩
theorem rnode_3 (x:Nd) (a b:Tri) (he:eZ x a b=0) (hk:x.kd=3) (w:World) :
  Calls Tryd.prog 12 #[.agg x.val,.agg #[.int .i64 a.1,.int .i64 a.2.1,.int .i64 a.2.2],.agg #[.int .i64 b.1,.int .i64 b.2.1,.int .i64 b.2.2]] w fun e w'=>e=.returned (.int .i64 (elT (sZ x a b) * elT a))∧Below w.heap.size w w':=by
 obtain⟨u0,u1,u2,hv⟩:=Nd.sh_three x a.1 a.2.1 a.2.2 b.1 b.2.1 b.2.2
 have hs:sZ x a b=(u0,u1,u2):=by unfold sZ;rw [hv,zbh]
 have CS:=hid (fun w:World=>zbg x a.1 a.2.1 a.2.2 b.1 b.2.1 b.2.2 (eZ x a b) u0 u1 u2 rfl hv w)
 have HB0:=hid ((((Below.refl w.heap.size w).alloc (le_refl _) (.cells x.val 35)).alloc (by simp) (.cells #[.int .i64 a.1,.int .i64 a.2.1,.int .i64 a.2.2] 30)).alloc (by simp;omega) (.cells #[.int .i64 b.1,.int .i64 b.2.1,.int .i64 b.2.2] 30))
 have hb3:Below (w.heap.size+2) ((w.alloc (.cells x.val 35)).alloc (.cells #[.int .i64 a.1,.int .i64 a.2.1,.int .i64 a.2.2] 30)) (((w.alloc (.cells x.val 35)).alloc (.cells #[.int .i64 a.1,.int .i64 a.2.1,.int .i64 a.2.2] 30)).alloc (.cells #[.int .i64 b.1,.int .i64 b.2.1,.int .i64 b.2.2] 30)):=(Below.refl _ _).alloc (by simp) _
 have hb2:Below (w.heap.size+1) (w.alloc (.cells x.val 35)) (((w.alloc (.cells x.val 35)).alloc (.cells #[.int .i64 a.1,.int .i64 a.2.1,.int .i64 a.2.2] 30)).alloc (.cells #[.int .i64 b.1,.int .i64 b.2.1,.int .i64 b.2.2] 30)):=((Below.refl _ _).alloc (by simp) _).trans (hb3.mono (by omega))
 have HN:=hid ((NdAt.new x 35 w).below (lt_succ_self _) hb2)
 have q2:=TriAt.new a 30 (w.alloc (.cells x.val 35))
 have q3:=TriAt.new b 30 ((w.alloc (.cells x.val 35)).alloc (.cells #[.int .i64 a.1,.int .i64 a.2.1,.int .i64 a.2.2] 30))
 simp only [World.size_alloc] at q2 q3
 have HA:=hid (q2.below (lt_succ_self _) hb3)
 have HB:=hid q3
 have HSZ:Hid (w.heap.size+3≤(((w.alloc (.cells x.val 35)).alloc (.cells #[.int .i64 a.1,.int .i64 a.2.1,.int .i64 a.2.2] 30)).alloc (.cells #[.int .i64 b.1,.int .i64 b.2.1,.int .i64 b.2.2] 30)).heap.size):=hid (by simp)
 clear q2 q3 hb2 hb3 hv
 have hel:=(za5 (zax he)).1
 have hbd:=(za5 (zax he)).2
 rw [he] at CS
 rw [hs] at hel hbd ⊢
 have CE:=hid (fun w:World=>zah u0 u1 u2 (elT (u0,u1,u2)) rfl w)
 generalize elT (u0,u1,u2)=m at CE hel hbd ⊢
 obtain⟨n1,n2⟩:=za5 (dense_in he hk)
 have CA:=hid (fun w:World=>zah a.1 a.2.1 a.2.2 (elT a) rfl w)
 generalize elT a=y at CA n1 n2 ⊢
 have e3:=mul_le hel hbd n1 n2 (by omega)
 have w5:IntKind.i64.wrap (m * y)=m * y:=wrap_in (by omega) (by omega)
 have d1:(x.kd == 1)=false:=by simp [hk]
 have d2:(x.kd == 2)=false:=by simp [hk]
 have d4:(x.kd == 4)=false:=by simp [hk]
 have d5:(x.kd == 5)=false:=by simp [hk]
 have d3:(x.kd == 3)=true:=by simp [hk]
 clear hs he e3 n1 n2 hel hbd
 go_enter Tryd.func12,Tryd.ntmps12
 go_upto_region 1 with fail
 generalize ((w.alloc (.cells x.val 35)).alloc (.cells #[.int .i64 a.1,.int .i64 a.2.1,.int .i64 a.2.2] 30)).alloc (.cells #[.int .i64 b.1,.int .i64 b.2.1,.int .i64 b.2.2] 30)=W0 at HN HA HB HB0 HSZ ⊢
 obtain⟨a0,a1,a2⟩:=HA.out
 obtain⟨b0,b1,b2⟩:=HB.out
 go_wp2_with (first
  | (refine zal rfl _ rfl w.heap.size x rfl HN.out ?_)
  | (go_at_call 25
     refine (CS.out _).mono ?_
     rintro e w1 ⟨rfl,hb⟩
     have HB1:=hid (HB0.out.trans (hb.mono HB0.out.size))
     replace HN:=hid (HN.out.below (B:=W0.heap.size) (by have:=HSZ.out;omega) hb)
     replace HA:=hid (HA.out.below (B':=W0.heap.size) (by have:=HSZ.out;omega) hb)
     have HS1:=hid (Nat.le_trans HSZ.out hb.size)
     clear hb a0 a1 a2 b0 b1 b2 HB HSZ)
  | (go_at_call 21
     with_reducible refine (CE.out _).mono ?_
     rintro e w2 ⟨rfl,hb⟩
     have hh:Below w1.heap.size w1 w2:=((Below.refl _ _).alloc (le_refl _) _).trans (hb.mono (by simp))
     have HB2:=hid (HB1.out.trans (hh.mono HB1.out.size))
     replace HN:=hid (HN.out.below (B:=w1.heap.size) (by have:=HS1.out;omega) hh)
     replace HA:=hid (HA.out.below (B':=w1.heap.size) (by have:=HS1.out;omega) hh)
     have c0:=HN.out.at 0 _ rfl
     have c3:=HN.out.at 3 _ rfl
     obtain⟨a0,a1,a2⟩:=HA.out
     clear hb hh)
  | (go_at_call 21
     with_reducible refine (CA.out _).mono ?_
     rintro e w3 ⟨rfl,hb⟩
     have HB3:=hid (HB2.out.trans (hb.mono HB2.out.size))
     clear hb))
 go_ret
 exact⟨rfl,HB3.out⟩
theorem rnode_9 (x:Nd) (a b:Tri) (he:eZ x a b=0) (k1:¬ x.kd=1) (k2:¬ x.kd=2) (k3:¬ x.kd=3) (k4:¬ x.kd=4) (k5:¬ x.kd=5) (w:World) :
  Calls Tryd.prog 12 #[.agg x.val,.agg #[.int .i64 a.1,.int .i64 a.2.1,.int .i64 a.2.2],.agg #[.int .i64 b.1,.int .i64 b.2.1,.int .i64 b.2.2]] w fun e w'=>e=.returned (.int .i64 (elT (sZ x a b)))∧Below w.heap.size w w':=by
 obtain⟨u0,u1,u2,hv⟩:=Nd.sh_three x a.1 a.2.1 a.2.2 b.1 b.2.1 b.2.2
 have hs:sZ x a b=(u0,u1,u2):=by unfold sZ;rw [hv,zbh]
 have CS:=hid (fun w:World=>zbg x a.1 a.2.1 a.2.2 b.1 b.2.1 b.2.2 (eZ x a b) u0 u1 u2 rfl hv w)
 have HB0:=hid ((((Below.refl w.heap.size w).alloc (le_refl _) (.cells x.val 35)).alloc (by simp) (.cells #[.int .i64 a.1,.int .i64 a.2.1,.int .i64 a.2.2] 30)).alloc (by simp;omega) (.cells #[.int .i64 b.1,.int .i64 b.2.1,.int .i64 b.2.2] 30))
 have hb3:Below (w.heap.size+2) ((w.alloc (.cells x.val 35)).alloc (.cells #[.int .i64 a.1,.int .i64 a.2.1,.int .i64 a.2.2] 30)) (((w.alloc (.cells x.val 35)).alloc (.cells #[.int .i64 a.1,.int .i64 a.2.1,.int .i64 a.2.2] 30)).alloc (.cells #[.int .i64 b.1,.int .i64 b.2.1,.int .i64 b.2.2] 30)):=(Below.refl _ _).alloc (by simp) _
 have hb2:Below (w.heap.size+1) (w.alloc (.cells x.val 35)) (((w.alloc (.cells x.val 35)).alloc (.cells #[.int .i64 a.1,.int .i64 a.2.1,.int .i64 a.2.2] 30)).alloc (.cells #[.int .i64 b.1,.int .i64 b.2.1,.int .i64 b.2.2] 30)):=((Below.refl _ _).alloc (by simp) _).trans (hb3.mono (by omega))
 have HN:=hid ((NdAt.new x 35 w).below (lt_succ_self _) hb2)
 have q2:=TriAt.new a 30 (w.alloc (.cells x.val 35))
 have q3:=TriAt.new b 30 ((w.alloc (.cells x.val 35)).alloc (.cells #[.int .i64 a.1,.int .i64 a.2.1,.int .i64 a.2.2] 30))
 simp only [World.size_alloc] at q2 q3
 have HA:=hid (q2.below (lt_succ_self _) hb3)
 have HB:=hid q3
 have HSZ:Hid (w.heap.size+3≤(((w.alloc (.cells x.val 35)).alloc (.cells #[.int .i64 a.1,.int .i64 a.2.1,.int .i64 a.2.2] 30)).alloc (.cells #[.int .i64 b.1,.int .i64 b.2.1,.int .i64 b.2.2] 30)).heap.size):=hid (by simp)
 clear q2 q3 hb2 hb3 hv
 have hel:=(za5 (zax he)).1
 have hbd:=(za5 (zax he)).2
 rw [he] at CS
 rw [hs] at hel hbd ⊢
 have CE:=hid (fun w:World=>zah u0 u1 u2 (elT (u0,u1,u2)) rfl w)
 generalize elT (u0,u1,u2)=m at CE hel hbd ⊢
 have d1:(x.kd == 1)=false:=by simp [k1]
 have d2:(x.kd == 2)=false:=by simp [k2]
 have d4:(x.kd == 4)=false:=by simp [k4]
 have d5:(x.kd == 5)=false:=by simp [k5]
 have d3:(x.kd == 3)=false:=by simp [k3]
 clear hs he hel hbd
 go_enter Tryd.func12,Tryd.ntmps12
 go_upto_region 1 with fail
 generalize ((w.alloc (.cells x.val 35)).alloc (.cells #[.int .i64 a.1,.int .i64 a.2.1,.int .i64 a.2.2] 30)).alloc (.cells #[.int .i64 b.1,.int .i64 b.2.1,.int .i64 b.2.2] 30)=W0 at HN HA HB HB0 HSZ ⊢
 obtain⟨a0,a1,a2⟩:=HA.out
 obtain⟨b0,b1,b2⟩:=HB.out
 go_wp2_with (first
  | (refine zal rfl _ rfl w.heap.size x rfl HN.out ?_)
  | (go_at_call 25
     refine (CS.out _).mono ?_
     rintro e w1 ⟨rfl,hb⟩
     have HB1:=hid (HB0.out.trans (hb.mono HB0.out.size))
     replace HN:=hid (HN.out.below (B:=W0.heap.size) (by have:=HSZ.out;omega) hb)
     replace HA:=hid (HA.out.below (B':=W0.heap.size) (by have:=HSZ.out;omega) hb)
     have HS1:=hid (Nat.le_trans HSZ.out hb.size)
     clear hb a0 a1 a2 b0 b1 b2 HB HSZ)
  | (go_at_call 21
     with_reducible refine (CE.out _).mono ?_
     rintro e w2 ⟨rfl,hb⟩
     have hh:Below w1.heap.size w1 w2:=((Below.refl _ _).alloc (le_refl _) _).trans (hb.mono (by simp))
     have HB2:=hid (HB1.out.trans (hh.mono HB1.out.size))
     replace HN:=hid (HN.out.below (B:=w1.heap.size) (by have:=HS1.out;omega) hh)
     replace HA:=hid (HA.out.below (B':=w1.heap.size) (by have:=HS1.out;omega) hh)
     have c0:=HN.out.at 0 _ rfl
     have c3:=HN.out.at 3 _ rfl
     obtain⟨a0,a1,a2⟩:=HA.out
     clear hb hh))
 go_ret
 exact⟨rfl,HB2.out⟩
theorem rnode_to (x:Nd) (a b:Tri) (w:World) :
  Calls Tryd.prog 12 #[.agg x.val,.agg #[.int .i64 a.1,.int .i64 a.2.1,.int .i64 a.2.2],.agg #[.int .i64 b.1,.int .i64 b.2.1,.int .i64 b.2.2]] w fun e w'=>e=.returned (.int .i64 (costZ x a b))∧Below w.heap.size w w':=by
 rcases cost_ways x a b with ⟨h,e⟩ | ⟨h,k,e⟩ | ⟨h, -,k | k | k,e⟩ | ⟨h,k,e⟩ | ⟨h,k1,k2,k3,k4,k5,e⟩ <;> rw [e]
 ·exact rnode_no x a b h w
 ·exact rnode_1 x a b h k w
 ·exact rnode_2 x a b h k w
 ·exact rnode_4 x a b h k w
 ·exact rnode_5 x a b h k w
 ·exact rnode_3 x a b h k w
 ·exact rnode_9 x a b h k1 k2 k3 k4 k5 w
end CCost
end
end Go.Proofs.YtjhlkmnpfibgaaaDoor
