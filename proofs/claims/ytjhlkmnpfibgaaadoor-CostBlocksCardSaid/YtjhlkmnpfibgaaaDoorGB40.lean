/- -/
import Derived.Test.YtjhlkmnpfibgaaaDoorGB39
open Nat (le_refl lt_of_succ_lt lt_succ_self)
set_option linter.unusedVariables false
set_option linter.unusedSimpArgs false
set_option maxRecDepth 100000
set_option maxHeartbeats 16000000
namespace Go.Proofs.YtjhlkmnpfibgaaaDoor
namespace CConv
end CConv
namespace CDense
end CDense
namespace CSat
end CSat
namespace CTensor
end CTensor
open Go Go.ChangeShapes Go.WideShapes Go.ChangeAt Go.RowKit Go.Deep
section
namespace CGraph
open Plain CSat CFix CShape CTensor CConv CKind CDense
theorem shV_right {x:Nd} {H W C H2 W2 C2:Int} (h:x.shE H W C H2 W2 C2=0):∃ u0 u1 u2,x.shV H W C H2 W2 C2=#[.int .i64 u0,.int .i64 u1,.int .i64 u2]∧zae u0 u1 u2=true:=by
 have hE:=h
 unfold Nd.shE at h
 unfold Nd.shV
 by_cases h1:x.kd=1
 ·rw [if_pos h1] at h ⊢
  unfold convS
  rw [if_pos h]
  exact⟨_,_,_,rfl,(za0 (CConv.convE_ok h).1).2.2.2.2.2⟩
 ·rw [if_neg h1] at h ⊢
  by_cases h2:x.kd=2
  ·rw [if_pos h2] at h ⊢
   unfold CDepth.depthS
   rw [if_pos h]
   refine⟨_,_,_,rfl,?_⟩
   unfold CDepth.depthE at h
   by_cases h3:zaq H W C x.K x.S x.P C≠0
   ·rw [if_pos h3] at h;exact absurd h h3
   ·exact (za0 (by omega:zaq H W C x.K x.S x.P C=0)).2.2.2.2.2
  ·rw [if_neg h2] at h ⊢
   by_cases h3:x.kd=3
   ·rw [if_pos h3] at h ⊢
    unfold denseS
    rw [if_pos h]
    refine⟨_,_,_,rfl,?_⟩
    unfold denseE at h
    by_cases h4:zae H W C=true∧zae 1 1 x.O=true
    ·exact h4.2
    ·rw [if_neg h4] at h;omega
   ·rw [if_neg h3] at h ⊢
    by_cases h4:x.kd=4∨x.kd=5
    ·rw [if_pos h4] at h ⊢
     unfold zao
     rw [if_pos h]
     exact⟨_,_,_,rfl,(za0 h).2.2.2.2.2⟩
    ·rw [if_neg h4] at h ⊢
     rw [if_neg (by simp [hE])]
     by_cases h5:x.kd < 1∨9 < x.kd
     ·rw [if_pos h5] at h;omega
     ·rw [if_neg h5] at h
      by_cases h6:zae H W C=false
      ·rw [if_pos h6] at h;omega
      ·rw [if_neg h6] at h
       have h6':zae H W C=true:=by simpa using h6
       by_cases h9:x.kd=9
       ·rw [if_pos h9]
        obtain⟨-,q1,q2⟩:=el_pos H W C h6'
        exact⟨_,_,_,rfl,by simp [zae];omega⟩
       ·rw [if_neg h9]
        by_cases h7:x.kd=6∧(H == H2 && (W == W2 && C == C2))=false
        ·rw [if_pos h7] at h;omega
        ·rw [if_neg h7] at h
         by_cases h8:x.kd=8
         ·rw [if_pos h8] at h ⊢
          by_cases hp:x.P < 0∨4 < x.P
          ·rw [if_pos hp] at h;omega
          ·rw [if_neg hp] at h
           by_cases hq:zae (H+2 * x.P) (W+2 * x.P) C=false
           ·rw [if_pos hq] at h;omega
           ·exact⟨_,_,_,rfl,by simpa using hq⟩
         ·rw [if_neg h8]
          exact⟨_,_,_,rfl,h6'⟩
theorem nextT_right {x:Nd} {l:List Tri} (h:nextE x l=0):zae (nextT x l).1 (nextT x l).2.1 (nextT x l).2.2=true:=by
 obtain⟨u0,u1,u2,e,hs⟩:=shV_right h
 unfold nextT
 rw [e,zbc]
 exact hs
theorem stopZ_ok {x:Nd} {l:List Tri} (h:stopZ x l=0):zbk x l.length=true∧nextE x l=0:=by
 unfold stopZ at h
 by_cases h1:x.checkZ≠0
 ·rw [if_pos h1] at h;exact absurd h h1
 ·rw [if_neg h1] at h
  by_cases h2:zbk x l.length=false
  ·rw [if_pos h2] at h;omega
  ·rw [if_neg h2] at h;exact⟨by simpa using h2,h⟩
theorem stopAt_all {X:Nat→Nd} {t0:Tri} : ∀ {n:Nat},za6 X t0 n=none→∀ k,k < n→stopZ (X k) (shL X t0 k)=0
 | 0,_,k,hk=>by omega
 | n+1,h,k,hk=>by
   rw [za6] at h
   cases hs:za6 X t0 n with
   | some q=>rw [hs] at h;cases h
   | none =>
     rw [hs] at h
     dsimp only at h
     split at h
     ·rename_i hz
      rcases Nat.lt_succ_iff_lt_or_eq.1 hk with h2 | rfl
      ·exact stopAt_all hs k h2
      ·exact hz
     ·cases h
theorem shL_right {X:Nat→Nd} {t0:Tri} (h0:zae t0.1 t0.2.1 t0.2.2=true):∀ {n:Nat},(∀ k,k < n→stopZ (X k) (shL X t0 k)=0)→∀ a∈shL X t0 n,zae a.1 a.2.1 a.2.2=true
 | 0,_,a,ha=>by simp [shL] at ha;subst ha;exact h0
 | n+1,h,a,ha=>by
   rw [shL,List.mem_append] at ha
   rcases ha with ha | ha
   ·exact shL_right h0 (fun k hk=>h k (by omega)) a ha
   ·simp at ha
    subst ha
    exact nextT_right (stopZ_ok (h n (by omega))).2
theorem outS_ok {X:Nat→Nd} {t0:Tri} {n:Nat} (h:outS X t0 n=none):zae t0.1 t0.2.1 t0.2.2=true∧∀ k,k < n→stopZ (X k) (shL X t0 k)=0:=by
 unfold outS at h
 split at h
 ·cases h
 ·rename_i hs
  split at h
  ·cases h
  ·split at h
   ·cases h
   ·cases hz:za6 X t0 n with
    | some r=>rw [hz] at h;cases h
    | none=>exact⟨by simpa using hs,stopAt_all hz⟩
theorem ops_in {X:Nat→Nd} {t0:Tri} {n i:Nat} (h:outS X t0 n=none) (hi:i < n):zbk (X i) (i+1)=true∧(0≤(X i).na∧(X i).na≤i)∧(0≤sndZ (X i)∧sndZ (X i)≤i):=by
 have ht:=(stopZ_ok ((outS_ok h).2 i hi)).1
 rw [shL_len] at ht
 refine⟨ht,?_⟩
 unfold zbk at ht
 simp only [decide_eq_true_eq] at ht
 obtain⟨a,b,c⟩:=ht
 refine⟨by omega,?_⟩
 unfold sndZ
 split
 ·rename_i h6
  have:=c h6
  omega
 ·omega
theorem outS_few {X:Nat→Nd} {t0:Tri} {n:Nat} (h:outS X t0 n=none):1≤n∧n≤8:=by
 unfold outS at h
 split at h
 ·cases h
 ·split at h
  ·cases h
  ·rename_i hn
   split at h
   ·cases h
   ·rename_i hm;omega
end CGraph
end
end Go.Proofs.YtjhlkmnpfibgaaaDoor
