/- -/
import Derived.Test.YtdphhfijgckhiaaDoorGQ45
open Nat (le_refl lt_of_succ_lt lt_succ_self)
set_option linter.unusedVariables false
set_option linter.unusedSimpArgs false
set_option maxRecDepth 100000
set_option maxHeartbeats 16000000
namespace Go.Proofs.YtdphhfijgckhiaaDoor
namespace CConv
end CConv
namespace CDense
end CDense
namespace CFix
end CFix
namespace CKind
end CKind
namespace CShape
end CShape
namespace CTensor
end CTensor
open Go Go.ChangeShapes Go.WideShapes Go.ChangeAt Go.RowKit Go.Deep
section
namespace CSlab
open Plain CSat CFix CShape CTensor CConv CKind CGraph CDense
theorem shV_right {x:Nd} {H W C H2 W2 C2:Int} (h:x.shE H W C H2 W2 C2=0):∃ u0 u1 u2,x.shV H W C H2 W2 C2=#[.int .i64 u0,.int .i64 u1,.int .i64 u2]∧zab u0 u1 u2=true:=by
 have hE:=h
 unfold Nd.shE at h
 unfold Nd.shV
 by_cases h1:x.kd=1
 ·rw [if_pos h1] at h ⊢
  unfold convS
  rw [if_pos h]
  exact⟨_,_,_,rfl,(za1 (CConv.convE_ok h).1).2.2.2.2.2⟩
 ·rw [if_neg h1] at h ⊢
  by_cases h2:x.kd=2
  ·rw [if_pos h2] at h ⊢
   unfold CDepth.depthS
   rw [if_pos h]
   refine⟨_,_,_,rfl,?_⟩
   unfold CDepth.depthE at h
   by_cases h3:zan H W C x.K x.S x.P C≠0
   ·rw [if_pos h3] at h;exact absurd h h3
   ·exact (za1 (by omega:zan H W C x.K x.S x.P C=0)).2.2.2.2.2
  ·rw [if_neg h2] at h ⊢
   by_cases h3:x.kd=3
   ·rw [if_pos h3] at h ⊢
    unfold denseS
    rw [if_pos h]
    refine⟨_,_,_,rfl,?_⟩
    unfold denseE at h
    by_cases h4:zab H W C=true∧zab 1 1 x.O=true
    ·exact h4.2
    ·rw [if_neg h4] at h;omega
   ·rw [if_neg h3] at h ⊢
    by_cases h4:x.kd=4∨x.kd=5
    ·rw [if_pos h4] at h ⊢
     unfold zao
     rw [if_pos h]
     exact⟨_,_,_,rfl,(za1 h).2.2.2.2.2⟩
    ·rw [if_neg h4] at h ⊢
     rw [if_neg (by simp [hE])]
     by_cases h5:x.kd < 1∨9 < x.kd
     ·rw [if_pos h5] at h;omega
     ·rw [if_neg h5] at h
      by_cases h6:zab H W C=false
      ·rw [if_pos h6] at h;omega
      ·rw [if_neg h6] at h
       have h6':zab H W C=true:=by simpa using h6
       by_cases h9:x.kd=9
       ·rw [if_pos h9]
        obtain⟨-,q1,q2⟩:=el_pos H W C h6'
        exact⟨_,_,_,rfl,by simp [zab];omega⟩
       ·rw [if_neg h9]
        by_cases h7:x.kd=6∧(H == H2 && (W == W2 && C == C2))=false
        ·rw [if_pos h7] at h;omega
        ·rw [if_neg h7] at h
         by_cases h8:x.kd=8
         ·rw [if_pos h8] at h ⊢
          by_cases hp:x.P < 0∨4 < x.P
          ·rw [if_pos hp] at h;omega
          ·rw [if_neg hp] at h
           by_cases hq:zab (H+2 * x.P) (W+2 * x.P) C=false
           ·rw [if_pos hq] at h;omega
           ·exact⟨_,_,_,rfl,by simpa using hq⟩
         ·rw [if_neg h8]
          exact⟨_,_,_,rfl,h6'⟩
theorem nextT_right {x:Nd} {l:List Tri} (h:nextE x l=0):zab (nextT x l).1 (nextT x l).2.1 (nextT x l).2.2=true:=by
 obtain⟨u0,u1,u2,e,hs⟩:=shV_right h
 unfold nextT
 rw [e,triA_is]
 exact hs
theorem stopZ_ok {x:Nd} {l:List Tri} (h:stopZ x l=0):za9 x l.length=true∧nextE x l=0:=by
 unfold stopZ at h
 by_cases h1:x.checkZ≠0
 ·rw [if_pos h1] at h;exact absurd h h1
 ·rw [if_neg h1] at h
  by_cases h2:za9 x l.length=false
  ·rw [if_pos h2] at h;omega
  ·rw [if_neg h2] at h;exact⟨by simpa using h2,h⟩
theorem stopAt_all {X:Nat→Nd} {t0:Tri} : ∀ {n:Nat},zat X t0 n=none→∀ k,k < n→stopZ (X k) (shL X t0 k)=0
 | 0,_,k,hk=>by omega
 | n+1,h,k,hk=>by
   rw [zat] at h
   cases hs:zat X t0 n with
   | some q=>rw [hs] at h;cases h
   | none =>
     rw [hs] at h
     dsimp only at h
     split at h
     ·rename_i hz
      rcases Nat.lt_succ_iff_lt_or_eq.1 hk with h2 | rfl
      ·exact stopAt_all hs k h2
      ·exact hz
     ·cases h
theorem shL_right {X:Nat→Nd} {t0:Tri} (h0:zab t0.1 t0.2.1 t0.2.2=true):∀ {n:Nat},(∀ k,k < n→stopZ (X k) (shL X t0 k)=0)→∀ a∈shL X t0 n,zab a.1 a.2.1 a.2.2=true
 | 0,_,a,ha=>by simp [shL] at ha;subst ha;exact h0
 | n+1,h,a,ha=>by
   rw [shL,List.mem_append] at ha
   rcases ha with ha | ha
   ·exact shL_right h0 (fun k hk=>h k (by omega)) a ha
   ·simp at ha
    subst ha
    exact nextT_right (stopZ_ok (h n (by omega))).2
theorem outS_ok {X:Nat→Nd} {t0:Tri} {n:Nat} (h:outS X t0 n=none):zab t0.1 t0.2.1 t0.2.2=true∧∀ k,k < n→stopZ (X k) (shL X t0 k)=0:=by
 unfold outS at h
 split at h
 ·cases h
 ·rename_i hs
  split at h
  ·cases h
  ·split at h
   ·cases h
   ·cases hz:zat X t0 n with
    | some r=>rw [hz] at h;cases h
    | none=>exact⟨by simpa using hs,stopAt_all hz⟩
theorem sz_pos {X:Nat→Nd} {t0:Tri} {n k:Nat} (h:outS X t0 n=none) (hk:k < n+1):1≤szF X t0 n k:=by
 obtain⟨h0,h1⟩:=outS_ok h
 have hl:k < (shL X t0 n).length:=by rw [shL_len];exact hk
 have e:=szF_at (List.getElem?_eq_getElem hl)
 rw [← e]
 exact (el_pos _ _ _ (shL_right h0 h1 _ (List.getElem_mem hl))).2.1
theorem ops_in {X:Nat→Nd} {t0:Tri} {n i:Nat} (h:outS X t0 n=none) (hi:i < n):za9 (X i) (i+1)=true∧(0≤(X i).na∧(X i).na≤i)∧(0≤sndZ (X i)∧sndZ (X i)≤i):=by
 have ht:=(stopZ_ok ((outS_ok h).2 i hi)).1
 rw [shL_len] at ht
 refine⟨ht,?_⟩
 unfold za9 at ht
 simp only [decide_eq_true_eq] at ht
 obtain⟨a,b,c⟩:=ht
 refine⟨by omega,?_⟩
 unfold sndZ
 split
 ·rename_i h6
  have:=c h6
  omega
 ·omega
theorem last_ge {X:Nat→Nd} {i v:Nat} (ht:za9 (X i) (i+1)=true) (hv:(X i).na=v∨sndZ (X i)=v):∀ {n:Nat},i < n→(i:Int)+1≤lastN X v n
 | 0,h=>by omega
 | n+1,h=>by
   rw [lastN]
   rcases Nat.lt_succ_iff_lt_or_eq.1 h with h2 | rfl
   ·split
    ·omega
    ·exact last_ge ht hv h2
   ·rw [if_pos ⟨ht,hv⟩];exact Int.le_refl _
theorem apart_num {X:Nat→Nd} {t0:Tri} {n i v:Nat} (h:outS X t0 n=none) (hi:i < n) (hv:(X i).na=v∨sndZ (X i)=v) (hvi:v≤i) :
  ¬ (atF X t0 n v < atF X t0 n (i+1)+szF X t0 n (i+1)∧atF X t0 n (i+1) < atF X t0 n v+szF X t0 n v):=by
 intro ⟨a,b⟩
 have hl:=CArena.plc_least (S:=szF X t0 n) (U:=lastZ X n) (i+1) (fun k _=>(szF_bd X t0 n k).1)
 have hf:=hl.2.1
 have hh:=CArena.fitN_iff.1 hf v (by omega)
 have hu:(i:Int)+1≤lastZ X n v:=by
  unfold lastZ
  rw [if_neg (by omega)]
  exact last_ge (ops_in h hi).1 hv hi
 have s1:=sz_pos h (k:=i+1) (by omega)
 have s2:=sz_pos h (k:=v) (by omega)
 unfold CArena.hitB at hh
 simp only [decide_eq_false_iff_not] at hh
 exact hh ⟨by omega,by omega,by omega,a,b⟩
theorem room_num {X:Nat→Nd} {t0:Tri} {n k:Nat} (hk:k < n+1) (hn:n≤12):0≤atF X t0 n k∧atF X t0 n k+szF X t0 n k≤rmF X t0 n∧atF X t0 n k+szF X t0 n k≤100000000:=by
 have h1:=CArena.plc_bound (S:=szF X t0 n) (U:=lastZ X n) (n:=n+1) (fun k _=>⟨(szF_bd X t0 n k).1,by have:=(szF_bd X t0 n k).2;omega⟩) hk
 have h2:atF X t0 n k+szF X t0 n k≤rmF X t0 n:=CArena.room_end hk
 refine⟨h1.1,h2,?_⟩
 have:((n+1:Nat):Int) * 1048576≤13 * 1048576:=Int.mul_le_mul_of_nonneg_right (by omega) (by omega)
 have h3:atF X t0 n k+szF X t0 n k≤((n+1:Nat):Int) * 1048576:=h1.2
 omega
end CSlab
end
end Go.Proofs.YtdphhfijgckhiaaDoor
