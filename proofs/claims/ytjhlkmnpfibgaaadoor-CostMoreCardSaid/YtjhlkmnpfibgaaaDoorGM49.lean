/- -/
import Derived.Test.YtjhlkmnpfibgaaaDoorGM48
open Nat (le_refl lt_of_succ_lt lt_succ_self)
set_option linter.unusedVariables false
set_option linter.unusedSimpArgs false
set_option maxRecDepth 100000
set_option maxHeartbeats 16000000
namespace Go.Proofs.YtjhlkmnpfibgaaaDoor
namespace CConv
end CConv
namespace CDense
end CDense
namespace CFix
end CFix
namespace CGraph
end CGraph
namespace CKind
end CKind
namespace CSat
end CSat
namespace CShape
end CShape
namespace CTensor
end CTensor
open Go Go.ChangeShapes Go.WideShapes Go.ChangeAt Go.RowKit Go.Deep
section
namespace CCost
open Plain CSat CFix CShape CTensor CConv CKind CGraph CDense CBund
def flatN (n:Nat):Nd:=⟨9,(n:Int),0,0,0,0,0,0,0,none,0,0,none,0,0,0,0,0,0,0,0,0,0⟩
def addF (X:Nat→Nd) (n:Nat) (j:Nat):Nd:=if j < n then X j else flatN n
theorem addF_lt {X:Nat→Nd} {n j:Nat} (h:j < n):addF X n j=X j:=if_pos h
theorem addF_at {X:Nat→Nd} {n:Nat} : addF X n n=flatN n:=if_neg (Nat.lt_irrefl _)
theorem flatN_small (n:Nat):(flatN n).Small:=nd9_small
theorem flatN_check (n:Nat):(flatN n).checkZ=0:=rfl
theorem addF_small {X:Nat→Nd} {n:Nat} (h:∀ j,j < n→(X j).Small):∀ j,j < n+1→(addF X n j).Small:=fun j _=>by
 unfold addF
 split
 ·rename_i hj;exact h j hj
 ·exact flatN_small n
theorem shL_congr {X Y:Nat→Nd} {t0:Tri} : ∀ {n:Nat},(∀ j,j < n→X j=Y j)→shL X t0 n=shL Y t0 n
 | 0,_=>rfl
 | n+1,h=>by rw [shL,shL,shL_congr (fun j hj=>h j (by omega)),h n (by omega)]
theorem stopAt_congr {X Y:Nat→Nd} {t0:Tri} : ∀ {n:Nat},(∀ j,j < n→X j=Y j)→zaq X t0 n=zaq Y t0 n
 | 0,_=>rfl
 | n+1,h=>by rw [zaq,zaq,stopAt_congr (fun j hj=>h j (by omega)),h n (by omega),shL_congr (fun j hj=>h j (by omega))]
theorem flat_shE (n:Nat) (a b:Tri) (h:zaa a.1 a.2.1 a.2.2=true):(flatN n).shE a.1 a.2.1 a.2.2 b.1 b.2.1 b.2.2=0:=by
 unfold Nd.shE
 rw [if_neg (show ¬ (flatN n).kd=1 from (by decide:¬ (9:Int)=1)),if_neg (show ¬ (flatN n).kd=2 from (by decide:¬ (9:Int)=2)),if_neg (show ¬ (flatN n).kd=3 from (by decide:¬ (9:Int)=3)),if_neg (show ¬ ((flatN n).kd=4∨(flatN n).kd=5) from (by decide:¬ ((9:Int)=4∨(9:Int)=5))),
  if_neg (show ¬ ((flatN n).kd < 1∨9 < (flatN n).kd) from (by decide:¬ ((9:Int) < 1∨(9:Int) < 9))),if_neg (by rw [h];decide),if_neg (show ¬ ((flatN n).kd=6∧_) from fun h=>absurd h.1 (by decide:¬ (9:Int)=6)),if_neg (show ¬ (flatN n).kd=8 from (by decide:¬ (9:Int)=8))]
theorem at_right {X:Nat→Nd} {t0:Tri} {n k:Nat} (h:outS X t0 n=none) (hk:k≤n):zaa ((shL X t0 n).getD k tri0).1 ((shL X t0 n).getD k tri0).2.1 ((shL X t0 n).getD k tri0).2.2=true:=by
 obtain⟨h1,h2⟩:=outS_ok h
 refine shL_right h1 h2 _ ?_
 rw [List.getD_eq_getElem?_getD,List.getElem?_eq_getElem (by rw [shL_len];omega)]
 exact List.getElem_mem _
theorem flat_stop {X:Nat→Nd} {t0:Tri} {n:Nat} (h:outS X t0 n=none):stopZ (flatN n) (shL X t0 n)=0:=by
 unfold stopZ
 have ht:thereB (flatN n) (shL X t0 n).length=true:=by
  unfold thereB
  rw [shL_len]
  exact decide_eq_true ⟨Int.natCast_nonneg n,(by show (n:Int) < ((n+1:Nat):Int);omega),fun h6=>absurd (show (9:Int)=6 from h6) (by decide)⟩
 rw [if_neg (by rw [flatN_check];omega),if_neg (by rw [ht];decide)]
 exact flat_shE n _ _ (at_right h (by show (n:Int).toNat≤n;omega))
theorem more_out {X:Nat→Nd} {t0:Tri} {n:Nat} (h:outS X t0 n=none) (hn:n≤7):outS (addF X n) t0 (n+1)=none:=by
 have h0:=h
 have hc:zaq (addF X n) t0 n=zaq X t0 n:=stopAt_congr fun j hj=>addF_lt hj
 have hl:shL (addF X n) t0 n=shL X t0 n:=shL_congr fun j hj=>addF_lt hj
 unfold outS at h ⊢
 by_cases h1:zaa t0.1 t0.2.1 t0.2.2=false
 ·rw [if_pos h1] at h;cases h
 ·rw [if_neg h1] at h ⊢
  rw [if_neg (by omega),if_neg (by omega)]
  split at h
  ·cases h
  ·split at h
   ·cases h
   ·have hs:zaq X t0 n=none:=by
     cases e:zaq X t0 n with
     | none=>rfl
     | some r=>rw [e] at h;cases h
    rw [stopAt_go (by rw [hc];exact hs) (by rw [addF_at,hl];exact flat_stop h0)]
    rfl
theorem getD_app {α:Type} (l:List α) (z d:α) {k:Nat} (hk:k < l.length):(l ++ [z]).getD k d=l.getD k d:=by
 simp only [List.getD_eq_getElem?_getD]
 rw [List.getElem?_append_left hk]
theorem costN_ext {X:Nat→Nd} {t0:Tri} {n:Nat} (h:outS X t0 n=none) (z:Tri):∀ k,k≤n→costN (addF X n) (shL X t0 n ++ [z]) k=costN X (shL X t0 n) k
 | 0,_=>rfl
 | k+1,hk=>by
   obtain⟨-,⟨a0,a1⟩,⟨b0,b1⟩⟩:=ops_in h (i:=k) (by omega)
   rw [costN,costN,costN_ext h z k (by omega),addF_lt (by omega),getD_app _ _ _ (by rw [shL_len];omega),getD_app _ _ _ (by rw [shL_len];omega)]
theorem more_cost {X:Nat→Nd} {t0:Tri} {n:Nat} (h:outS X t0 n=none) (hn:n≤7) (ex:Bool) (cl:Int) :
  1≤blkZ X t0 n ex cl∧blkZ X t0 n false cl≤blkZ X t0 n ex cl∧blkZ X t0 n false cl < blkZ (addF X n) t0 (n+1) false cl:=by
 have c1:=costN_bd X (shL X t0 n) n
 have q:=clZ_bd cl
 have hb:=za7 (at_right h (le_refl n))
 have hm:0≤clZ cl * (elT ((shL X t0 n).getD n tri0)+1):=Int.mul_nonneg (by omega) (by omega)
 have hl:shL (addF X n) t0 (n+1)=shL X t0 n ++ [nextT (flatN n) (shL X t0 n)]:=by
  rw [shL,shL_congr (Y:=X) (fun j hj=>addF_lt hj),addF_at]
 have hg:blkZ (addF X n) t0 (n+1) false cl=costN X (shL X t0 n) n+costZ (flatN n) ((shL X t0 n ++ [nextT (flatN n) (shL X t0 n)]).getD n tri0) ((shL X t0 n ++ [nextT (flatN n) (shL X t0 n)]).getD (sndZ (flatN n)).toNat tri0)+0:=by
  unfold blkZ
  rw [hl,costN,costN_ext h _ n (le_refl n),addF_at]
  rfl
 have hz:eZ (flatN n) ((shL X t0 n ++ [nextT (flatN n) (shL X t0 n)]).getD n tri0) ((shL X t0 n ++ [nextT (flatN n) (shL X t0 n)]).getD (sndZ (flatN n)).toNat tri0)=0:=by
  unfold eZ
  rw [getD_app _ _ _ (by rw [shL_len];omega)]
  exact flat_shE n _ _ (at_right h (le_refl n))
 have hf:=(cost_bd hz).1
 rw [hg]
 unfold blkZ
 cases ex
 ·simp only [Bool.false_eq_true,if_false];omega
 ·simp only [Bool.false_eq_true,if_false,if_true];omega
/-! ### a row of nodes -/
def ndV (Y:Nat→Nd):Nat→List Value
 | 0=>[]
 | k+1=>ndV Y k ++ (Y k).val.toList
theorem val_len (x:Nd):x.val.toList.length=19:=rfl
theorem zbb (Y:Nat→Nd):∀ k,(ndV Y k).length=k * 19
 | 0=>rfl
 | k+1=>by rw [ndV,List.length_append,zbb Y k,val_len];omega
theorem ndV_get (Y:Nat→Nd):∀ n k q v,k < n→(Y k).val.toList[q]?=some v→(ndV Y n)[k * 19+q]?=some v
 | 0,_,_,_,h,_=>absurd h (Nat.not_lt_zero _)
 | n+1,k,q,v,h,hv=>by
   have hq:q < 19:=by have:=(List.getElem?_eq_some_iff.1 hv).1;rwa [val_len] at this
   rw [ndV]
   by_cases hk:k < n
   ·rw [List.getElem?_append_left (by rw [zbb];omega)];exact ndV_get Y n k q v hk hv
   ·obtain rfl:k=n:=by omega
    rw [List.getElem?_append_right (by rw [zbb];omega),zbb,show k * 19+q - k * 19=q by omega];exact hv
theorem ndV_inv (Y:Nat→Nd):∀ n j v,(ndV Y n)[j]?=some v→j / 19 < n∧(Y (j / 19)).val.toList[j % 19]?=some v
 | 0,j,v,h=>by simp [ndV] at h
 | n+1,j,v,h=>by
   rw [ndV] at h
   by_cases hj:j < n * 19
   ·rw [List.getElem?_append_left (by rw [zbb];omega)] at h
    obtain⟨h1,h2⟩:=ndV_inv Y n j v h
    exact⟨by omega,h2⟩
   ·rw [List.getElem?_append_right (by rw [zbb];omega),zbb] at h
    have h3:=(List.getElem?_eq_some_iff.1 h).1
    rw [val_len] at h3
    have e1:j / 19=n:=by omega
    have e2:j % 19=j - n * 19:=by omega
    rw [e1,e2]
    exact⟨by omega,h⟩
theorem ndV_congr {X Y:Nat→Nd} : ∀ {n:Nat},(∀ j,j < n→X j=Y j)→ndV X n=ndV Y n
 | 0,_=>rfl
 | n+1,h=>by rw [ndV,ndV,ndV_congr (fun j hj=>h j (by omega)),h n (by omega)]
theorem nodes_row {w:World} {B:Nat} {A:Option Addr} {n:Nat} {Y:Nat→Nd} (h:Kit.Rd w B A (ndV Y n)):NodesAt w B A n Y:=fun j hj=>by
 obtain⟨b,o,e,hb,hc⟩:=h.plain (by rw [zbb];omega)
 exact⟨b,o,e,hb,fun q v hq=>by rw [Nat.add_assoc];exact hc (j * 19+q) v (ndV_get Y n j q v hj hq)⟩
theorem row_nodes {w:World} {B:Nat} {A:Option Addr} {n:Nat} {Y:Nat→Nd} (h:NodesAt w B A n Y):Kit.Rd w B A (ndV Y n):=fun j v hv=>by
 obtain⟨h1,h2⟩:=ndV_inv Y n j v hv
 obtain⟨b,o,e,hb,hr⟩:=h _ h1
 refine⟨⟨b,o,none⟩,e,hb,?_⟩
 have h3:=hr _ _ h2
 rw [Go.WideShapes.add_plain]
 rw [show o+j=o+j / 19 * 19+j % 19 by omega]
 exact h3
theorem info_nd19:(Tryd.prog.info? 35).map (fun i=>(i.zero,i.size,i.bytes))=some (some (.agg nd0.val),19,168):=by kernel_rfl
theorem nd_ones (x:Nd):∀ u∈x.val.toList,u.oneCell'=true:=by
 intro u hu
 simp [Nd.val] at hu
 rcases hu with rfl | rfl | rfl | rfl | rfl | rfl | rfl | rfl | rfl | rfl | rfl | rfl | rfl | rfl | rfl | rfl | rfl | rfl | rfl <;> rfl
theorem ndV_ones (Y:Nat→Nd):∀ n,∀ u∈ndV Y n,u.oneCell'=true
 | 0,u,h=>by simp [ndV] at h
 | n+1,u,h=>by
   rw [ndV,List.mem_append] at h
   rcases h with h | h
   ·exact ndV_ones Y n u h
   ·exact nd_ones _ u h
theorem rd_kept {w w':World} {g B:Nat} {xs:List Value} {row:Option Nat} (h:Kit.Rd w B (some ⟨g,0,none⟩) xs) (hg:w.grownBy w' row) (hne:some g≠row):Kit.Rd w' B (some ⟨g,0,none⟩) xs:=fun j u hu=>by
 obtain⟨ad,e,hb,hc⟩:=h j u hu
 cases e
 have hlt:=Kit.block_lt hc
 rw [Kit.add_block] at hlt
 exact⟨_,rfl,hb,(World.cell?_of_block (hg.block _ (by rw [Kit.add_block];exact hlt) (by rw [Kit.add_block];exact hne))).trans hc⟩
end CCost
end
end Go.Proofs.YtjhlkmnpfibgaaaDoor
