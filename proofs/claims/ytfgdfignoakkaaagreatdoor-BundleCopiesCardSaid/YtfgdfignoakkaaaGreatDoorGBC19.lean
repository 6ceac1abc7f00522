/- -/
import Derived.Test.YtfgdfignoakkaaaGreatDoorGBC18
open Nat (le_refl lt_of_succ_lt lt_succ_self)
set_option linter.unusedVariables false
set_option linter.unusedSimpArgs false
set_option maxRecDepth 100000
set_option maxHeartbeats 16000000
namespace Go.Proofs.YtfgdfignoakkaaaGreatDoor
namespace CGraph
end CGraph
namespace CKind
end CKind
namespace Kit
end Kit
namespace Plain
end Plain
open Go Go.ChangeShapes Go.WideShapes Go.ChangeAt Go.RowKit Go.Deep
section
namespace CBunM
open Kit Plain CKind CGraph CBund
theorem place_one {s i j q r:Nat} (hq:q < s) (hr:r < s) (h:j * s+r=i * s+q):j=i∧r=q:=by
 have h1:(r+s * j) / s=(q+s * i) / s:=by rw [Nat.mul_comm s j,Nat.mul_comm s i,Nat.add_comm r,Nat.add_comm q,h]
 have hs:0 < s:=by omega
 rw [Nat.add_mul_div_left _ _ hs,Nat.add_mul_div_left _ _ hs,Nat.div_eq_of_lt hq,Nat.div_eq_of_lt hr] at h1
 have:j=i:=by omega
 subst this
 exact⟨rfl,by omega⟩
theorem zab.set {α:Type} {s:Nat} {val:α→List Value} {m:Bool} {w:World} {lo hi n:Nat} {X:Nat→α} {g o:Nat} (hl:∀ a,(val a).length=s) (h:zab s val m w lo hi (some ⟨g,o,none⟩) n X) {i q:Nat} (hi':i < n) (hq:q < s) (v:Value) (y:α)
  (hy:(val (X i)).set q v=val y):zab s val m (w.setCell ⟨g,o+i * s+q,none⟩ v) lo hi (some ⟨g,o,none⟩) n (fun j=>if j=i then y else X j):=fun j hj=>by
 obtain⟨b,o',e,a1,a2,hr,hf⟩:=h j hj
 simp only [Option.some.injEq,Addr.mk.injEq] at e
 obtain⟨rfl,rfl,_⟩:=e
 refine⟨g,o,rfl,a1,a2,fun r u hu=>?_,fun em r hr2=>by rw [World.frozen?_setCell];exact hf em r hr2⟩
 have hrs:r < s:=by
  have:=(List.getElem?_eq_some_iff.1 hu).1
  rwa [hl] at this
 by_cases hji:j=i
 ·subst hji
  dsimp only at hu
  rw [if_pos rfl, ← hy,List.getElem?_set] at hu
  by_cases e:q=r
  ·subst e
   rw [if_pos rfl,if_pos (by rw [hl];exact hq)] at hu
   cases hu
   have h0:=hr q _ (List.getElem?_eq_getElem (by rw [hl];exact hq))
   exact World.cell?_setCell_same' _ _ _ (by rw [h0];rfl)
  ·rw [if_neg e] at hu
   rw [World.cell?_setCell_other _ _ _ _ (fun hh=>by injection hh with h1 h2 h3;exact e (by omega))]
   exact hr r u hu
 ·dsimp only at hu
  rw [if_neg hji] at hu
  rw [World.cell?_setCell_other _ _ _ _ (fun hh=>by
   injection hh with h1 h2 h3
   exact hji (place_one hq hrs (by omega)).1)]
  exact hr r u hu
theorem Kept.setCell {lo hi g o:Nat} {w:World} (v:Value) (h:g < lo∨hi≤g):Kept lo hi w (w.setCell ⟨g,o,none⟩ v):=fun b o' h1 h2 =>
 ⟨World.cell?_setCell_other _ _ _ _ (fun hh=>by injection hh with h3;omega),World.frozen?_setCell _ _ _ _⟩
theorem Kept.trans {lo hi:Nat} {a b c:World} (h:Kept lo hi a b) (k:Kept lo hi b c):Kept lo hi a c:=fun x o h1 h2=>⟨(k x o h1 h2).1.trans (h x o h1 h2).1,(k x o h1 h2).2.trans (h x o h1 h2).2⟩
theorem nd_ones (x:Nd):∀ u∈x.val.toList,u.oneCell'=true:=by
 intro u hu
 simp [Nd.val] at hu
 rcases hu with h | h | h | h | h | h | h | h | h | h | h | h | h | h | h | h | h | h | h <;> subst h <;> rfl
theorem bk_ones (x:Bk):∀ u∈x.val,u.oneCell'=true:=by
 intro u hu
 simp [Bk.val] at hu
 rcases hu with h | h | h | h | h <;> subst h <;> rfl
theorem md_ones (x:Md):∀ u∈x.val,u.oneCell'=true:=by
 intro u hu
 simp [Md.val] at hu
 subst hu
 rfl
def ndW (x:Nd) (A:Option Addr) (n c:Nat):Nd := { x with WA:=A,nW:=n,cW:=c }
def ndB (x:Nd) (A:Option Addr) (n c:Nat):Nd := { x with BA:=A,nB:=n,cB:=c }
theorem ndW_val (x:Nd) (A:Option Addr) (n c:Nat):x.val.toList.set 9 (.slice A n c)=(ndW x A n c).val.toList:=rfl
theorem ndB_val (x:Nd) (A:Option Addr) (n c:Nat):x.val.toList.set 10 (.slice A n c)=(ndB x A n c).val.toList:=rfl
end CBunM
end
end Go.Proofs.YtfgdfignoakkaaaGreatDoor
