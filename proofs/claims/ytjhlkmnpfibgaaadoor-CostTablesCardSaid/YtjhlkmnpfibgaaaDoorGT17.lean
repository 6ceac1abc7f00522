/- -/
import Derived.Test.YtjhlkmnpfibgaaaDoorGT15
import Derived.Test.YtjhlkmnpfibgaaaDoorGT16
open Go.Lib (hid)
open Nat (le_refl lt_of_succ_lt lt_succ_self)
set_option linter.unusedVariables false
set_option linter.unusedSimpArgs false
set_option maxRecDepth 100000
set_option maxHeartbeats 16000000
namespace Go.Proofs.YtjhlkmnpfibgaaaDoor
namespace CConv
end CConv
namespace CSat
end CSat
namespace CTensor
end CTensor
open Go Go.ChangeShapes Go.WideShapes Go.ChangeAt Go.RowKit Go.Deep
section
namespace CKind
open Plain CSat CFix CShape CTensor CConv
def kname (k:Int):ByteArray :=
 if k=1 then ⟨#[99,111,110,118]⟩ else if k=2 then ⟨#[100,101,112,116,104]⟩ else if k=3 then ⟨#[100,101,110,115,101]⟩ else if k=4 then ⟨#[109,97,120,112,111,111,108]⟩ else if k=5 then ⟨#[97,118,103,112,111,111,108]⟩ else if k=6 then ⟨#[106,111,105,110]⟩ else if k=7 then ⟨#[97,99,116]⟩ else if k=8 then ⟨#[112,97,100]⟩ else if k=9 then ⟨#[102,108,97,116]⟩ else ⟨#[]⟩
theorem kname_no {k:Int} (h:k < 1∨9 < k):kname k=⟨#[]⟩:=by
 unfold kname
 simp only [show ¬ k=1 by omega,show ¬ k=2 by omega,show ¬ k=3 by omega,show ¬ k=4 by omega,show ¬ k=5 by omega,show ¬ k=6 by omega,show ¬ k=7 by omega,show ¬ k=8 by omega,show ¬ k=9 by omega,if_false]
theorem refName_to (k:Int) (w:World):Calls Tryd.prog 49 #[.int .i64 k] w fun e w'=>e=.returned (.string (kname k))∧Below w.heap.size w w':=by
 by_cases h:k < 0∨9 < k
 ·have HK:=hid (kname_no (k:=k) (by omega))
  rcases h with h | h
  all_goals
   go_enter Tryd.func49,Tryd.ntmps49
   go_wp2_with fail
   go_ret
   exact⟨by rw [HK.out];rfl,(Below.refl _ _).alloc (le_refl _) _⟩
 ·have:k=0∨k=1∨k=2∨k=3∨k=4∨k=5∨k=6∨k=7∨k=8∨k=9:=by omega
  clear h
  rcases this with rfl | rfl | rfl | rfl | rfl | rfl | rfl | rfl | rfl | rfl
  all_goals
   go_enter Tryd.func49,Tryd.ntmps49
   go_wp2_with fail
   go_ret
   exact⟨rfl,(Below.refl _ _).alloc (le_refl _) _⟩
end CKind
end
section
namespace CKind
open Plain CSat CShape CTensor CConv
theorem zb0 (a b c x y z:Int) (w:World):(Op.equalIn 10000 33 (.agg #[.int .i32 a,.int .i64 b,.int .i8 c]) (.agg #[.int .i32 x,.int .i64 y,.int .i8 z])).run Tryd.prog w=.ok (a == x && (b == y && c == z)) w:=by
 have u1:=Tryd.underlying21
 have a1:=Tryd.isAgg21
 have z1:=Tryd.sizeOf21
 have u2:=Tryd.underlying31
 have a2:=Tryd.isAgg31
 have z2:=Tryd.sizeOf31
 have u3:=Tryd.underlying3
 have a3:=Tryd.isAgg3
 have z3:=Tryd.sizeOf3
 have hS:Tryd.prog.underlying 33=some (.struct (Tryd.prog.fieldsOf 33)):=by kernel_rfl
 rw [show (10000:Nat)=9999+1 from rfl,run_equalIn_agg w 9999 33 _ _ hS Tryd.stoodInHeld33]
 simp only [Program.fieldsOf,Tryd.underlying33]
 go_simp
 by_cases h1:a=x <;> by_cases h2:b=y <;> by_cases h3:c=z <;> simp [h1,h2,h3]
end CKind
end
section
namespace CKind
open Plain CSat CFix CShape CTensor CConv
def zav (w:World):Prop:=∀ n:Nat,n < 10→w.cell? ⟨0,n,none⟩=some (.string (kname n))
theorem zav.size {w:World} (h:zav w):0 < w.heap.size:=by
 have h0:=h 0 (by decide)
 unfold World.cell? at h0
 rcases Nat.lt_or_ge 0 w.heap.size with hlt | hge
 ·exact hlt
 ·rw [show w.heap[(⟨0,0,none⟩:Addr).block]?=none from Array.getElem?_eq_none hge] at h0
  cases h0
theorem zav.below {w w':World} {n:Nat} (h:zav w) (hb:Below n w w') (hn:0 < n):zav w':=fun j hj=>(hb.cell (p:=⟨0,j,none⟩) hn).trans (h j hj)
theorem zav.grown {w w':World} (h:zav w) (hb:Below w.heap.size w w'):zav w':=h.below hb h.size
theorem name_to (k:Int) (w:World) (hT:zav w):Calls Tryd.prog 63 #[.int .i64 k] w fun e w'=>e=.returned (.string (kname k))∧w=w':=by
 by_cases h:k < 0∨9 < k
 ·have HK:=hid (kname_no (k:=k) (by omega))
  rcases h with h | h
  ·go_enter Tryd.func63,Tryd.ntmps63
   go_wp2_with fail
   go_ret
   exact⟨by rw [HK.out];rfl,rfl⟩
  ·have h2:¬ k < 0:=by omega
   have h3:(10:Int)≤k:=by omega
   go_enter Tryd.func63,Tryd.ntmps63
   go_wp2_with fail
   go_ret
   exact⟨by rw [HK.out];rfl,rfl⟩
 ·obtain⟨n,rfl⟩:∃ n:Nat,k=(n:Int):=⟨k.toNat,by omega⟩
  have h9:n < 10:=by omega
  have hc:=hT n h9
  obtain⟨s,hs⟩:∃ s,kname (n:Int)=s:=⟨_,rfl⟩
  rw [hs] at hc ⊢
  have h0:¬ (n:Int) < 0:=by omega
  have h10:¬ (10:Int)≤(n:Int):=by omega
  have h11:(n:Int) < 10:=by omega
  clear hs hT h
  go_enter Tryd.func63,Tryd.ntmps63
  go_wp2_with fail
  go_ret
  exact⟨rfl,rfl⟩
def knownB (k:Int):Bool:=decide (1≤k∧k≤9)
theorem kname_ne (k:Int):(kname k).toList.isEmpty = !knownB k:=by
 rw [ByteArray.toList_eq]
 by_cases h:k < 1∨9 < k
 ·rw [kname_no h,show knownB k=false from decide_eq_false (by omega)];decide
 ·have:k=1∨k=2∨k=3∨k=4∨k=5∨k=6∨k=7∨k=8∨k=9:=by omega
  rcases this with rfl | rfl | rfl | rfl | rfl | rfl | rfl | rfl | rfl <;> decide
theorem known_to (k:Int) (w:World) (hT:zav w):Calls Tryd.prog 56 #[.int .i64 k] w fun e w'=>e=.returned (.bool (knownB k))∧w=w':=by
 have HN:=hid (name_to k w hT)
 have hne:=kname_ne k
 clear hT
 obtain⟨s,hs⟩:∃ s,kname k=s:=⟨_,rfl⟩
 rw [hs] at HN hne
 clear hs
 cases hb:knownB k
 all_goals
  rw [hb] at hne
  simp only [Bool.not_false,Bool.not_true] at hne
  clear hb
  go_enter Tryd.func56,Tryd.ntmps56
  go_wp2_with (go_at_call 63;(with_reducible refine HN.out.mono ?_);rintro e w1 ⟨rfl,rfl⟩)
  go_ret
  exact⟨rfl,rfl⟩
theorem sums_to (k:Int) (w:World):Calls Tryd.prog 65 #[.int .i64 k] w fun e w'=>e=.returned (.bool (sumsB k))∧w=w':=by
 go_enter Tryd.func65,Tryd.ntmps65
 go_wp2_with fail
 all_goals go_ret
 all_goals exact⟨by simp_all [sumsB],rfl⟩
theorem scaled_to (k:Int) (w:World):Calls Tryd.prog 59 #[.int .i64 k] w fun e w'=>e=.returned (.bool (zac k))∧w=w':=by
 have HS:=hid (sums_to k)
 obtain⟨b,hb⟩:∃ b,sumsB k=b:=⟨_,rfl⟩
 have HZ:Hid (zac k=(b || k == 6 || k == 7)):=hid (by rw [← hb];rfl)
 rw [hb] at HS
 clear hb
 cases b
 all_goals
  go_enter Tryd.func59,Tryd.ntmps59
  go_wp2_with (go_at_call 65;(with_reducible refine (HS.out _).mono ?_);rintro e w1 ⟨rfl,rfl⟩)
  all_goals go_ret
  all_goals exact⟨by rw [HZ.out];simp_all,rfl⟩
end CKind
end
section
namespace CKind
open Plain CSat CShape CTensor CConv
theorem own_to (x:Nd) (h:1≤x.kd∧x.kd≤9) (w:World) :
  Calls Tryd.prog 58 #[.agg x.val] w fun e w'=>e=.returned (.agg (x.ownK x.kd).val)∧Below w.heap.size w w':=by
 have:x.kd=1∨x.kd=2∨x.kd=3∨x.kd=4∨x.kd=5∨x.kd=6∨x.kd=7∨x.kd=8∨x.kd=9:=by omega
 rcases this with h | h | h | h | h | h | h | h | h
 ·rw [h];exact own_1 x h w
 ·rw [h];exact own_2 x h w
 ·rw [h];exact own_3 x h w
 ·rw [h];exact own_4 x h w
 ·rw [h];exact own_5 x h w
 ·rw [h];exact own_6 x h w
 ·rw [h];exact own_7 x h w
 ·rw [h];exact own_8 x h w
 ·rw [h];exact own_9 x h w
end CKind
end
end Go.Proofs.YtjhlkmnpfibgaaaDoor
