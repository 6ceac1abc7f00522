/- -/
import Derived.Test.YtceehogkckdbkaaDoorGF11
import Derived.Test.YtceehogkckdbkaaDoorGF12
import Derived.Test.YtceehogkckdbkaaDoorGF13
open Go.Lib (hid)
open Nat (le_refl lt_of_succ_lt lt_succ_self)
set_option linter.unusedVariables false
set_option linter.unusedSimpArgs false
set_option maxRecDepth 100000
set_option maxHeartbeats 16000000
namespace Go.Proofs.YtceehogkckdbkaaDoor
namespace CConv
end CConv
namespace CDense
end CDense
namespace CDepth
end CDepth
namespace CFix
end CFix
namespace CGraph
end CGraph
namespace CKind
end CKind
namespace CSat
end CSat
namespace CShape
end CShape
namespace CTensor
end CTensor
namespace Kit
end Kit
open Go Go.ChangeShapes Go.WideShapes Go.ChangeAt Go.RowKit Go.Deep
section
namespace CKind
open Plain CSat CShape CTensor CConv
theorem zbg (a b c x y z:Int) (w:World):(Op.equalIn 10000 27 (.agg #[.int .i32 a,.int .i64 b,.int .i8 c]) (.agg #[.int .i32 x,.int .i64 y,.int .i8 z])).run Tryd.prog w=.ok (a == x && (b == y && c == z)) w:=by
 have u1:=Tryd.underlying21
 have a1:=Tryd.isAgg21
 have z1:=Tryd.sizeOf21
 have u2:=Tryd.underlying23
 have a2:=Tryd.isAgg23
 have z2:=Tryd.sizeOf23
 have u3:=Tryd.underlying3
 have a3:=Tryd.isAgg3
 have z3:=Tryd.sizeOf3
 have hS:Tryd.prog.underlying 27=some (.struct (Tryd.prog.fieldsOf 27)):=by kernel_rfl
 rw [show (10000:Nat)=9999+1 from rfl,run_equalIn_agg w 9999 27 _ _ hS Tryd.stoodInHeld27]
 simp only [Program.fieldsOf,Tryd.underlying27]
 go_simp
 by_cases h1:a=x <;> by_cases h2:b=y <;> by_cases h3:c=z <;> simp [h1,h2,h3]
end CKind
end
section
namespace CKind
open Plain CSat CFix CShape CTensor CConv
def zah (w:World):Prop:=∀ n:Nat,n < 10→w.cell? ⟨0,n,none⟩=some (.string (kname n))
theorem zah.size {w:World} (h:zah w):0 < w.heap.size:=by
 have h0:=h 0 (by decide)
 unfold World.cell? at h0
 rcases Nat.lt_or_ge 0 w.heap.size with hlt | hge
 ·exact hlt
 ·rw [show w.heap[(⟨0,0,none⟩:Addr).block]?=none from Array.getElem?_eq_none hge] at h0
  cases h0
theorem zah.below {w w':World} {n:Nat} (h:zah w) (hb:Below n w w') (hn:0 < n):zah w':=fun j hj=>(hb.cell (p:=⟨0,j,none⟩) hn).trans (h j hj)
theorem zah.grown {w w':World} (h:zah w) (hb:Below w.heap.size w w'):zah w':=h.below hb h.size
theorem name_to (k:Int) (w:World) (hT:zah w):Calls Tryd.prog 80 #[.int .i64 k] w fun e w'=>e=.returned (.string (kname k))∧w=w':=by
 by_cases h:k < 0∨9 < k
 ·have HK:=hid (kname_no (k:=k) (by omega))
  rcases h with h | h
  ·go_enter Tryd.func80,Tryd.ntmps80
   go_wp2_with fail
   go_ret
   exact⟨by rw [HK.out];rfl,rfl⟩
  ·have h2:¬ k < 0:=by omega
   have h3:(10:Int)≤k:=by omega
   go_enter Tryd.func80,Tryd.ntmps80
   go_wp2_with fail
   go_ret
   exact⟨by rw [HK.out];rfl,rfl⟩
 ·obtain⟨n,rfl⟩:∃ n:Nat,k=(n:Int):=⟨k.toNat,by omega⟩
  have h9:n < 10:=by omega
  have hc:=hT n h9
  obtain⟨s,hs⟩:∃ s,kname (n:Int)=s:=⟨_,rfl⟩
  rw [hs] at hc ⊢
  have h0:¬ (n:Int) < 0:=by omega
  have h10:¬ (10:Int)≤(n:Int):=by omega
  have h11:(n:Int) < 10:=by omega
  clear hs hT h
  go_enter Tryd.func80,Tryd.ntmps80
  go_wp2_with fail
  go_ret
  exact⟨rfl,rfl⟩
def knownB (k:Int):Bool:=decide (1≤k∧k≤9)
theorem kname_ne (k:Int):(kname k).toList.isEmpty = !knownB k:=by
 rw [ByteArray.toList_eq]
 by_cases h:k < 1∨9 < k
 ·rw [kname_no h,show knownB k=false from decide_eq_false (by omega)];decide
 ·have:k=1∨k=2∨k=3∨k=4∨k=5∨k=6∨k=7∨k=8∨k=9:=by omega
  rcases this with rfl | rfl | rfl | rfl | rfl | rfl | rfl | rfl | rfl <;> decide
theorem known_to (k:Int) (w:World) (hT:zah w):Calls Tryd.prog 45 #[.int .i64 k] w fun e w'=>e=.returned (.bool (knownB k))∧w=w':=by
 have HN:=hid (name_to k w hT)
 have hne:=kname_ne k
 clear hT
 obtain⟨s,hs⟩:∃ s,kname k=s:=⟨_,rfl⟩
 rw [hs] at HN hne
 clear hs
 cases hb:knownB k
 all_goals
  rw [hb] at hne
  simp only [Bool.not_false,Bool.not_true] at hne
  clear hb
  go_enter Tryd.func45,Tryd.ntmps45
  go_wp2_with (go_at_call 80;(with_reducible refine HN.out.mono ?_);rintro e w1 ⟨rfl,rfl⟩)
  go_ret
  exact⟨rfl,rfl⟩
theorem sums_to (k:Int) (w:World):Calls Tryd.prog 82 #[.int .i64 k] w fun e w'=>e=.returned (.bool (sumsB k))∧w=w':=by
 go_enter Tryd.func82,Tryd.ntmps82
 go_wp2_with fail
 all_goals go_ret
 all_goals exact⟨by simp_all [sumsB],rfl⟩
theorem scaled_to (k:Int) (w:World):Calls Tryd.prog 48 #[.int .i64 k] w fun e w'=>e=.returned (.bool (zac k))∧w=w':=by
 have HS:=hid (sums_to k)
 obtain⟨b,hb⟩:∃ b,sumsB k=b:=⟨_,rfl⟩
 have HZ:Hid (zac k=(b || k == 6 || k == 7)):=hid (by rw [← hb];rfl)
 rw [hb] at HS
 clear hb
 cases b
 all_goals
  go_enter Tryd.func48,Tryd.ntmps48
  go_wp2_with (go_at_call 82;(with_reducible refine (HS.out _).mono ?_);rintro e w1 ⟨rfl,rfl⟩)
  all_goals go_ret
  all_goals exact⟨by rw [HZ.out];simp_all,rfl⟩
end CKind
end
section
namespace CKind
open Plain CSat CShape CTensor CConv
theorem own_to (x:Nd) (h:1≤x.kd∧x.kd≤9) (w:World) :
  Calls Tryd.prog 47 #[.agg x.val] w fun e w'=>e=.returned (.agg (x.ownK x.kd).val)∧Below w.heap.size w w':=by
 have:x.kd=1∨x.kd=2∨x.kd=3∨x.kd=4∨x.kd=5∨x.kd=6∨x.kd=7∨x.kd=8∨x.kd=9:=by omega
 rcases this with h | h | h | h | h | h | h | h | h
 ·rw [h];exact own_1 x h w
 ·rw [h];exact own_2 x h w
 ·rw [h];exact own_3 x h w
 ·rw [h];exact own_4 x h w
 ·rw [h];exact own_5 x h w
 ·rw [h];exact own_6 x h w
 ·rw [h];exact own_7 x h w
 ·rw [h];exact own_8 x h w
 ·rw [h];exact own_9 x h w
end CKind
end
section
namespace CGraph
open Plain CSat CFix CShape CTensor CConv CDense CDepth CKind
def sndZ (x:Nd):Int:=if x.kd=6 then x.nb else x.na
def zbb (x:Nd) (many:Nat):Bool:=decide (0≤x.na∧x.na < many∧(x.kd=6→0≤x.nb∧x.nb < many))
theorem za5.below {w w':World} {B:Nat} {A:Option Addr} {n:Nat} {X:Nat→Nd} (h:za5 w B A n X) (hb:Below B w w'):za5 w' B A n X:=fun j hj=>by
 obtain⟨b,o,e,h1,h2⟩:=h j hj
 exact⟨b,o,e,h1,fun q v hq=>(hb.cell (p:=⟨b,o+j * 19+q,none⟩) h1).trans (h2 q v hq)⟩
theorem za5.more {w:World} {B B':Nat} {A:Option Addr} {n:Nat} {X:Nat→Nd} (h:za5 w B A n X) (hb:B≤B'):za5 w B' A n X:=fun j hj=>by
 obtain⟨b,o,e,h1,h2⟩:=h j hj
 exact⟨b,o,e,Nat.lt_of_lt_of_le h1 hb,h2⟩
end CGraph
end
section
namespace CBund
open Kit CKind CGraph
theorem NdOk.below {w w':World} {B:Nat} {x:Nd} (h:NdOk w B x) (hb:Below B w w'):NdOk w' B x:=by
 obtain⟨h1,h2,h3,h4,h5,h6,⟨zs,a1,a2,a3,a4,a5⟩,⟨ys,b1,b2,b3,b4,b5⟩⟩:=h
 exact⟨h1,h2,h3,h4,h5,h6,⟨zs,a1,a2,a3,a4,a5.below hb⟩,⟨ys,b1,b2,b3,b4,b5.below hb⟩⟩
theorem NdOk.more {w:World} {B B':Nat} {x:Nd} (h:NdOk w B x) (hB:B≤B'):NdOk w B' x:=by
 obtain⟨h1,h2,h3,h4,h5,h6,⟨zs,a1,a2,a3,a4,a5⟩,⟨ys,b1,b2,b3,b4,b5⟩⟩:=h
 exact⟨h1,h2,h3,h4,h5,h6,⟨zs,a1,a2,a3,a4,a5.more hB⟩,⟨ys,b1,b2,b3,b4,b5.more hB⟩⟩
end CBund
end
end Go.Proofs.YtceehogkckdbkaaDoor
