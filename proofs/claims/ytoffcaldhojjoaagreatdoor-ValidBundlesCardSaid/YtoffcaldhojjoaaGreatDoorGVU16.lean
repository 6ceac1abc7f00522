/- -/
import Derived.LaidMore
import Derived.Stop.Joined
import Derived.Test.YtoffcaldhojjoaaGreatDoorGVU11
open Go.Lib (hid)
open Nat (le_refl lt_of_succ_lt lt_succ_self)
set_option linter.unusedVariables false
set_option linter.unusedSimpArgs false
set_option maxRecDepth 100000
set_option maxHeartbeats 16000000
namespace Go.Proofs.YtoffcaldhojjoaaGreatDoor
namespace CConv
end CConv
namespace CFix
end CFix
namespace CSat
end CSat
namespace CTensor
end CTensor
open Go Go.ChangeShapes Go.WideShapes Go.ChangeAt Go.RowKit Go.Deep
section
namespace CKind
open Plain CSat CFix CShape CTensor CConv
theorem rks4 (H W C H2 W2 C2 na nb K S P O Z Y:Int) (WA:Option Addr) (nW cW:Nat) (BA:Option Addr) (nB cB:Nat) (m1 s1 z1 m2 s2 z2 lo hi:Int) (e u0 u1 u2:Int) (he:za1 H W C K S P C=e) (hv:zaw H W C K S P C=#[.int .i64 u0,.int .i64 u1,.int .i64 u2]) (w:World) :
  Calls Tryz.prog 24 #[.agg #[.int .i64 4,.int .i64 na,.int .i64 nb,.int .i64 K,.int .i64 S,.int .i64 P,.int .i64 O,.int .i8 Z,.int .i8 Y,.slice WA nW cW,.slice BA nB cB,.int .i32 m1,.int .i64 s1,.int .i8 z1,.int .i32 m2,.int .i64 s2,.int .i8 z2,.int .i8 lo,.int .i8 hi],.agg #[.int .i64 H,.int .i64 W,.int .i64 C],.agg #[.int .i64 H2,.int .i64 W2,.int .i64 C2]] w fun r w'=>r=.returned (.tuple #[.agg #[.int .i64 u0,.int .i64 u1,.int .i64 u2],.int .i64 e])∧Below w.heap.size w w':=by
 have HE:=hid he
 have HV:=hid hv
 clear he hv
 go_enter Tryz.func24,Tryz.ntmps24
 go_wp2_with (go_at_call 40;(with_reducible refine (za8 H W C K S P C e _ HE.out HV.out _).mono ?_);rintro e1 w1 ⟨rfl,hb⟩;obtain⟨hcc,hff⟩:=Kit.bcell hb;have hz:w.heap.size+4≤w1.heap.size:=(by have:=hb.size;simp at this;omega);have hz3:w.heap.size+3 < w1.heap.size:=(by omega);have hz2:w.heap.size+2 < w1.heap.size:=(by omega);have hz1:w.heap.size+1 < w1.heap.size:=(by omega);have hz0:w.heap.size < w1.heap.size:=(by omega);have HB:=hid hb;clear hb)
 refine bodyPost_ret (Kit.zaa rfl _ _ (w.heap.size+3) 0 [.int .i64 u0,.int .i64 u1,.int .i64 u2] _ rfl (Kit.zaj (by go_cell) (by go_cell) (by go_cell)) Tryz.underlying23 rfl (by kernel_rfl)) rfl ?_
 have hB1:Below w.heap.size w w1:=Below.trans (((((Below.refl _ _).alloc (by first | exact le_refl _ | (simp;done) | (simp;omega) | omega) _).alloc (by first | exact le_refl _ | (simp;done) | (simp;omega) | omega) _).alloc (by first | exact le_refl _ | (simp;done) | (simp;omega) | omega) _).alloc (by first | exact le_refl _ | (simp;done) | (simp;omega) | omega) _) (HB.out.mono (by first | exact le_refl _ | (simp;done) | (simp;omega) | omega))
 exact⟨rfl,(((hB1.setCell (p:=⟨w.heap.size+3,0,none⟩) (Nat.le_add_right _ _) _).setCell (p:=⟨w.heap.size+3,1,none⟩) (Nat.le_add_right _ _) _).setCell (p:=⟨w.heap.size+3,2,none⟩) (Nat.le_add_right _ _) _)⟩
theorem rks5 (H W C H2 W2 C2 na nb K S P O Z Y:Int) (WA:Option Addr) (nW cW:Nat) (BA:Option Addr) (nB cB:Nat) (m1 s1 z1 m2 s2 z2 lo hi:Int) (e u0 u1 u2:Int) (he:za1 H W C K S P C=e) (hv:zaw H W C K S P C=#[.int .i64 u0,.int .i64 u1,.int .i64 u2]) (w:World) :
  Calls Tryz.prog 24 #[.agg #[.int .i64 5,.int .i64 na,.int .i64 nb,.int .i64 K,.int .i64 S,.int .i64 P,.int .i64 O,.int .i8 Z,.int .i8 Y,.slice WA nW cW,.slice BA nB cB,.int .i32 m1,.int .i64 s1,.int .i8 z1,.int .i32 m2,.int .i64 s2,.int .i8 z2,.int .i8 lo,.int .i8 hi],.agg #[.int .i64 H,.int .i64 W,.int .i64 C],.agg #[.int .i64 H2,.int .i64 W2,.int .i64 C2]] w fun r w'=>r=.returned (.tuple #[.agg #[.int .i64 u0,.int .i64 u1,.int .i64 u2],.int .i64 e])∧Below w.heap.size w w':=by
 have HE:=hid he
 have HV:=hid hv
 clear he hv
 go_enter Tryz.func24,Tryz.ntmps24
 go_wp2_with (go_at_call 40;(with_reducible refine (za8 H W C K S P C e _ HE.out HV.out _).mono ?_);rintro e1 w1 ⟨rfl,hb⟩;obtain⟨hcc,hff⟩:=Kit.bcell hb;have hz:w.heap.size+4≤w1.heap.size:=(by have:=hb.size;simp at this;omega);have hz3:w.heap.size+3 < w1.heap.size:=(by omega);have hz2:w.heap.size+2 < w1.heap.size:=(by omega);have hz1:w.heap.size+1 < w1.heap.size:=(by omega);have hz0:w.heap.size < w1.heap.size:=(by omega);have HB:=hid hb;clear hb)
 refine bodyPost_ret (Kit.zaa rfl _ _ (w.heap.size+3) 0 [.int .i64 u0,.int .i64 u1,.int .i64 u2] _ rfl (Kit.zaj (by go_cell) (by go_cell) (by go_cell)) Tryz.underlying23 rfl (by kernel_rfl)) rfl ?_
 have hB1:Below w.heap.size w w1:=Below.trans (((((Below.refl _ _).alloc (by first | exact le_refl _ | (simp;done) | (simp;omega) | omega) _).alloc (by first | exact le_refl _ | (simp;done) | (simp;omega) | omega) _).alloc (by first | exact le_refl _ | (simp;done) | (simp;omega) | omega) _).alloc (by first | exact le_refl _ | (simp;done) | (simp;omega) | omega) _) (HB.out.mono (by first | exact le_refl _ | (simp;done) | (simp;omega) | omega))
 exact⟨rfl,(((hB1.setCell (p:=⟨w.heap.size+3,0,none⟩) (Nat.le_add_right _ _) _).setCell (p:=⟨w.heap.size+3,1,none⟩) (Nat.le_add_right _ _) _).setCell (p:=⟨w.heap.size+3,2,none⟩) (Nat.le_add_right _ _) _)⟩
theorem rks_lo (H W C H2 W2 C2 na nb K S P O Z Y:Int) (WA:Option Addr) (nW cW:Nat) (BA:Option Addr) (nB cB:Nat) (m1 s1 z1 m2 s2 z2 lo hi:Int) (kd:Int) (hk:kd < 1) (w:World) :
  Calls Tryz.prog 24 #[.agg #[.int .i64 kd,.int .i64 na,.int .i64 nb,.int .i64 K,.int .i64 S,.int .i64 P,.int .i64 O,.int .i8 Z,.int .i8 Y,.slice WA nW cW,.slice BA nB cB,.int .i32 m1,.int .i64 s1,.int .i8 z1,.int .i32 m2,.int .i64 s2,.int .i8 z2,.int .i8 lo,.int .i8 hi],.agg #[.int .i64 H,.int .i64 W,.int .i64 C],.agg #[.int .i64 H2,.int .i64 W2,.int .i64 C2]] w fun r w'=>r=.returned (.tuple #[.agg #[.int .i64 0,.int .i64 0,.int .i64 0],.int .i64 6])∧Below w.heap.size w w':=by
 have k1:(kd == 1)=false:=by simp;omega
 have k2:(kd == 2)=false:=by simp;omega
 have k3:(kd == 3)=false:=by simp;omega
 have k4:(kd == 4)=false:=by simp;omega
 have k5:(kd == 5)=false:=by simp;omega
 have kl:decide (kd < 1)=true:=by simpa using hk
 have HK:=hid hk
 clear hk
 go_enter Tryz.func24,Tryz.ntmps24
 go_wp2_with fail
 refine bodyPost_ret (Kit.zaa rfl _ _ (w.heap.size+3) 0 [.int .i64 0,.int .i64 0,.int .i64 0] _ rfl (Kit.zaj (by go_cell) (by go_cell) (by go_cell)) Tryz.underlying23 rfl (by kernel_rfl)) rfl ?_
 have hB1:Below w.heap.size w ((((w.alloc (.cells #[.int .i64 kd,.int .i64 na,.int .i64 nb,.int .i64 K,.int .i64 S,.int .i64 P,.int .i64 O,.int .i8 Z,.int .i8 Y,.slice WA nW cW,.slice BA nB cB,.int .i32 m1,.int .i64 s1,.int .i8 z1,.int .i32 m2,.int .i64 s2,.int .i8 z2,.int .i8 lo,.int .i8 hi] 61)).alloc (.cells #[.int .i64 H,.int .i64 W,.int .i64 C] 23)).alloc (.cells #[.int .i64 H2,.int .i64 W2,.int .i64 C2] 23)).alloc (.cells #[.int .i64 0,.int .i64 0,.int .i64 0] 23)):=((((Below.refl _ _).alloc (by first | exact le_refl _ | (simp;done) | (simp;omega) | omega) _).alloc (by first | exact le_refl _ | (simp;done) | (simp;omega) | omega) _).alloc (by first | exact le_refl _ | (simp;done) | (simp;omega) | omega) _).alloc (by first | exact le_refl _ | (simp;done) | (simp;omega) | omega) _
 exact⟨rfl,hB1⟩
theorem rks_hi (H W C H2 W2 C2 na nb K S P O Z Y:Int) (WA:Option Addr) (nW cW:Nat) (BA:Option Addr) (nB cB:Nat) (m1 s1 z1 m2 s2 z2 lo hi:Int) (kd:Int) (hk:9 < kd) (w:World) :
  Calls Tryz.prog 24 #[.agg #[.int .i64 kd,.int .i64 na,.int .i64 nb,.int .i64 K,.int .i64 S,.int .i64 P,.int .i64 O,.int .i8 Z,.int .i8 Y,.slice WA nW cW,.slice BA nB cB,.int .i32 m1,.int .i64 s1,.int .i8 z1,.int .i32 m2,.int .i64 s2,.int .i8 z2,.int .i8 lo,.int .i8 hi],.agg #[.int .i64 H,.int .i64 W,.int .i64 C],.agg #[.int .i64 H2,.int .i64 W2,.int .i64 C2]] w fun r w'=>r=.returned (.tuple #[.agg #[.int .i64 0,.int .i64 0,.int .i64 0],.int .i64 6])∧Below w.heap.size w w':=by
 have k1:(kd == 1)=false:=by simp;omega
 have k2:(kd == 2)=false:=by simp;omega
 have k3:(kd == 3)=false:=by simp;omega
 have k4:(kd == 4)=false:=by simp;omega
 have k5:(kd == 5)=false:=by simp;omega
 have kl:decide (kd < 1)=false:=by simp;omega
 have kh:decide (9 < kd)=true:=by simpa using hk
 have HK:=hid hk
 clear hk
 go_enter Tryz.func24,Tryz.ntmps24
 go_wp2_with fail
 refine bodyPost_ret (Kit.zaa rfl _ _ (w.heap.size+3) 0 [.int .i64 0,.int .i64 0,.int .i64 0] _ rfl (Kit.zaj (by go_cell) (by go_cell) (by go_cell)) Tryz.underlying23 rfl (by kernel_rfl)) rfl ?_
 have hB1:Below w.heap.size w ((((w.alloc (.cells #[.int .i64 kd,.int .i64 na,.int .i64 nb,.int .i64 K,.int .i64 S,.int .i64 P,.int .i64 O,.int .i8 Z,.int .i8 Y,.slice WA nW cW,.slice BA nB cB,.int .i32 m1,.int .i64 s1,.int .i8 z1,.int .i32 m2,.int .i64 s2,.int .i8 z2,.int .i8 lo,.int .i8 hi] 61)).alloc (.cells #[.int .i64 H,.int .i64 W,.int .i64 C] 23)).alloc (.cells #[.int .i64 H2,.int .i64 W2,.int .i64 C2] 23)).alloc (.cells #[.int .i64 0,.int .i64 0,.int .i64 0] 23)):=((((Below.refl _ _).alloc (by first | exact le_refl _ | (simp;done) | (simp;omega) | omega) _).alloc (by first | exact le_refl _ | (simp;done) | (simp;omega) | omega) _).alloc (by first | exact le_refl _ | (simp;done) | (simp;omega) | omega) _).alloc (by first | exact le_refl _ | (simp;done) | (simp;omega) | omega) _
 exact⟨rfl,hB1⟩
end CKind
end
section
namespace CKind
open Plain CSat CShape CTensor CConv
def Nd.Small (x:Nd):Prop:=(-128≤x.Z∧x.Z≤127)∧(-128≤x.Y∧x.Y≤127)∧(-128≤x.lo∧x.lo≤127)∧(-128≤x.hi∧x.hi≤127)
def Nd.nine (x:Nd):Array Value:=#[.int .i64 x.nb,.int .i64 x.K,.int .i64 x.S,.int .i64 x.P,.int .i64 x.O,.int .i64 x.Z,.int .i64 x.Y,.int .i64 x.lo,.int .i64 x.hi]
theorem there_new9 (w:World) {cs:Array Value} (T:TypeId) {n:Nat} (h:cs.size=n):(w.alloc (.cells cs T)).there w.heap.size 0 n:=fun j hj=>by
 rw [Nat.zero_add]
 constructor
 ·rw [Kit.zal]
  simp [h,hj]
 ·unfold World.frozen?;rw [heap_alloc_new];rfl
theorem setCells_below {g B:Nat} (hg:B≤g):∀ (vs:List Value) (o:Nat) (w:World),Below B w (w.setCells g o vs)
 | [],_,w=>Below.refl _ _
 | v :: vs,o,w=>((Below.refl B w).setCell (p:=⟨g,o,none⟩) hg v).trans (setCells_below hg vs (o+1) _)
theorem numbers_to (x:Nd) (hx:x.Small) (w:World) :
  Calls Tryz.prog 86 #[.agg x.val] w fun e w'=>e=.returned (.agg x.nine)∧Below w.heap.size w w':=by
 obtain⟨⟨z0,z1⟩,⟨y0,y1⟩,⟨l0,l1⟩,⟨h0,h1⟩⟩:=hx
 have i7:IntKind.i64.wrap x.Z=x.Z:=IntWalk.i64_in _ (by omega)
 have i8:IntKind.i64.wrap x.Y=x.Y:=IntWalk.i64_in _ (by omega)
 have i17:IntKind.i64.wrap x.lo=x.lo:=IntWalk.i64_in _ (by omega)
 have i18:IntKind.i64.wrap x.hi=x.hi:=IntWalk.i64_in _ (by omega)
 clear z0 z1 y0 y1 l0 l1 h0 h1
 have TN:=hid (NdAt.new x 61 w)
 go_enter Tryz.func86,Tryz.ntmps86
 go_upto_region 1 with fail
 have hth:=there_new9 (w.alloc (.cells x.val 61)) (cs:=#[.int .i64 0,.int .i64 0,.int .i64 0,.int .i64 0,.int .i64 0,.int .i64 0,.int .i64 0,.int .i64 0,.int .i64 0]) 147 (n:=9) rfl
 rw [World.size_alloc] at hth
 have HT:=hid hth
 clear hth
 replace TN:=hid (TN.out.below (B:=w.heap.size+1) (lt_succ_self _) ((Below.refl _ _).alloc (by simp) (.cells #[.int .i64 0,.int .i64 0,.int .i64 0,.int .i64 0,.int .i64 0,.int .i64 0,.int .i64 0,.int .i64 0,.int .i64 0] 147)))
 have HB:=hid (((Below.refl w.heap.size w).alloc (le_refl _) (.cells x.val 61)).alloc (by simp) (.cells #[.int .i64 0,.int .i64 0,.int .i64 0,.int .i64 0,.int .i64 0,.int .i64 0,.int .i64 0,.int .i64 0,.int .i64 0] 147))
 generalize (w.alloc (.cells x.val 61)).alloc (.cells #[.int .i64 0,.int .i64 0,.int .i64 0,.int .i64 0,.int .i64 0,.int .i64 0,.int .i64 0,.int .i64 0,.int .i64 0] 147)=W0 at TN HT HB ⊢
 have n2:=TN.out.at 2 (.int .i64 x.nb) rfl
 have n3:=TN.out.at 3 (.int .i64 x.K) rfl
 have n4:=TN.out.at 4 (.int .i64 x.S) rfl
 have n5:=TN.out.at 5 (.int .i64 x.P) rfl
 have n6:=TN.out.at 6 (.int .i64 x.O) rfl
 have n7:=TN.out.at 7 (.int .i8 x.Z) rfl
 have n8:=TN.out.at 8 (.int .i8 x.Y) rfl
 have n17:=TN.out.at 17 (.int .i8 x.lo) rfl
 have n18:=TN.out.at 18 (.int .i8 x.hi) rfl
 go_wp2_with (refine wpList_store_mid rfl 147 (.tmp 2) (.tmp 25) rfl (w.heap.size+1) 0 x.nine rfl rfl HT.out (by kernel_rfl) (by simp [Nd.nine,Value.oneCell']) ?_;have HQ:=hid (World.rangeAt_setCells_same W0 (w.heap.size+1) 0 x.nine.toList HT.out);have HZ:Hid (Below w.heap.size W0 (W0.setCells (w.heap.size+1) 0 x.nine.toList)):=hid (setCells_below (Nat.le_succ _) _ _ _);generalize W0.setCells (w.heap.size+1) 0 x.nine.toList=W1 at HQ HZ ⊢)
 refine bodyPost_ret (Kit.zat rfl _ _ (w.heap.size+1) 0 x.nine.toList _ rfl HQ.out Tryz.underlying147 rfl (by kernel_rfl)) rfl ?_
 exact⟨rfl,HB.out.trans HZ.out⟩
def nineB (x y:Nd):Bool:=x.nb == y.nb && x.K == y.K && x.S == y.S && x.P == y.P && x.O == y.O && x.Z == y.Z && x.Y == y.Y && x.lo == y.lo && x.hi == y.hi
theorem eqNine (x y:Nd) (b:Bool) (hb:nineB x y=b) (w:World):(Op.equalIn 10000 147 (.agg x.nine) (.agg y.nine)).run Tryz.prog w=.ok b w:=by
 subst hb
 have u3:=Tryz.underlying3
 have a3:=Tryz.isAgg3
 have z3:=Tryz.sizeOf3
 unfold Nd.nine nineB
 rw [show (10000:Nat)=9999+1 from rfl,Op.equalIn]
 simp only [Sem.run_bind,run_underlying Tryz.underlying147,Result.andThen_ok]
 simp only [Std.Legacy.Range.forIn_eq_forIn_range',Std.Legacy.Range.size,Nat.sub_zero,Nat.add_sub_cancel,Nat.div_one,List.range'_succ,List.range'_zero,List.forIn_cons,List.forIn_nil]
 go_simp
 by_cases h0:x.nb=y.nb
 rotate_left
 ·simp [h0]
 by_cases h1:x.K=y.K
 rotate_left
 ·simp [h0,h1]
 by_cases h2:x.S=y.S
 rotate_left
 ·simp [h0,h1,h2]
 by_cases h3:x.P=y.P
 rotate_left
 ·simp [h0,h1,h2,h3]
 by_cases h4:x.O=y.O
 rotate_left
 ·simp [h0,h1,h2,h3,h4]
 by_cases h5:x.Z=y.Z
 rotate_left
 ·simp [h0,h1,h2,h3,h4,h5]
 by_cases h6:x.Y=y.Y
 rotate_left
 ·simp [h0,h1,h2,h3,h4,h5,h6]
 by_cases h7:x.lo=y.lo
 rotate_left
 ·simp [h0,h1,h2,h3,h4,h5,h6,h7]
 by_cases h8:x.hi=y.hi
 rotate_left
 ·simp [h0,h1,h2,h3,h4,h5,h6,h7,h8]
 simp [h0,h1,h2,h3,h4,h5,h6,h7,h8]
theorem zcj (a b c x y z:Int) (w:World):(Op.equalIn 10000 59 (.agg #[.int .i32 a,.int .i64 b,.int .i8 c]) (.agg #[.int .i32 x,.int .i64 y,.int .i8 z])).run Tryz.prog w=.ok (a == x && (b == y && c == z)) w:=by
 have u1:=Tryz.underlying21
 have a1:=Tryz.isAgg21
 have z1:=Tryz.sizeOf21
 have u2:=Tryz.underlying57
 have a2:=Tryz.isAgg57
 have z2:=Tryz.sizeOf57
 have u3:=Tryz.underlying3
 have a3:=Tryz.isAgg3
 have z3:=Tryz.sizeOf3
 have hS:Tryz.prog.underlying 59=some (.struct (Tryz.prog.fieldsOf 59)):=by kernel_rfl
 rw [show (10000:Nat)=9999+1 from rfl,run_equalIn_agg w 9999 59 _ _ hS Tryz.stoodInHeld59]
 simp only [Program.fieldsOf,Tryz.underlying59]
 go_simp
 by_cases h1:a=x <;> by_cases h2:b=y <;> by_cases h3:c=z <;> simp [h1,h2,h3]
end CKind
end
section
namespace CFix
open Go Go.ChangeShapes Go.WideShapes Go.ChangeAt Go.RowKit
open Plain CSat
theorem refRound_int (v s t:Int) (h1:0≤s) (h2:s≤62) (hv1 : -9223372036854775808≤v) (hv2:v≤9223372036854775807) (ht:zbb v s.toNat=t) (w:World) :
  Calls Tryz.prog 66 #[.int .i64 v,.int .i64 s] w fun e w'=>e=.returned (.int .i64 t)∧∃ m,w'=w.drewN m:=by
 obtain⟨n,rfl⟩:=Int.eq_ofNat_of_zero_le h1
 exact ht ▸ refRound_yes v n (by omega) hv1 hv2 w
theorem scale_int (a m s t:Int) (h1:0≤s) (h2:s≤62) (ha1 : -2147483648≤a) (ha2:a≤2147483647) (hm1 : -2147483648≤m) (hm2:m≤2147483647) (ht:zbb (a * m) s.toNat=t) (w:World) :
  Calls Tryz.prog 101 #[.int .i32 a,.int .i32 m,.int .i64 s] w fun e w'=>e=.returned (.int .i64 t)∧w=w':=by
 obtain⟨n,rfl⟩:=Int.eq_ofNat_of_zero_le h1
 exact ht ▸ scale_yes a m n (by omega) ha1 ha2 hm1 hm2 w
end CFix
end
section
namespace CKind
open Go Go.ChangeShapes Go.WideShapes Go.ChangeAt Go.RowKit Go.Deep Go.WideElems
open Plain CSat CFix CShape CTensor CConv
theorem gVar : Tryz.prog.globalNamed "stepwell/kinds.names" = some 0 := by kernel_rfl
theorem tVar:(Tryz.prog.globals[0]?).map (·.type)=some 159:=by kernel_rfl
def namesZ:List (List UInt8):=[[],[99,111,110,118],[100,101,112,116,104],[100,101,110,115,101],[109,97,120,112,111,111,108],[97,118,103,112,111,111,108],[106,111,105,110],[97,99,116],[112,97,100],[102,108,97,116]]
theorem namesZ_at:∀ n:Nat,n < 10→namesZ[n]?=some (kname n).data.toList:=by decide +kernel
theorem of_laid {W : World} (h : laidMetH Tryz.prog [("stepwell/kinds.names", Rows.laid_stepwell_kinds_names)] W) : zan W := by
 rw [MakeChecks.laidMetH_plain _ _ _ (by kernel_rfl)] at h
 obtain⟨ps,⟨g0,t0,cs0,f0,p0,q0,hg0,ht0,hv0,hd0,_⟩,_,_⟩:=h
 obtain rfl:=Option.some.inj (gVar.symm.trans hg0)
 obtain rfl:=Option.some.inj (tVar.symm.trans ht0)
 obtain⟨xs,m1,rfl,hx1,hlen,hn3,hel⟩:=DataW.trod_array Tryz.underlying159 hd0
 have c1:Tryz.prog.cellsOf 9=1:=by kernel_rfl
 intro n hn
 rw [World.var?_cell hg0 hv0 n]
 have hi:=hel n hn
 rw [c1] at hi
 have hxs:xs.map (·.1)=namesZ.map fun z=>.lit (.string z):=by
  have:=congrArg Prod.fst hx1
  simp only [Rows.laid_stepwell_kinds_names,DataW.agg.injEq] at this
  exact this.symm
 have hxn:(xs.map (·.1))[n]?=some (.lit (.string (kname n).data.toList)):=by
  rw [hxs,List.getElem?_map,namesZ_at n hn];rfl
 rw [List.getElem?_map] at hxn
 obtain⟨x,hx,hx2⟩:=Option.map_eq_some_iff.1 hxn
 rw [hx] at hi
 obtain⟨k,e1,e2,_⟩:=DataW.trod_string Tryz.underlying9 hi
 have hk:k=kname n:=by
  rw [e2] at hx2
  simp only [DataW.lit.injEq,Lit.string.injEq] at hx2
  exact ByteArray.ext (Array.toList_inj.1 hx2)
 subst hk
 have h0:=congrArg (fun l:List Value=>l[0]?) e1
 simpa using h0
end CKind
end
end Go.Proofs.YtoffcaldhojjoaaGreatDoor
