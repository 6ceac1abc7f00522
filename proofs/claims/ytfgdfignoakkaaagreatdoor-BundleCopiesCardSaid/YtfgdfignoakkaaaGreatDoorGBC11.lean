/- -/
import Derived.Test.YtfgdfignoakkaaaGreatDoorGBC4
open Go.Lib (hid)
open Nat (le_refl lt_of_succ_lt lt_succ_self)
set_option linter.unusedVariables false
set_option linter.unusedSimpArgs false
set_option maxRecDepth 100000
set_option maxHeartbeats 16000000
namespace Go.Proofs.YtfgdfignoakkaaaGreatDoor
namespace CConv
end CConv
namespace CSat
end CSat
namespace CShape
end CShape
namespace CTensor
end CTensor
namespace Plain
end Plain
open Go Go.ChangeShapes Go.WideShapes Go.ChangeAt Go.RowKit Go.Deep
section
namespace CKind
open Plain CSat CShape CTensor CConv
theorem ksame_yes (A B:Option Addr) (zs:List Int) (n c d:Nat) (hn:n=zs.length) (hl:n≤1000000) (w:World) {B1 B2:Nat} (ha:Kit.Rd w B1 A (zs.map (.int .i8))) (hb:Kit.Rd w B2 B (zs.map (.int .i8))) :
  Calls Tryz.prog 86 #[.slice A n c,.slice B n d] w fun e w'=>e=.returned (.bool true)∧∃ m,w'=w.drewN m:=by
 subst hn
 have HA:=hid ha
 have HB:=hid hb
 clear ha hb
 go_enter Tryz.func86,Tryz.ntmps86
 go_wp2_with fail
 go_loopw [5] (fun i wr=>∃ k nq:Nat,k≤zs.length∧i=.int .i64 k∧Hid (wr=w.drewN nq)) (fun i _=>zs.length - (intOf i).toNat)
 case atStart=>exact⟨0,0,Nat.zero_le _,rfl,hid rfl⟩
 case round =>
  obtain⟨k,nq,hk,rfl,hw⟩:=hrel
  obtain rfl:=hw.out
  clear hw
  by_cases hlt:k < zs.length
  ·obtain⟨b,off,rfl,_,hx⟩:=HA.out.ints hlt
   obtain⟨b2,off2,rfl,_,hy⟩:=HB.out.ints hlt
   generalize zs[k]=x at hx hy
   have h0:(0:Int)≤(k:Int):=by omega
   have h1:(k:Int) < (zs.length:Int):=by omega
   go_wp2_with fail
   go_quiet (fail)
   go_wp2
   go_roundw
   case rel=>exact⟨k+1,_,by omega,by go_num,hid rfl⟩
   case measure=>simp [intOf];omega
  ·go_wp2_with fail
   go_ret
   exact⟨rfl,nq,rfl⟩
theorem ksame32_yes (A B:Option Addr) (zs:List Int) (n c d:Nat) (hn:n=zs.length) (hl:n≤1000000) (w:World) {B1 B2:Nat} (ha:Kit.Rd w B1 A (zs.map (.int .i32))) (hb:Kit.Rd w B2 B (zs.map (.int .i32))) :
  Calls Tryz.prog 87 #[.slice A n c,.slice B n d] w fun e w'=>e=.returned (.bool true)∧∃ m,w'=w.drewN m:=by
 subst hn
 have HA:=hid ha
 have HB:=hid hb
 clear ha hb
 go_enter Tryz.func87,Tryz.ntmps87
 go_wp2_with fail
 go_loopw [5] (fun i wr=>∃ k nq:Nat,k≤zs.length∧i=.int .i64 k∧Hid (wr=w.drewN nq)) (fun i _=>zs.length - (intOf i).toNat)
 case atStart=>exact⟨0,0,Nat.zero_le _,rfl,hid rfl⟩
 case round =>
  obtain⟨k,nq,hk,rfl,hw⟩:=hrel
  obtain rfl:=hw.out
  clear hw
  by_cases hlt:k < zs.length
  ·obtain⟨b,off,rfl,_,hx⟩:=HA.out.ints hlt
   obtain⟨b2,off2,rfl,_,hy⟩:=HB.out.ints hlt
   generalize zs[k]=x at hx hy
   have h0:(0:Int)≤(k:Int):=by omega
   have h1:(k:Int) < (zs.length:Int):=by omega
   go_wp2_with fail
   go_quiet (fail)
   go_wp2
   go_roundw
   case rel=>exact⟨k+1,_,by omega,by go_num,hid rfl⟩
   case measure=>simp [intOf];omega
  ·go_wp2_with fail
   go_ret
   exact⟨rfl,nq,rfl⟩
theorem eqQuantK (a b c x y z:Int) (w:World):(Op.equalIn 10000 52 (.agg #[.int .i32 a,.int .i64 b,.int .i8 c]) (.agg #[.int .i32 x,.int .i64 y,.int .i8 z])).run Tryz.prog w=.ok (a == x && (b == y && c == z)) w:=by
 have u1:=Tryz.underlying21
 have a1:=Tryz.isAgg21
 have z1:=Tryz.sizeOf21
 have u2:=Tryz.underlying50
 have a2:=Tryz.isAgg50
 have z2:=Tryz.sizeOf50
 have u3:=Tryz.underlying3
 have a3:=Tryz.isAgg3
 have z3:=Tryz.sizeOf3
 have hS:Tryz.prog.underlying 52=some (.struct (Tryz.prog.fieldsOf 52)):=by kernel_rfl
 rw [show (10000:Nat)=9999+1 from rfl,run_equalIn_agg w 9999 52 _ _ hS Tryz.stoodInHeld52]
 simp only [Program.fieldsOf,Tryz.underlying52]
 go_simp
 by_cases h1:a=x <;> by_cases h2:b=y <;> by_cases h3:c=z <;> simp [h1,h2,h3]
end CKind
end
end Go.Proofs.YtfgdfignoakkaaaGreatDoor
