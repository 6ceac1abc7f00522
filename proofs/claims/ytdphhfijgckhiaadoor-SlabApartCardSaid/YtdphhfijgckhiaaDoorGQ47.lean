/- -/
import Derived.Test.YtdphhfijgckhiaaDoorGQ37
import Derived.Test.YtdphhfijgckhiaaDoorGQ46
open Go.Lib (hid)
open Nat (le_refl lt_of_succ_lt lt_succ_self)
set_option linter.unusedVariables false
set_option linter.unusedSimpArgs false
set_option maxRecDepth 100000
set_option maxHeartbeats 16000000
namespace Go.Proofs.YtdphhfijgckhiaaDoor
namespace CConv
end CConv
namespace CFix
end CFix
namespace CKind
end CKind
namespace CShape
end CShape
namespace CTensor
end CTensor
open Go Go.ChangeShapes Go.WideShapes Go.ChangeAt Go.RowKit Go.Deep
section
namespace CGraph
open Plain CSat CFix CShape CTensor CConv CKind
theorem rowI_len (F:Nat→Int) (n:Nat):(rowI F n).length=n:=by simp [rowI]
theorem rdI_at {w:World} {B:Nat} {A:Option Addr} {S:Nat→Int} {n:Nat} (h:Kit.Rd w B A (rowI S n)) (hn:0 < n) :
  ∃ b o,A=some ⟨b,o,none⟩∧b < B∧∀ k,k < n→w.cell? ⟨b,o+k,none⟩=some (.int .i64 (S k)):=by
 obtain⟨b,o,e,hb,hc⟩:=h.plain (by rw [rowI_len];exact hn)
 exact⟨b,o,e,hb,fun k hk=>hc k _ (rowI_at S hk)⟩
theorem isame_to (F:Nat→Int) (n:Nat) (hn:n≤1000) (A A':Option Addr) (c c':Nat) (w:World) {B B':Nat} (hr:Kit.Rd w B A (rowI F n)) (hr':Kit.Rd w B' A' (rowI F n)) :
  Calls Tryd.prog 12 #[.slice A n c,.slice A' n c'] w fun e w'=>e=.returned (.bool true)∧∃ m,w'=w.drewN m:=by
 have HA:=hid hr
 have HB:=hid hr'
 clear hr hr'
 go_enter Tryd.func12,Tryd.ntmps12
 go_wp2_with fail
 go_loopw [5] (fun u wr=>∃ k nq:Nat,k≤n∧u=.int .i64 k∧Hid (wr=w.drewN nq)) (fun u _=>n - (intOf u).toNat)
 case atStart=>exact⟨0,0,Nat.zero_le _,rfl,hid rfl⟩
 case round =>
  obtain⟨k,nq,hk,rfl,hw⟩:=hrel
  obtain rfl:=hw.out
  clear hw
  by_cases hlt:k < n
  ·obtain⟨b1,o1,rfl, -,h1⟩:=rdI_at HA.out (by omega)
   obtain⟨b2,o2,rfl, -,h2⟩:=rdI_at HB.out (by omega)
   have c1:=h1 k hlt
   have c2:=h2 k hlt
   have k0:(0:Int)≤(k:Int):=by omega
   have k1:(k:Int) < (n:Int):=by omega
   clear h1 h2
   go_wp2_with fail
   go_quiet (fail)
   go_wp2
   go_roundw
   case rel=>exact⟨k+1,_,by omega,by go_num,hid rfl⟩
   case measure=>simp [intOf];omega
  ·obtain rfl:k=n:=by omega
   go_wp2_with fail
   go_ret
   exact⟨rfl,nq,rfl⟩
def nd9:Nd:=⟨9,0,0,0,0,0,0,0,0,none,0,0,none,0,0,0,0,0,0,0,0,0,0⟩
/-! ### what Shapes tells, in one form -/
def outL (X:Nat→Nd) (t0:Tri) (n:Nat):List Tri:=match outS X t0 n with | some _=>[] | none=>shL X t0 n
def outP (X:Nat→Nd) (t0:Tri) (n:Nat):Int:=match outS X t0 n with | some r=>r.1 | none=>n
def outZ (X:Nat→Nd) (t0:Tri) (n:Nat):Int:=match outS X t0 n with | some r=>r.2 | none=>0
end CGraph
end
end Go.Proofs.YtdphhfijgckhiaaDoor
