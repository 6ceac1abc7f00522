/- -/
import Derived.Test.YtfgdfignoakkaaaGreatDoorRows
import Derived.Test.YtfgdfignoakkaaaGreatDoorGBC1
import Derived.Test.YtfgdfignoakkaaaGreatDoorGBC24
open Go.Lib (hid)
open Nat (le_refl lt_of_succ_lt lt_succ_self)
set_option linter.unusedVariables false
set_option linter.unusedSimpArgs false
set_option maxRecDepth 100000
set_option maxHeartbeats 16000000
namespace Go.Proofs.YtfgdfignoakkaaaGreatDoor
open Go Go.ChangeShapes Go.WideShapes Go.ChangeAt Go.RowKit
section
namespace CCrc
open CrcNum
theorem ret_int {k:IntKind} {a b:Int} (h:a=b):Ending.returned (.int k a)=.returned (.int k b):=by rw [h]
def U8s (zs:List Int):Prop:=∀ z∈zs,0≤z∧z≤255
theorem take_next {zs:List Int} {k:Nat} (h:k < zs.length):zs.take (k+1)=zs.take k ++ [zs[k]]:=by
 rw [List.take_succ_eq_append_getElem h]
def zah (w:World):Prop:=∀ n:Nat,n < 16→w.cell? ⟨0,n,none⟩=some (.int .u32 (toI (tab n)))
theorem not_toI (x:R):bits .xor .u32 4294967295 (toI x)=toI (~~~ x):=by
 have e:(4294967295:Int)=toI (BitVec.allOnes 32):=by decide
 rw [e,xor_toI, ← not_xor]
theorem more (v:R) (A:Option Addr) (zs:List Int) (c:Nat) (hl:zs.length≤9223372036854775807) (hz:U8s zs) (w:World) (hT:zah w) {B:Nat} (hr:Kit.Rd w B A (zs.map (.int .u8))) :
  Calls Tryz.prog 56 #[.int .u32 (toI v),.slice A zs.length c] w fun e w'=>e=.returned (.int .u32 (toI (crcMore v zs)))∧w=w':=by
 have HT:=hid hT
 clear hT
 have hsg:IntKind.u32.signed=false:=rfl
 have hmx:IntKind.u32.max=4294967295:=by decide
 have hnot:=not_toI v
 go_enter Tryz.func56,Tryz.ntmps56
 go_wp2_with fail
 clear hnot
 go_loop [5,12] (fun s i=>∃ (k:Nat) (x:R),k≤zs.length∧i=.int .i64 k∧s=.int .u32 (toI x)∧Hid (run (~~~ v) (zs.take k)=x)) (fun _ i=>zs.length - (intOf i).toNat)
 case atStart=>exact⟨0, ~~~ v,Nat.zero_le _,rfl,rfl,hid rfl⟩
 case round =>
  obtain⟨k,x,hk,rfl,rfl,hs⟩:=hrel
  by_cases hlt:k < zs.length
  ·obtain⟨ad,rfl,_,hc⟩:=hr.int hlt
   obtain⟨hz1,hz2⟩:=hz zs[k] (List.getElem_mem hlt)
   have ht:=take_next hlt
   generalize zs[k]=z at hc hz1 hz2 ht
   have hn:run (~~~ v) (zs.take (k+1))=stn 4 (stn 4 (x ^^^ byteR z)):=by
    rw [ht,run_snoc,hs.out,eat_four]
   have HN:=hid hn
   have h1:=first_step x z hz1 hz2
   clear ht hn hr hsg hmx
   generalize x ^^^ byteR z=y at h1 HN
   obtain⟨n,hn,h2,h3⟩:=half_step y
   obtain⟨m,hm,h4,h5⟩:=half_step (stn 4 y)
   have hc1:=HT.out n hn
   have hc2:=HT.out m hm
   generalize stn 4 (stn 4 y)=y2 at HN h5
   generalize stn 4 y=y1 at h3 h4 h5
   generalize tab n=t1 at hc1 h3
   generalize tab m=t2 at hc2 h5
   obtain⟨hy0,hy1⟩:=toI_bd y
   obtain⟨hy2,hy3⟩:=toI_bd y1
   go_wp2_with fail
   go_round
   case rel=>exact⟨k+1,_,by omega,by go_num,rfl,HN⟩
   case measure=>simp [intOf];omega
  ·have hall:run (~~~ v) zs=x:=by rw [← hs.out,List.take_of_length_le (by omega)]
   have hnot:=not_toI x
   have hfin:toI (~~~ x)=toI (crcMore v zs):=by unfold crcMore;rw [hall]
   have He:=hid hfin
   clear hall hfin
   go_wp2_with fail
   go_ret
   exact⟨ret_int He.out,rfl⟩
theorem more_to {n:Int} {v:R} (hn:n=toI v) (A:Option Addr) (zs:List Int) (c:Nat) (hl:zs.length≤9223372036854775807) (hz:U8s zs) (w:World) (hT:zah w) {B:Nat} (hr:Kit.Rd w B A (zs.map (.int .u8))) :
  Calls Tryz.prog 56 #[.int .u32 n,.slice A zs.length c] w fun e w'=>e=.returned (.int .u32 (toI (crcMore v zs)))∧w=w':=by
 subst hn;exact more v A zs c hl hz w hT hr
theorem of (A:Option Addr) (zs:List Int) (c:Nat) (hl:zs.length≤9223372036854775807) (hz:U8s zs) (w:World) (hT:zah w) {B:Nat} (hr:Kit.Rd w B A (zs.map (.int .u8))) :
  Calls Tryz.prog 32 #[.slice A zs.length c] w fun e w'=>e=.returned (.int .u32 (toI (crcOf zs)))∧w=w':=by
 have HT:=hid hT
 clear hT
 have he:toI (crcMore 0#32 zs)=toI (crcOf zs):=by rfl
 have HE:=hid he
 clear he
 go_enter Tryz.func32,Tryz.ntmps32
 go_wp2_with (go_at_call 56;(with_reducible refine (more_to (v:=0#32) (by decide) A zs c hl hz _ HT.out hr).mono ?_);rintro e w' ⟨rfl,rfl⟩)
 go_ret
 exact⟨ret_int HE.out,rfl⟩
end CCrc
end
end Go.Proofs.YtfgdfignoakkaaaGreatDoor
