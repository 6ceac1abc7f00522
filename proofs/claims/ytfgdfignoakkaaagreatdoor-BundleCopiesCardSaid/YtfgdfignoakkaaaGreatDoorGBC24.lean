/- -/
import Derived.WalkKit
import Derived.Lib.Hide
open Nat (le_refl lt_of_succ_lt lt_succ_self)
set_option linter.unusedVariables false
set_option linter.unusedSimpArgs false
set_option maxRecDepth 100000
set_option maxHeartbeats 16000000
namespace Go.Proofs.YtfgdfignoakkaaaGreatDoor
section
namespace CrcNum
open Go Go.RowKit
abbrev R:=BitVec 32
def poly:R:=3988292384#32
def st (x:R):R:=(x >>> 1) ^^^ (if x.getLsbD 0 then poly else 0#32)
def stn:Nat→R→R
 | 0,x=>x
 | n+1,x=>st (stn n x)
theorem xor4 (a b c d:R):(a ^^^ b) ^^^ (c ^^^ d)=(a ^^^ c) ^^^ (b ^^^ d):=by
 rw [BitVec.xor_assoc,BitVec.xor_assoc, ← BitVec.xor_assoc b,BitVec.xor_comm b c,BitVec.xor_assoc c]
theorem st_xor (x y:R):st (x ^^^ y)=st x ^^^ st y:=by
 unfold st
 rw [BitVec.getLsbD_xor,BitVec.ushiftRight_xor_distrib,xor4]
 congr 1
 cases x.getLsbD 0 <;> cases y.getLsbD 0 <;> simp
theorem stn_xor (n:Nat) (x y:R):stn n (x ^^^ y)=stn n x ^^^ stn n y:=by
 induction n with
 | zero=>rfl
 | succ n ih=>simp only [stn,ih,st_xor]
theorem stn_add (m n:Nat) (x:R):stn (m+n) x=stn m (stn n x):=by
 induction m with
 | zero=>simp [stn]
 | succ m ih=>rw [Nat.succ_add];simp only [stn,ih]
theorem st_even {x:R} (h:x.getLsbD 0=false):st x=x >>> 1:=by
 unfold st;rw [h];simp
theorem low4 (x:R):x=(x &&& 15#32) ^^^ ((x >>> 4) <<< 4):=by
 apply BitVec.eq_of_getLsbD_eq
 intro i hi
 have h15:(15#32).getLsbD i=decide (i < 4):=by
  have:=Nat.testBit_two_pow_sub_one 4 i
  rw [BitVec.getLsbD_ofNat]
  simp only [hi,decide_true,Bool.true_and]
  exact this
 rw [BitVec.getLsbD_xor,BitVec.getLsbD_and,h15,BitVec.getLsbD_shiftLeft,BitVec.getLsbD_ushiftRight]
 by_cases h:i < 4
 ·simp [h]
 ·have e:4+(i - 4)=i:=by omega
  simp [h,hi,e]
theorem four_shl (z:R):stn 4 ((z >>> 4) <<< 4)=z >>> 4:=by
 have bit:∀ k i:Nat,(((z >>> 4) <<< 4) >>> k).getLsbD i=((decide (k+i < 32) && !decide (k+i < 4)) && z.getLsbD (4+(k+i - 4))):=by
  intro k i
  rw [BitVec.getLsbD_ushiftRight,BitVec.getLsbD_shiftLeft,BitVec.getLsbD_ushiftRight]
 have low:∀ k:Nat,k < 4→(((z >>> 4) <<< 4) >>> k).getLsbD 0=false:=by
  intro k hk;rw [bit];simp [hk]
 have one:∀ k:Nat,k < 4→st (((z >>> 4) <<< 4) >>> k)=((z >>> 4) <<< 4) >>> (k+1):=by
  intro k hk
  rw [st_even (low k hk)]
  rw [← BitVec.shiftRight_add]
 have all:stn 4 ((z >>> 4) <<< 4)=((z >>> 4) <<< 4) >>> 4:=by
  have e0:((z >>> 4) <<< 4)=((z >>> 4) <<< 4) >>> 0:=by simp
  show st (st (st (st ((z >>> 4) <<< 4))))=_
  rw [e0,one 0 (by decide),one 1 (by decide),one 2 (by decide),one 3 (by decide)]
  simp
 rw [all]
 apply BitVec.eq_of_getLsbD_eq
 intro i hi
 rw [bit,BitVec.getLsbD_ushiftRight]
 by_cases h:4+i < 32
 ·have e:4+(4+i - 4)=4+i:=by omega
  simp [h]
 ·rw [BitVec.getLsbD_of_ge z (4+i) (by omega)];simp [h]
theorem four (x:R):stn 4 x=(x >>> 4) ^^^ stn 4 (x &&& 15#32):=by
 conv=>lhs;rw [low4 x]
 rw [stn_xor,four_shl,BitVec.xor_comm]
/-! ### bytes -/
def byteR (b:Int):R:=BitVec.ofInt 32 b
def eat (v:R) (b:Int):R:=stn 8 (v ^^^ byteR b)
def run (v:R) (l:List Int):R:=l.foldl eat v
theorem run_snoc (v:R) (l:List Int) (b:Int):run v (l ++ [b])=eat (run v l) b:=by simp [run]
theorem eat_four (v:R) (b:Int):eat v b=stn 4 (stn 4 (v ^^^ byteR b)):=by unfold eat;rw [← stn_add]
def crcOf (l:List Int):R := ~~~ run (BitVec.allOnes 32) l
def crcMore (s:R) (l:List Int):R := ~~~ run (~~~ s) l
theorem not_xor (x:R) : ~~~ x=BitVec.allOnes 32 ^^^ x:=by
 rw [BitVec.xor_comm,BitVec.xor_allOnes]
/-! ### products -/
/-! ### as integers -/
def toI (x:R):Int:=(x.toNat:Int)
theorem toI_bd (x:R):0≤toI x∧toI x≤4294967295:=by unfold toI;have:=x.isLt;omega
theorem toI_of (n:Int) (h0:0≤n) (h1:n≤4294967295):toI (BitVec.ofInt 32 n)=n:=by
 unfold toI;rw [BitVec.toNat_ofInt];omega
theorem ofInt_toI (x:R):BitVec.ofInt 32 (toI x)=x:=by
 apply BitVec.eq_of_toNat_eq;unfold toI;rw [BitVec.toNat_ofInt];have:=x.isLt;omega
theorem xor_toI (x y:R):bits .xor .u32 (toI x) (toI y)=toI (x ^^^ y):=by
 show IntKind.u32.wrap ((BitVec.ofInt 32 (toI x) ^^^ BitVec.ofInt 32 (toI y)).toNat:Int)=_
 rw [ofInt_toI,ofInt_toI,IntKind.wrap_u32];unfold toI;have:=(x ^^^ y).isLt;omega
theorem and_toI (x y:R):bits .and .u32 (toI x) (toI y)=toI (x &&& y):=by
 show IntKind.u32.wrap ((BitVec.ofInt 32 (toI x) &&& BitVec.ofInt 32 (toI y)).toNat:Int)=_
 rw [ofInt_toI,ofInt_toI,IntKind.wrap_u32];unfold toI;have:=(x &&& y).isLt;omega
theorem byte_toI (b:Int) (h0:0≤b) (h1:b≤255):toI (byteR b)=b:=toI_of b h0 (by omega)
theorem shr4_toI (x:R):toI x / (16:Int)=toI (x >>> 4):=by
 unfold toI;rw [BitVec.toNat_ushiftRight,Nat.shiftRight_eq_div_pow];simp
theorem and15_toI (x:R):bits .and .u32 (toI x) 15=((x &&& 15#32).toNat:Int)∧(x &&& 15#32).toNat < 16:=by
 have e:(15:Int)=toI 15#32:=by decide
 refine⟨by rw [e,and_toI];rfl,?_⟩
 rw [BitVec.toNat_and]
 exact Nat.lt_of_le_of_lt Nat.and_le_right (by decide)
def tab (n:Nat):R:=stn 4 (BitVec.ofNat 32 n)
theorem tab_and (x:R):tab (x &&& 15#32).toNat=stn 4 (x &&& 15#32):=by
 unfold tab;rw [BitVec.ofNat_toNat];simp
theorem half_step (y:R):∃ n:Nat,n < 16∧bits .and .u32 (toI y) 15=(n:Int)∧bits .xor .u32 (toI y / (16:Int)) (toI (tab n))=toI (stn 4 y):=by
 refine⟨(y &&& 15#32).toNat,(and15_toI y).2,(and15_toI y).1,?_⟩
 rw [tab_and,shr4_toI,xor_toI,four y]
theorem first_step (x:R) (b:Int) (h0:0≤b) (h1:b≤255):bits .xor .u32 (toI x) b=toI (x ^^^ byteR b):=by
 conv=>lhs;rw [← byte_toI b h0 h1]
 exact xor_toI _ _
end CrcNum
end
end Go.Proofs.YtfgdfignoakkaaaGreatDoor
