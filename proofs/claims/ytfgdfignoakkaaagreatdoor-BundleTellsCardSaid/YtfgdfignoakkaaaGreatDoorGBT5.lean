/- -/
import Derived.Test.YtfgdfignoakkaaaGreatDoorGBT4
open Go.Lib (hid)
open Nat (le_refl lt_of_succ_lt lt_succ_self)
set_option linter.unusedVariables false
set_option linter.unusedSimpArgs false
set_option maxRecDepth 100000
set_option maxHeartbeats 16000000
namespace Go.Proofs.YtfgdfignoakkaaaGreatDoor
namespace CLeb
end CLeb
namespace CSat
end CSat
namespace CShape
end CShape
namespace CTensor
end CTensor
open Go Go.ChangeShapes Go.WideShapes Go.ChangeAt Go.RowKit
section
namespace CConv
open Plain CSat CShape CTensor
def psum (G:Nat→Int):Nat→Int
 | 0=>0
 | n+1=>psum G n+G n
theorem psum_bd {G:Nat→Int} {b:Int} {n:Nat} (h:∀ k,k < n → -b≤G k∧G k≤b) : -(b * n)≤psum G n∧psum G n≤b * n:=by
 induction n with
 | zero=>simp [psum]
 | succ n ih =>
   have h1:=ih (fun k hk=>h k (by omega))
   have h2:=h n (by omega)
   have e:b * ((n+1:Nat):Int)=b * (n:Int)+b:=by rw [show ((n+1:Nat):Int)=(n:Int)+1 by omega,Int.mul_add,Int.mul_one]
   rw [e]
   simp only [psum]
   omega
theorem term_bd {x y z:Int} (x1 : -128≤x) (x2:x≤127) (y1 : -128≤y) (y2:y≤127) (z1 : -128≤z) (z2:z≤127) : -32640≤y * (x - z)∧y * (x - z)≤32640:=by
 have h1 : -255≤x - z:=by omega
 have h2:x - z≤255:=by omega
 generalize x - z=u at h1 h2
 have a1:0≤(128+y) * (255 - u):=Int.mul_nonneg (by omega) (by omega)
 have a2:0≤(128+y) * (255+u):=Int.mul_nonneg (by omega) (by omega)
 have a3:0≤(127 - y) * (255 - u):=Int.mul_nonneg (by omega) (by omega)
 have a4:0≤(127 - y) * (255+u):=Int.mul_nonneg (by omega) (by omega)
 simp only [Int.add_mul,Int.sub_mul,Int.mul_sub,Int.mul_add] at a1 a2 a3 a4
 omega
def I8b (zs:List Int):Prop:=∀ q, -128≤zs.getD q 0∧zs.getD q 0≤127
theorem ints_getD {w:World} {B:Nat} {A:Option Addr} {k:IntKind} {zs:List Int} (h:Kit.Rd w B A (zs.map (.int k))) {j:Nat} (hj:j < zs.length) :
  ∃ b off,A=some ⟨b,off,none⟩∧b < B∧∀ i,i < zs.length→w.cell? ⟨b,off+i,none⟩=some (.int k (zs.getD i 0)):=by
 obtain⟨b,off,e,hb,hc⟩:=h.plain (by simp;omega)
 exact⟨b,off,e,hb,fun i hi=>hc i _ (by simp [List.getD_eq_getElem?_getD,List.getElem?_eq_getElem hi])⟩
end CConv
end
section
namespace CrcNum
open Go Go.RowKit
abbrev R:=BitVec 32
def poly:R:=3988292384#32
def st (x:R):R:=(x >>> 1) ^^^ (if x.getLsbD 0 then poly else 0#32)
def stn:Nat→R→R
 | 0,x=>x
 | n+1,x=>st (stn n x)
theorem xor4 (a b c d:R):(a ^^^ b) ^^^ (c ^^^ d)=(a ^^^ c) ^^^ (b ^^^ d):=by
 rw [BitVec.xor_assoc,BitVec.xor_assoc, ← BitVec.xor_assoc b,BitVec.xor_comm b c,BitVec.xor_assoc c]
theorem st_xor (x y:R):st (x ^^^ y)=st x ^^^ st y:=by
 unfold st
 rw [BitVec.getLsbD_xor,BitVec.ushiftRight_xor_distrib,xor4]
 congr 1
 cases x.getLsbD 0 <;> cases y.getLsbD 0 <;> simp
theorem stn_xor (n:Nat) (x y:R):stn n (x ^^^ y)=stn n x ^^^ stn n y:=by
 induction n with
 | zero=>rfl
 | succ n ih=>simp only [stn,ih,st_xor]
theorem stn_add (m n:Nat) (x:R):stn (m+n) x=stn m (stn n x):=by
 induction m with
 | zero=>simp [stn]
 | succ m ih=>rw [Nat.succ_add];simp only [stn,ih]
theorem st_even {x:R} (h:x.getLsbD 0=false):st x=x >>> 1:=by
 unfold st;rw [h];simp
theorem st_null {x:R} (h:st x=0#32):x=0#32:=by
 cases e:x.getLsbD 0
 ·rw [st_even e] at h
  apply BitVec.eq_of_getLsbD_eq
  intro i hi
  have hb:=congrArg (fun y:R=>y.getLsbD (i - 1)) h
  simp only [BitVec.getLsbD_ushiftRight,BitVec.getLsbD_zero] at hb
  rcases Nat.eq_zero_or_pos i with rfl | hp
  ·simpa using e
  ·rw [show 1+(i - 1)=i by omega] at hb;simpa using hb
 ·unfold st at h
  rw [e] at h
  have hb:=congrArg (fun y:R=>y.getLsbD 31) h
  simp only [BitVec.getLsbD_xor,BitVec.getLsbD_ushiftRight,BitVec.getLsbD_zero,if_true] at hb
  have hp:poly.getLsbD 31=true:=by decide
  have hx:x.getLsbD (1+31)=false:=BitVec.getLsbD_of_ge _ _ (by decide)
  rw [hp,hx] at hb
  cases hb
theorem stn_null {n:Nat} {x:R} (h:stn n x=0#32):x=0#32:=by
 induction n with
 | zero=>exact h
 | succ n ih=>exact ih (st_null h)
theorem low4 (x:R):x=(x &&& 15#32) ^^^ ((x >>> 4) <<< 4):=by
 apply BitVec.eq_of_getLsbD_eq
 intro i hi
 have h15:(15#32).getLsbD i=decide (i < 4):=by
  have:=Nat.testBit_two_pow_sub_one 4 i
  rw [BitVec.getLsbD_ofNat]
  simp only [hi,decide_true,Bool.true_and]
  exact this
 rw [BitVec.getLsbD_xor,BitVec.getLsbD_and,h15,BitVec.getLsbD_shiftLeft,BitVec.getLsbD_ushiftRight]
 by_cases h:i < 4
 ·simp [h]
 ·have e:4+(i - 4)=i:=by omega
  simp [h,hi,e]
theorem four_shl (z:R):stn 4 ((z >>> 4) <<< 4)=z >>> 4:=by
 have bit:∀ k i:Nat,(((z >>> 4) <<< 4) >>> k).getLsbD i=((decide (k+i < 32) && !decide (k+i < 4)) && z.getLsbD (4+(k+i - 4))):=by
  intro k i
  rw [BitVec.getLsbD_ushiftRight,BitVec.getLsbD_shiftLeft,BitVec.getLsbD_ushiftRight]
 have low:∀ k:Nat,k < 4→(((z >>> 4) <<< 4) >>> k).getLsbD 0=false:=by
  intro k hk;rw [bit];simp [hk]
 have one:∀ k:Nat,k < 4→st (((z >>> 4) <<< 4) >>> k)=((z >>> 4) <<< 4) >>> (k+1):=by
  intro k hk
  rw [st_even (low k hk)]
  rw [← BitVec.shiftRight_add]
 have all:stn 4 ((z >>> 4) <<< 4)=((z >>> 4) <<< 4) >>> 4:=by
  have e0:((z >>> 4) <<< 4)=((z >>> 4) <<< 4) >>> 0:=by simp
  show st (st (st (st ((z >>> 4) <<< 4))))=_
  rw [e0,one 0 (by decide),one 1 (by decide),one 2 (by decide),one 3 (by decide)]
  simp
 rw [all]
 apply BitVec.eq_of_getLsbD_eq
 intro i hi
 rw [bit,BitVec.getLsbD_ushiftRight]
 by_cases h:4+i < 32
 ·have e:4+(4+i - 4)=4+i:=by omega
  simp [h]
 ·rw [BitVec.getLsbD_of_ge z (4+i) (by omega)];simp [h]
theorem four (x:R):stn 4 x=(x >>> 4) ^^^ stn 4 (x &&& 15#32):=by
 conv=>lhs;rw [low4 x]
 rw [stn_xor,four_shl,BitVec.xor_comm]
/-! ### bytes -/
def byteR (b:Int):R:=BitVec.ofInt 32 b
def eat (v:R) (b:Int):R:=stn 8 (v ^^^ byteR b)
def run (v:R) (l:List Int):R:=l.foldl eat v
theorem run_snoc (v:R) (l:List Int) (b:Int):run v (l ++ [b])=eat (run v l) b:=by simp [run]
theorem run_append (v:R) (l m:List Int):run v (l ++ m)=run (run v l) m:=by simp [run]
theorem eat_four (v:R) (b:Int):eat v b=stn 4 (stn 4 (v ^^^ byteR b)):=by unfold eat;rw [← stn_add]
theorem run_diff (l:List Int):∀ v d:R,run (v ^^^ d) l=run v l ^^^ stn (8 * l.length) d:=by
 induction l with
 | nil=>intro v d;rfl
 | cons b l ih =>
   intro v d
   show run (eat (v ^^^ d) b) l=run (eat v b) l ^^^ _
   have e:eat (v ^^^ d) b=eat v b ^^^ stn 8 d:=by
    unfold eat
    rw [BitVec.xor_assoc,BitVec.xor_comm d, ← BitVec.xor_assoc,stn_xor]
   rw [e,ih, ← stn_add,List.length_cons,Nat.mul_succ]
theorem run_inj {v u:R} {l:List Int} (h:run v l=run u l):v=u:=by
 have e:u=v ^^^ (v ^^^ u):=by rw [← BitVec.xor_assoc];simp
 rw [e,run_diff] at h
 have h0:stn (8 * l.length) (v ^^^ u)=0#32:=by
  have:=congrArg (fun x=>run v l ^^^ x) h
  simp only [← BitVec.xor_assoc,BitVec.xor_self,BitVec.zero_xor] at this
  exact this.symm
 have:=stn_null h0
 exact BitVec.xor_eq_zero_iff.mp this
theorem stn_inj {n:Nat} {v u:R} (h:stn n v=stn n u):v=u:=by
 have:stn n (v ^^^ u)=0#32:=by rw [stn_xor,h,BitVec.xor_self]
 exact BitVec.xor_eq_zero_iff.mp (stn_null this)
theorem run_tells (v:R) (l m:List Int) (b c:Int) (hb:0≤b∧b≤255) (hc:0≤c∧c≤255) (h:b≠c):run v (l ++ b :: m)≠run v (l ++ c :: m):=by
 intro he
 rw [run_append,run_append] at he
 have h1:run (eat (run v l) b) m=run (eat (run v l) c) m:=he
 have h2:=stn_inj (run_inj h1)
 have h3:byteR b=byteR c:=by
  have:=congrArg (fun x=>run v l ^^^ x) h2
  simpa only [← BitVec.xor_assoc,BitVec.xor_self,BitVec.zero_xor] using this
 have h4:=congrArg BitVec.toNat h3
 unfold byteR at h4
 rw [BitVec.toNat_ofInt,BitVec.toNat_ofInt] at h4
 omega
def crcOf (l:List Int):R := ~~~ run (BitVec.allOnes 32) l
def crcMore (s:R) (l:List Int):R := ~~~ run (~~~ s) l
theorem not_xor (x:R) : ~~~ x=BitVec.allOnes 32 ^^^ x:=by
 rw [BitVec.xor_comm,BitVec.xor_allOnes]
/-! ### products -/
/-! ### as integers -/
def toI (x:R):Int:=(x.toNat:Int)
theorem toI_bd (x:R):0≤toI x∧toI x≤4294967295:=by unfold toI;have:=x.isLt;omega
theorem toI_inj {x y:R} (h:toI x=toI y):x=y:=by
 unfold toI at h;exact BitVec.eq_of_toNat_eq (by omega)
theorem toI_of (n:Int) (h0:0≤n) (h1:n≤4294967295):toI (BitVec.ofInt 32 n)=n:=by
 unfold toI;rw [BitVec.toNat_ofInt];omega
theorem ofInt_toI (x:R):BitVec.ofInt 32 (toI x)=x:=by
 apply BitVec.eq_of_toNat_eq;unfold toI;rw [BitVec.toNat_ofInt];have:=x.isLt;omega
theorem xor_toI (x y:R):bits .xor .u32 (toI x) (toI y)=toI (x ^^^ y):=by
 show IntKind.u32.wrap ((BitVec.ofInt 32 (toI x) ^^^ BitVec.ofInt 32 (toI y)).toNat:Int)=_
 rw [ofInt_toI,ofInt_toI,IntKind.wrap_u32];unfold toI;have:=(x ^^^ y).isLt;omega
theorem and_toI (x y:R):bits .and .u32 (toI x) (toI y)=toI (x &&& y):=by
 show IntKind.u32.wrap ((BitVec.ofInt 32 (toI x) &&& BitVec.ofInt 32 (toI y)).toNat:Int)=_
 rw [ofInt_toI,ofInt_toI,IntKind.wrap_u32];unfold toI;have:=(x &&& y).isLt;omega
theorem byte_toI (b:Int) (h0:0≤b) (h1:b≤255):toI (byteR b)=b:=toI_of b h0 (by omega)
theorem shr4_toI (x:R):toI x / (16:Int)=toI (x >>> 4):=by
 unfold toI;rw [BitVec.toNat_ushiftRight,Nat.shiftRight_eq_div_pow];simp
theorem and15_toI (x:R):bits .and .u32 (toI x) 15=((x &&& 15#32).toNat:Int)∧(x &&& 15#32).toNat < 16:=by
 have e:(15:Int)=toI 15#32:=by decide
 refine⟨by rw [e,and_toI];rfl,?_⟩
 rw [BitVec.toNat_and]
 exact Nat.lt_of_le_of_lt Nat.and_le_right (by decide)
def tab (n:Nat):R:=stn 4 (BitVec.ofNat 32 n)
theorem tab_and (x:R):tab (x &&& 15#32).toNat=stn 4 (x &&& 15#32):=by
 unfold tab;rw [BitVec.ofNat_toNat];simp
theorem half_step (y:R):∃ n:Nat,n < 16∧bits .and .u32 (toI y) 15=(n:Int)∧bits .xor .u32 (toI y / (16:Int)) (toI (tab n))=toI (stn 4 y):=by
 refine⟨(y &&& 15#32).toNat,(and15_toI y).2,(and15_toI y).1,?_⟩
 rw [tab_and,shr4_toI,xor_toI,four y]
theorem first_step (x:R) (b:Int) (h0:0≤b) (h1:b≤255):bits .xor .u32 (toI x) b=toI (x ^^^ byteR b):=by
 conv=>lhs;rw [← byte_toI b h0 h1]
 exact xor_toI _ _
end CrcNum
end
section
namespace CLeb
open LebNum
def Listed (w:World) (n:Nat) (zs:List Int) (e:Ending) (w':World):Prop :=
 ∃ A c,e=.returned (.slice A n c)∧n≤c∧c≤maxLen∧Kit.Rd w' w'.heap.size A (zs.map (.int .u8))∧Below w.heap.size w w'
theorem listed {w:World} {zs:List Int} {n:Nat} {e:Ending} {w':World} (hn:zs.length=n) (h:Owned w 5 1 zs.length (zao zs) e w'):Listed w n zs e w':=by
 subst hn
 obtain⟨v,rfl,ho,hb⟩:=h
 obtain⟨A,c,rfl,h1,h2,h3⟩:=Kit.za2 ho
 exact⟨A,c,rfl,h1,h2,h3,hb⟩
theorem put_to (n:Int) (h0:0≤n) (h1:n≤18446744073709551615) (zs:List Int) (k:Nat) (hz:digZ n=zs) (hk:zs.length=k) (w:World) :
  Calls Tryz.prog 45 #[.int .u64 n] w (Listed w k zs):=by
 subst hz
 exact (put n h0 h1 w).mono fun e w' h=>listed hk h
theorem putInt_to (v:Int) (h1 : -9223372036854775808≤v) (h2:v≤9223372036854775807) (zs:List Int) (k:Nat) (hz:digZ (foldZ v)=zs) (hk:zs.length=k) (w:World) :
  Calls Tryz.prog 222 #[.int .i64 v] w (Listed w k zs):=by
 subst hz
 exact (putInt v h1 h2 w).mono fun e w' h=>listed hk h
theorem conv_str {w:World} {B:Nat} {A:Option Addr} {zs:List Int} {n c:Nat} (hr:Kit.Rd w B A (zs.map (.int .u8))) (hn:zs.length=n) (s:ByteArray) (hs:strOfNums zs=s) :
  (convert 27 9 (.slice A n c)).run Tryz.prog w=.ok (.string s) w:=by
 subst hn hs
 cases zs with
 | nil =>
   cases A with
   | none=>exact run_convert_bytes_nil w _ _ Tryz.underlying27 Tryz.underlying5 _ _ _ Tryz.underlying9
   | some a =>
     rw [run_convert_bytes_string w _ _ _ _ _ c Tryz.underlying27 Tryz.underlying5 Tryz.underlying9]
     exact (run_bytesToString w a 0 c [] (by simpa using run_loadCells_list (P:=Tryz.prog) w a [] (fun j v hj=>by simp at hj))).trans (by rfl)
 | cons z zs =>
   obtain⟨b,off,rfl,hb,hx⟩:=hr.plain (by simp)
   exact run_convert_bytes_arg w _ _ Tryz.underlying27 Tryz.underlying5 b off _ c (z :: zs) rfl (fun i hi=>hx i _ (by rw [List.getElem?_map,List.getElem?_eq_getElem hi,List.getD_eq_getElem?_getD,List.getElem?_eq_getElem hi];rfl)) _ Tryz.underlying9
end CLeb
end
section
namespace COctet
open LebNum CLeb
theorem take_next {zs:List Int} {k:Nat} (h:k < zs.length):zs.take (k+1)=zs.take k ++ [zs[k]]:=by
 rw [List.take_succ_eq_append_getElem h]
def za6 (zs:List Int):List Int:=zs.map fun z=>z % 256
def encZ (zs:List Int):List Int:=zs.flatMap fun z=>digZ (foldZ z)
theorem encZ_snoc (zs:List Int) (z:Int):encZ (zs ++ [z])=encZ zs ++ digZ (foldZ z):=by simp [encZ]
def I32s (zs:List Int):Prop:=∀ z∈zs, -2147483648≤z∧z≤2147483647
def I8r (zs:List Int):Prop:=∀ z∈zs, -128≤z∧z≤127
theorem dig_len {z:Int} (h : -2147483648≤z∧z≤2147483647):1≤(digZ (foldZ z)).length∧(digZ (foldZ z)).length≤10:=by
 obtain⟨h1,h2⟩:=foldZ_bd (v:=z) (by omega) (by omega)
 exact zb5 h1 h2
theorem encZ_len:∀ (zs:List Int),I32s zs→zs.length≤(encZ zs).length∧(encZ zs).length≤10 * zs.length
 | [],_=>by simp [encZ]
 | z :: zs,h=>by
   obtain⟨h1,h2⟩:=encZ_len zs (fun x hx=>h x (List.mem_cons_of_mem _ hx))
   obtain⟨h3,h4⟩:=dig_len (h z (by simp))
   have e:encZ (z :: zs)=digZ (foldZ z) ++ encZ zs:=by simp [encZ]
   rw [e];simp;omega
theorem encZ_take (zs:List Int) (h:I32s zs) (k:Nat):(encZ (zs.take k)).length≤10 * zs.length:=by
 have:=(encZ_len (zs.take k) (fun x hx=>h x (List.mem_of_mem_take hx))).2
 have h2:(zs.take k).length≤zs.length:=by simp;omega
 omega
theorem small1 (z:Int) (h0 : -128≤z) (h1:z≤127) (w:World) :
  Calls Tryz.prog 227 #[.int .i64 z] w fun e w'=>e=.returned (.slice (some ⟨w.heap.size,0,none⟩) 1 1)∧w'=w.alloc (.cells #[.int .u8 (z % 256)] 5):=by
 go_enter Tryz.func227,Tryz.ntmps227
 go_wp2
 go_ret
 exact⟨rfl,rfl⟩
theorem put8 (A:Option Addr) (zs:List Int) (n c:Nat) (hn:zs.length=n) (hl:n≤20000) (hz:I8r zs) {B:Nat} (w:World) (hB:B≤w.heap.size) (hr:Kit.Rd w B A (zs.map (.int .i8))) :
  Calls Tryz.prog 226 #[.slice A n c,.func (.func 227) #[] #[]] w (Owned w 5 1 n (zao (za6 zs))):=by
 have HN:=hid hn
 have HR:=hid hr
 have hlI:(n:Int)≤20000:=by omega
 clear hn hr
 obtain⟨i0,hi0,hi1,hi2,hi3⟩:=info_parts info_u8
 go_enter Tryz.func226,Tryz.ntmps226
 go_wp2_with (at_make;refine wpList_make_own _ rfl _ _ 27 rfl w.heap.size 5 i0 (.int .u8 0) 1 Tryz.underlying27 hi0 hi1 hi2 _ _ _ n rfl rfl (by omega) (by rw [hi3];omega) (by unfold maxLen;omega) (le_refl _) ?_;intro w1 hown1 hg1)
 have HO:=hid hown1
 have HB:=hid ((Below.refl w.heap.size w).grown hg1 (le_refl _) (fun q hq=>by cases hq))
 clear hown1 hg1
 go_loopw [5,13] (fun b i wr=>∃ (k:Nat) (v:Value),k≤n∧i=.int .i64 k∧b=v∧Hid (wr.ownsRow w.heap.size 5 1 v k (zao (za6 (zs.take k))))∧Hid (Below w.heap.size w wr)) (fun _ i _=>n - (intOf i).toNat)
 case atStart=>exact⟨0,_,Nat.zero_le _,rfl,rfl,HO,HB⟩
 case round =>
  obtain⟨k,v,hk,rfl,rfl,hO,hBw⟩:=hrel
  clear HO HB
  obtain⟨Av,cv,rfl, -, -, -⟩:=Kit.za2 hO.out
  by_cases hlt:k < n
  ·have hkz:k < zs.length:=by have:=HN.out;omega
   have hkI:(k:Int) < (n:Int):=by omega
   obtain⟨b1,off1,rfl, -,hcx⟩:=(HR.out.below (hBw.out.mono hB)).ints hkz
   obtain⟨z1,z2⟩:=hz zs[k] (List.getElem_mem hkz)
   have ht:=take_next hkz
   generalize zs[k]=z at hcx z1 z2 ht
   have HT:=hid ht
   clear ht
   go_wp2_with (first
    | (go_at_call 227;(with_reducible refine (small1 z z1 z2 _).mono ?_);rintro e w' ⟨rfl,rfl⟩)
    | (at_builtin
       refine Kit.zaj _ rfl (.tmp 17) (.tmp 21) _ rfl w.heap.size 5 i0 (.int .u8 0) 1 1 Tryz.underlying27 hi0 hi1 hi2 hi3 rfl (by decide) _ k (zao (za6 (zs.take k))) rfl (hO.out.alloc _) _ _ 1 1 [.int .u8 (z % 256)] rfl rfl (Kit.Rd.new _ _ _ (lt_succ_self _)) (Kit.zbh .u8 [z % 256]) (by unfold maxLen;omega) (by omega) (by have:=hBw.out.size;simp;omega) ?_
       intro v2 w2 hown2 hg2 hat2
       have hB2:Below w.heap.size w w2:=(hBw.out.alloc hBw.out.size _).grown hg2 (by have:=hBw.out.size;simp;omega) (fun q hq=>Kit.zam hO.out q hq)
       have e:zao (za6 (zs.take k)) ++ [.int .u8 (z % 256)]=zao (za6 (zs.take (k+1))):=by rw [HT.out];simp [za6,zao]
       rw [e] at hown2
       obtain⟨A2,c2,rfl, -, -, -⟩:=Kit.za2 hown2
       have HO3:=hid hown2
       have HB3:=hid hB2
       clear hown2 hg2 hat2 hB2 e))
   go_roundw
   case rel=>exact⟨k+1,_,by omega,by go_num,rfl,HO3,HB3⟩
   case measure=>simp [intOf];omega
  ·obtain rfl:k=n:=by omega
   go_wp2_with fail
   go_ret
   refine⟨_,rfl,?_,hBw.out⟩
   have:=hO.out
   rw [List.take_of_length_le (by have:=HN.out;omega)] at this
   exact this
theorem or_z (i:Nat) (p x y:Int) (hp:p=((2 ^ i:Nat):Int)) (h0:0≤x) (hx:x < p) (hy0:0≤y) (hs:x+y * p≤4294967295):bits .or .u32 x (y * p)=x+y * p:=by
 subst hp
 obtain⟨a,rfl⟩:=Int.eq_ofNat_of_zero_le h0
 obtain⟨b,rfl⟩:=Int.eq_ofNat_of_zero_le hy0
 have hx2:a < 2 ^ i:=by omega
 have hs2:a+b * 2 ^ i≤4294967295:=by
  have:((a+b * 2 ^ i:Nat):Int)≤4294967295:=by simpa using hs
  omega
 have e:((b:Int) * ((2 ^ i:Nat):Int))=((b * 2 ^ i:Nat):Int):=by simp
 rw [e]
 show IntKind.u32.wrap ((BitVec.ofInt 32 (a:Int) ||| BitVec.ofInt 32 ((b * 2 ^ i:Nat):Int)).toNat:Int)=_
 rw [BitVec.toNat_or,BitVec.toNat_ofInt,BitVec.toNat_ofInt]
 have e1:((a:Int) % ((2 ^ 32:Nat):Int)).toNat=a:=by omega
 have e2:(((b * 2 ^ i:Nat):Int) % ((2 ^ 32:Nat):Int)).toNat=b * 2 ^ i:=by omega
 rw [e1,e2,Nat.or_comm,Nat.mul_comm b, ← Nat.two_pow_add_eq_or_of_lt hx2 b,IntKind.wrap_u32]
 have:a+2 ^ i * b≤4294967295:=by rw [Nat.mul_comm];exact hs2
 omega
theorem get32_yes (b off n c:Nat) (hl:4≤n) (x0 x1 x2 x3:Int) (w:World) (h0:w.cell? ⟨b,off,none⟩=some (.int .u8 x0)) (h1:w.cell? ⟨b,off+1,none⟩=some (.int .u8 x1)) (h2:w.cell? ⟨b,off+2,none⟩=some (.int .u8 x2)) (h3:w.cell? ⟨b,off+3,none⟩=some (.int .u8 x3))
  (a0:0≤x0∧x0≤255) (a1:0≤x1∧x1≤255) (a2:0≤x2∧x2≤255) (a3:0≤x3∧x3≤255) :
  Calls Tryz.prog 62 #[.slice (some ⟨b,off,none⟩) n c] w fun e w'=>e=.returned (.tuple #[.int .u32 (x0+256 * x1+65536 * x2+16777216 * x3),.bool true])∧∃ m,w'=w.drewN m:=by
 have hlI:(4:Int)≤(n:Int):=by omega
 obtain⟨b0,b1⟩:=a0
 obtain⟨b2,b3⟩:=a1
 obtain⟨b4,b5⟩:=a2
 obtain⟨b6,b7⟩:=a3
 have q1:=or_z 8 256 x0 x1 (by decide) b0 (by omega) b2 (by omega)
 have q2:=or_z 16 65536 (x0+x1 * 256) x2 (by decide) (by omega) (by omega) b4 (by omega)
 have q3:=or_z 24 16777216 (x0+x1 * 256+x2 * 65536) x3 (by decide) (by omega) (by omega) b6 (by omega)
 go_enter Tryz.func62,Tryz.ntmps62
 go_wp2
 go_quiet (fail)
 go_wp2
 go_ret2
 refine⟨?_,_,rfl⟩
 have e:x0+x1 * 256+x2 * 65536+x3 * 16777216=x0+256 * x1+65536 * x2+16777216 * x3:=by omega
 rw [← e]
 first | rfl | (simp only [q1,q2,q3];rfl) | (show Ending.returned (.tuple #[.int .u32 (bits .or .u32 (bits .or .u32 (bits .or .u32 x0 (x1 * 256)) (x2 * 65536)) (x3 * 16777216)),.bool true])=_;rw [q1,q2,q3])
theorem putW (A:Option Addr) (zs:List Int) (n c:Nat) (hn:zs.length=n) (hl:n≤20000) (hz:I32s zs) {B:Nat} (w:World) (hB:B≤w.heap.size) (hr:Kit.Rd w B A (zs.map (.int .i32))) :
  Calls Tryz.prog 221 #[.slice A n c,.func (.func 222) #[] #[]] w (Owned w 5 1 (encZ zs).length (zao (encZ zs))):=by
 have HN:=hid hn
 have HR:=hid hr
 have HZ:=hid hz
 have hlI:(n:Int)≤20000:=by omega
 clear hn hr
 obtain⟨i0,hi0,hi1,hi2,hi3⟩:=info_parts info_u8
 go_enter Tryz.func221,Tryz.ntmps221
 go_wp2_with (at_make;refine wpList_make_own _ rfl _ _ 27 rfl w.heap.size 5 i0 (.int .u8 0) 1 Tryz.underlying27 hi0 hi1 hi2 _ _ _ n rfl rfl (by omega) (by rw [hi3];omega) (by unfold maxLen;omega) (le_refl _) ?_;intro w1 hown1 hg1)
 have HO:=hid hown1
 have HB:=hid ((Below.refl w.heap.size w).grown hg1 (le_refl _) (fun q hq=>by cases hq))
 clear hown1 hg1
 go_loopw [5,13] (fun b i wr=>∃ (k:Nat) (v:Value),k≤n∧i=.int .i64 k∧b=v∧Hid (wr.ownsRow w.heap.size 5 1 v (encZ (zs.take k)).length (zao (encZ (zs.take k))))∧Hid (Below w.heap.size w wr)) (fun _ i _=>n - (intOf i).toNat)
 case atStart=>exact⟨0,_,Nat.zero_le _,rfl,rfl,HO,HB⟩
 case round =>
  obtain⟨k,v,hk,rfl,rfl,hO,hBw⟩:=hrel
  clear HO HB
  have hLb:=encZ_take zs HZ.out k
  obtain⟨es,hes⟩:∃ es,encZ (zs.take k)=es:=⟨_,rfl⟩
  rw [hes] at hO hLb
  obtain⟨L,hL⟩:∃ L,es.length=L:=⟨_,rfl⟩
  rw [hL] at hO hLb
  rw [HN.out] at hLb
  have HES:=hid hes
  have HL:=hid hL
  clear hes hL
  obtain⟨Av,cv,rfl, -, -, -⟩:=Kit.za2 hO.out
  by_cases hlt:k < n
  ·have hkz:k < zs.length:=by have:=HN.out;omega
   have hkI:(k:Int) < (n:Int):=by omega
   obtain⟨b1,off1,rfl, -,hcx⟩:=(HR.out.below (hBw.out.mono hB)).ints hkz
   have hzb:=hz zs[k] (List.getElem_mem hkz)
   have ht:=take_next hkz
   generalize zs[k]=z at hcx hzb ht
   obtain⟨z1,z2⟩:=hzb
   obtain⟨d1,d2⟩:=dig_len (z:=z) ⟨z1,z2⟩
   obtain⟨f,hf⟩:∃ f,foldZ z=f:=⟨_,rfl⟩
   obtain⟨f1,f2⟩:=foldZ_bd (v:=z) (by omega) (by omega)
   rw [hf] at f1 f2 d1 d2
   obtain⟨ds,hds⟩:∃ ds,digZ f=ds:=⟨_,rfl⟩
   rw [hds] at d1 d2
   obtain⟨D,hD⟩:∃ D,ds.length=D:=⟨_,rfl⟩
   rw [hD] at d1 d2
   have HT:=hid ht
   have HF:=hid hf
   have HD:=hid hds
   have HDL:=hid hD
   have HFD:=hid (show digZ (foldZ z)=ds by rw [hf,hds])
   clear ht hf hds hD
   go_wp2_with (first
    | (go_at_call 222
       with_reducible refine (putInt_to z (by omega) (by omega) ds D HFD.out HDL.out _).mono ?_
       rintro e w1 ⟨A1,c1,rfl, -, -,hr1,hb1⟩
       have HO1:=hid (Kit.own_below hO.out hb1)
       have HR1:=hid hr1
       have HB1:=hid (hBw.out.trans (hb1.mono hBw.out.size))
       clear hr1 hb1)
    | (at_builtin
       refine Kit.zaj _ rfl (.tmp 17) (.tmp 21) _ rfl w.heap.size 5 i0 (.int .u8 0) 1 1 Tryz.underlying27 hi0 hi1 hi2 hi3 rfl (by decide) _ L (zao es) rfl HO1.out _ A1 D c1 (zao ds) rfl (by simp [zao,HDL.out]) HR1.out (Kit.zbh .u8 ds) (by unfold maxLen;omega) (by omega) HB1.out.size ?_
       intro v2 w2 hown2 hg2 hat2
       have hB2:Below w.heap.size w w2:=HB1.out.grown hg2 HB1.out.size (fun q hq=>Kit.zam HO1.out q hq)
       have e:zao es ++ zao ds=zao (encZ (zs.take (k+1))):=by rw [HT.out,encZ_snoc,HES.out,HFD.out];simp [zao]
       have e2:L+D=(encZ (zs.take (k+1))).length:=by rw [HT.out,encZ_snoc,HES.out,HFD.out,List.length_append,HL.out,HDL.out]
       obtain⟨A2,c2,rfl, -, -, -⟩:=Kit.za2 hown2
       have HO3:Hid (w2.ownsRow w.heap.size 5 1 (.slice A2 (L+D) c2) (encZ (zs.take (k+1))).length (zao (encZ (zs.take (k+1))))):=by
        rw [← e2, ← e];exact hid hown2
       have HB3:=hid hB2
       clear hown2 hg2 hat2 hB2 e e2))
   go_roundw
   case rel=>exact⟨k+1,_,by omega,by go_num,rfl,HO3,HB3⟩
   case measure=>simp [intOf];omega
  ·obtain rfl:k=n:=by omega
   go_wp2_with fail
   go_ret
   refine⟨_,rfl,?_,hBw.out⟩
   have h1:=hO.out
   have h2:encZ zs=es:=by rw [← HES.out,List.take_of_length_le (by have:=HN.out;omega)]
   rw [h2,HL.out]
   exact h1
end COctet
end
end Go.Proofs.YtfgdfignoakkaaaGreatDoor
