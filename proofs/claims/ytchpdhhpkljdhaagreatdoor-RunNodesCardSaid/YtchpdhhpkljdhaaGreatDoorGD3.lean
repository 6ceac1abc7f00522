/- -/
import Derived.Deep.RegionHeld3
import Derived.Test.YtchpdhhpkljdhaaGreatDoorGD2
open Go.Value renaming int→Jj
open Go.IntKind renaming i64→Jq
open Go.Lib (hid)
open Nat (le_refl lt_of_succ_lt lt_succ_self)
set_option linter.unusedVariables false
set_option linter.unusedSimpArgs false
set_option maxRecDepth 100000
set_option maxHeartbeats 16000000
namespace Go.Proofs.YtchpdhhpkljdhaaGreatDoor
open Go Go.ChangeShapes Go.WideShapes Go.ChangeAt Go.RowKit
section
namespace CFour
open FloatNum
theorem plus_to (X Y:Nat→Value) (p q:Nat→G) (A B:Nat) (hAB:A+B < 2 ^ 53) (hX:∀ i,i < 4→IsC (X i) (p i)) (hY:∀ i,i < 4→IsC (Y i) (q i)) (hp:∀ i,Bd A (p i)) (hq:∀ i,Bd B (q i)) (w:World) :
  Calls Tryz.prog 152 #[agg4 X,agg4 Y] w fun e' w'=>(∃ S,e'=.returned (agg4 S)∧∀ i,i < 4→IsC (S i) (gadd (p i) (q i)))∧Below w.heap.size w w':=by
 have HX:=hid hX
 have HY:=hid hY
 have HP:=hid hp
 have HQ:=hid hq
 have HAB:=hid hAB
 clear hX hY hp hq hAB
 go_enter Tryz.func152,Tryz.ntmps152
 go_wp2_with fail
 go_loopw [7] (fun u wr=>∃ (k:Nat) (S:Nat→Value),k≤4∧u=Jj Jq k∧Hid (FillR (fun i=>gadd (p i) (q i)) k S)∧Hid (Four (w.heap.size+1+1+1) S wr)∧Hid (Four (w.heap.size+1+1) (fun _=>z0) wr)∧Hid (Four w.heap.size X wr)∧Hid (Four (w.heap.size+1) Y wr)∧Hid (Below w.heap.size w wr)) (fun u _=>4 - (intOf u).toNat)
 case atStart =>
  exact Zx
 case round =>
  obtain⟨k,S,hk,rfl,hS,hF,hR,hU,hV,hBw⟩:=hrel
  by_cases hlt:k < 4
  ·obtain⟨x,hx1,hx2⟩:=IsC.add (P:=Tryz.prog) (HX.out k hlt) (HY.out k hlt) (HP.out k) (HQ.out k) HAB.out
   exact Zh
  ·have hk4:k=4:=by omega
   subst hk4
   have hAll:∀ i,i < 4→IsC (S i) (gadd (p i) (q i)):=fun i (hi:i < 4)=>hS.out.all (i:=i) hi
   exact Z13
theorem times_to (X Y:Nat→Value) (p q:Nat→G) (A B:Nat) (hA:A < 2 ^ 53) (hB:B < 2 ^ 53) (hAB:A * B+A * B < 2 ^ 53) (hX:∀ i,i < 4→IsC (X i) (p i)) (hY:∀ i,i < 4→IsC (Y i) (q i)) (hp:∀ i,Bd A (p i)) (hq:∀ i,Bd B (q i)) (w:World) :
  Calls Tryz.prog 153 #[agg4 X,agg4 Y] w fun e' w'=>(∃ S,e'=.returned (agg4 S)∧∀ i,i < 4→IsC (S i) (gmul (p i) (q i)))∧Below w.heap.size w w':=by
 have HX:=hid hX
 have HY:=hid hY
 have HP:=hid hp
 have HQ:=hid hq
 have HAB:=hid hAB
 clear hX hY hp hq hAB
 go_enter Tryz.func153,Tryz.ntmps153
 go_wp2_with fail
 go_loopw [7] (fun u wr=>∃ (k:Nat) (S:Nat→Value),k≤4∧u=Jj Jq k∧Hid (FillR (fun i=>gmul (p i) (q i)) k S)∧Hid (Four (w.heap.size+1+1+1) S wr)∧Hid (Four (w.heap.size+1+1) (fun _=>z0) wr)∧Hid (Four w.heap.size X wr)∧Hid (Four (w.heap.size+1) Y wr)∧Hid (Below w.heap.size w wr)) (fun u _=>4 - (intOf u).toNat)
 case atStart =>
  exact Zx
 case round =>
  obtain⟨k,S,hk,rfl,hS,hF,hR,hU,hV,hBw⟩:=hrel
  by_cases hlt:k < 4
  ·obtain⟨x,hx1,hx2⟩:=IsC.mul (P:=Tryz.prog) (HX.out k hlt) (HY.out k hlt) (HP.out k) (HQ.out k) hA hB HAB.out
   exact Zh
  ·have hk4:k=4:=by omega
   subst hk4
   have hAll:∀ i,i < 4→IsC (S i) (gmul (p i) (q i)):=fun i (hi:i < 4)=>hS.out.all (i:=i) hi
   exact Z13
def agi (L:Nat→Int):Value:=.agg #[Jj Jq (L 0),Jj Jq (L 1),Jj Jq (L 2),Jj Jq (L 3)]
def IntR (L:Nat→Int) (k:Nat) (S:Nat→Value):Prop:=∀ i,i < 4→S i=Jj Jq (if i < k then L i else 0)
theorem IntR.step {L:Nat→Int} {k:Nat} {S:Nat→Value} (h:IntR L k S):IntR L (k+1) (fun i=>if i=k then Jj Jq (L k) else S i):=fun i hi=>by
 by_cases e:i=k
 ·subst e;simp only [if_true];rw [if_pos Zb3]
 ·simp only [if_neg e]
  rw [h i hi]
  by_cases h1:i < k
  ·rw [if_pos h1,if_pos Zb3]
  ·rw [if_neg h1,if_neg Zb3]
theorem IntR.all {L:Nat→Int} {S:Nat→Value} (h:IntR L 4 S) {i:Nat} (hi:i < 4):S i=Jj Jq (L i):=by rw [h i hi,if_pos hi]
theorem back_to (c:Nat→Value) (p:Nat→G) (B:Nat) (hB:B≤2 ^ 48) (hc:∀ i,i < 4→IsC (c i) (p i)) (hp:∀ i,Bd B (p i)) (L:Nat→Int) (hL:∀ i,i < 4→(gpart p 1 i 4).1=4 * L i) (w:World) :
  Calls Tryz.prog 151 #[agg4 c] w fun e' w'=>e'=.returned (agi L)∧Below w.heap.size w w':=by
 have HC:=hid hc
 have HP:=hid hp
 have HL:=hid hL
 have HBB:=hid hB
 clear hc hp hB hL
 have hn1:IsC (.complex .f64 0 4607182418800017408) (0,1):=⟨_,_,rfl,isF_zero,isF_one⟩
 have HN:=hid hn1
 clear hn1
 go_enter Tryz.func151,Tryz.ntmps151
 go_wp2_with (go_at_call 155;((with_reducible refine (turned_to c p (.complex .f64 0 4607182418800017408) 1 (.inl rfl) B HBB.out HC.out HP.out HN.out _).mono ?_);rintro e2 w2 ⟨⟨Y,rfl,hAll⟩,hb2⟩;obtain⟨hcc,hff⟩:=Kit.bcell hb2))
 have HY:=hid hAll
 clear hAll
 have hR:Four (w.heap.size+1) (fun _=>Jj Jq 0) w2:=by
  have h1:=(Four.new (w.alloc (.cells #[c 0,c 1,c 2,c 3] 178)) (Jj Jq 0) 192).below ((Below.refl _ _).alloc (le_refl _) (.cells #[Jj Jq 0,Jj Jq 0,Jj Jq 0,Jj Jq 0] 192)) Zb7
  exact Z2l
 have hF:Four (w.heap.size+1+1) (fun _=>Jj Jq 0) w2:=by
  have h1:=(Four.new ((w.alloc (.cells #[c 0,c 1,c 2,c 3] 178)).alloc (.cells #[Jj Jq 0,Jj Jq 0,Jj Jq 0,Jj Jq 0] 192)) (Jj Jq 0) 192)
  have e1:((w.alloc (.cells #[c 0,c 1,c 2,c 3] 178)).alloc (.cells #[Jj Jq 0,Jj Jq 0,Jj Jq 0,Jj Jq 0] 192)).heap.size=w.heap.size+1+1:=by simp
  rw [e1] at h1
  exact h1.below hb2 Zb7
 have hBw:Below w.heap.size w w2:=((((Below.refl _ _).alloc (le_refl _) _).alloc Zb7 _).alloc Zba _).trans (hb2.mono Zba)
 clear hcc hff hb2
 have HR:=hid hR
 have HF:=hid hF
 have HBw:=hid hBw
 clear hR hF hBw
 go_loopw [8] (fun u wr=>∃ (k:Nat) (S:Nat→Value),k≤4∧u=Jj Jq k∧Hid (IntR L k S)∧Hid (Four (w.heap.size+1+1) S wr)∧Hid (Four (w.heap.size+1) (fun _=>Jj Jq 0) wr)∧Hid (Below w.heap.size w wr)) (fun u _=>4 - (intOf u).toNat)
 case atStart=>exact⟨0,fun _=>Jj Jq 0,by omega,rfl,hid (fun i hi=>by rw [if_neg Zb3]),HF,HR,HBw⟩
 case round =>
  obtain⟨k,S,hk,rfl,hS,hF,hR,hB1⟩:=hrel
  by_cases hlt:k < 4
  ·obtain⟨a,b,hY,h1,h2⟩:=HY.out k hlt
   rw [HL.out k hlt] at h1
   have hbd:(4 * L k).natAbs≤2 ^ 50:=by
    have:=(gpart_bd (.inl rfl) HP.out k 4).1
    rw [HL.out k hlt] at this
    have:=HBB.out
    omega
   obtain⟨r,hr1,hr2⟩:=h1.quarter (Nat.lt_of_le_of_lt hbd Zbc)
   have hi:=hr2.toInt Zb3 .i64 (by show (-9223372036854775808:Int)≤_;omega) (by show _≤(9223372036854775807:Int);omega)
   have hq:∀ (w:World) (t:TypeId),(binOp .quo t (.float .f64 a) (.float .f64 4616189618054758400)).run Tryz.prog w=.ok (.float .f64 r) w:=fun w t=>run_float_arith w .quo t .f64 a _ r hr1
   have hcv:∀ (w:World),(convert 198 2 (.float .f64 r)).run Tryz.prog w=.ok (Jj Jq (L k)) w:=fun w=>run_convert_float_int w _ _ .f64 .i64 r _ Zb5 Zb5 hi
   have HT:=hid hS.out.step
   have HG:=hid (hF.out.set hlt (Jj Jq (L k)))
   have HR1:=hid (hR.out.other (g':=w.heap.size+1+1) (k:=k) (Jj Jq (L k)) Zb3)
   have HB1:=hid (hB1.out.setCell (p:=⟨w.heap.size+1+1,k,none⟩) Zbk (Jj Jq (L k)))
   clear hi hr1 hr2 h1 h2 hbd
   have x0:=ix0 Y
   have x1:=ix1 Y
   have x2:=ix2 Y
   have x3:=ix3 Y
   refine Zax ?_;intro c0 c1 c2 c3
   refine Zam ?_;intro f0 f1 f2 f3
   obtain rfl | rfl | rfl | rfl:=lt4 hlt
   all_goals
    go_wp2
    go_roundw
    case rel=>exact⟨_,_,by omega,by go_num,HT,HG,HR1,HB1⟩
    case measure=>simp [intOf]
  ·have hk4:k=4:=by omega
   subst hk4
   refine Z7z ?_;intro c0 c1 c2 c3 d0 d1 d2 d3 f0 f1 f2 f3
   have s0:=hS.out.all (i:=0) Zb3
   have s1:=hS.out.all (i:=1) Zb3
   have s2:=hS.out.all (i:=2) Zb3
   have s3:=hS.out.all (i:=3) Zb3
   rw [s0] at c0
   rw [s1] at c1
   rw [s2] at c2
   rw [s3] at c3
   clear s0 s1 s2 s3 hlt hk
   go_wp2
   refine bodyPost_ret (Kit.zbi rfl _ _ (w.heap.size+1) 0 [Jj Jq (L 0),Jj Jq (L 1),Jj Jq (L 2),Jj Jq (L 3)] _ rfl (zao Zb6 Zb6 Zb6 Zb6) Tryz.underlying192 rfl Zb5) rfl ?_
   refine⟨rfl,?_⟩
   have:=hB1.out
   go_grown
end CFour
end
section
namespace CWheel
open FloatNum CFour
abbrev w3 (x y z:Int):Value:=.agg #[.int .i8 x,.int .i8 y,.int .i8 z]
theorem rolled_to (x y z:Int) (hx:InW x) (hy:InW y) (hz:InW z) (w:World) :
  Calls Tryz.prog 141 #[w3 x y z] w fun e' w'=>(∃ S,e'=.returned (agg4 S)∧∀ i,i < 4→IsC (S i) (wh4 x 0 z y i))∧Below w.heap.size w w':=by
 have h0:In16 0:=by unfold In16;omega
 have H0:=hid h0
 have HX:=hid hx.to16
 have HY:=hid hy.to16
 have HZ:=hid hz.to16
 have e1:IntKind.i16.wrap x=x:=IntWalk.i16_in _ (by unfold InW at hx;omega)
 have e2:IntKind.i16.wrap y=y:=IntWalk.i16_in _ (by unfold InW at hy;omega)
 have e3:IntKind.i16.wrap z=z:=IntWalk.i16_in _ (by unfold InW at hz;omega)
 clear hx hy hz h0
 go_enter Tryz.func141,Tryz.ntmps141
 go_wp2_with fail
 go_at_call 150
 refine (of_to x 0 z y HX.out H0.out HZ.out HY.out _).mono ?_
 rintro e2 w2 ⟨⟨S,rfl,hS⟩,hb2⟩
 have HS:=hid hS
 have hR:Four (w.heap.size+1) (fun _=>z0) w2:=by
  have h1:=Four.new (w.alloc (.cells #[.int .i8 x,.int .i8 y,.int .i8 z] 153)) z0 178
  have e1:(w.alloc (.cells #[.int .i8 x,.int .i8 y,.int .i8 z] 153)).heap.size=w.heap.size+1:=by simp
  rw [e1] at h1
  exact h1.below hb2 Zb7
 have hBw:Below w.heap.size w w2:=(((Below.refl _ _).alloc (le_refl _) _).alloc Zb7 _).trans (hb2.mono Zba)
 have h1c:=oneC hS
 have HR:=hid hR
 have HBw:=hid hBw
 clear hR hBw hb2 hS e1 e2 e3
 go_wp2_with (refine wpList_store_mid rfl 178 (.tmp 2) (.tmp 13) rfl (w.heap.size+1) 0 #[S 0,S 1,S 2,S 3] rfl rfl HR.out.there Zb5 h1c ?_;change wpList _ _ _ _ _ (CFour.set4 (w.heap.size+1) S w2);have hR2:=HR.out.set4 S;have hB2:=zcl HBw.out (g:=w.heap.size+1) Zb3 S;generalize CFour.set4 (w.heap.size+1) S w2=w3' at hR2 hB2 ⊢;have c0:=hR2.1 0 Zb3;have c1:=hR2.1 1 Zb3;have c2:=hR2.1 2 Zb3;have c3:=hR2.1 3 Zb3)
 refine bodyPost_ret (Kit.zbi rfl _ _ (w.heap.size+1) 0 [S 0,S 1,S 2,S 3] _ rfl (zao c0 c1 c2 c3) Tryz.underlying178 rfl Zb5) rfl ?_
 exact⟨⟨S,rfl,HS.out⟩,hB2⟩
theorem unrolled_to (c:Nat→Value) (p:Nat→G) (B:Nat) (hB:B≤2 ^ 48) (hc:∀ i,i < 4→IsC (c i) (p i)) (hp:∀ i,Bd B (p i)) (L:Nat→Int) (hL:∀ i,i < 4→bk p i=4 * L i) (a b:Int) (ha:L 0=a) (hb:L 1=b) (w:World) :
  Calls Tryz.prog 143 #[agg4 c] w fun e' w'=>e'=.returned (.agg #[Jj Jq a,Jj Jq b])∧Below w.heap.size w w':=by
 have HC:=hid hc
 have HP:=hid hp
 have HL:=hid hL
 have HBB:=hid hB
 subst ha hb
 clear hc hp hB hL
 go_enter Tryz.func143,Tryz.ntmps143
 go_wp2_with fail
 go_at_call 151
 refine (back_to c p B HBB.out HC.out HP.out L HL.out _).mono ?_
 rintro e2 w2 ⟨rfl,hb2⟩
 have hR:Two (w.heap.size+1) (Jj Jq 0) (Jj Jq 0) w2:=by
  have h1:=Two.new (w.alloc (.cells #[c 0,c 1,c 2,c 3] 178)) (Jj Jq 0) (Jj Jq 0) 180
  exact Z2l
 have hBw:Below w.heap.size w w2:=(((Below.refl _ _).alloc (le_refl _) _).alloc Zb7 _).trans (hb2.mono Zba)
 have hlt:w.heap.size+1 < w2.heap.size:=hR.2.2.2
 have HR:=hid hR
 have HBw:=hid hBw
 clear hR hBw hb2
 go_wp2_with (first
  | (refine wpList_store_mid rfl 192 (.tmp 3) (.tmp 5) rfl w2.heap.size 0 #[Jj Jq (L 0),Jj Jq (L 1),Jj Jq (L 2),Jj Jq (L 3)] rfl rfl (Four.new w2 (Jj Jq 0) 192).there Zb5 (one4 _ _ _ _) ?_;change wpList _ _ _ _ _ (CFour.set4 w2.heap.size (fun i=>Jj Jq (L i)) (w2.alloc (.cells #[Jj Jq 0,Jj Jq 0,Jj Jq 0,Jj Jq 0] 192)));have hF:=(Four.new w2 (Jj Jq 0) 192).set4 (fun i=>Jj Jq (L i));have hR2:=(HR.out.below ((Below.refl w2.heap.size w2).alloc (le_refl _) (.cells #[Jj Jq 0,Jj Jq 0,Jj Jq 0,Jj Jq 0] 192)) hlt).oth4 (g':=w2.heap.size) (fun i=>Jj Jq (L i)) (Nat.ne_of_lt hlt);have hB2:=zcl (HBw.out.trans (((Below.refl w2.heap.size w2).alloc (le_refl _) (.cells #[Jj Jq 0,Jj Jq 0,Jj Jq 0,Jj Jq 0] 192)).mono Zb3)) (g:=w2.heap.size) Zb3 (fun i=>Jj Jq (L i));generalize CFour.set4 w2.heap.size (fun i=>Value.int .i64 (L i)) (w2.alloc (.cells #[Jj Jq 0,Jj Jq 0,Jj Jq 0,Jj Jq 0] 192))=w3' at hF hR2 hB2 ⊢;generalize w2.heap.size=gg at hF hR2 hB2 hlt ⊢;have d0:=hF.1 0 Zb3;have d1:=hF.1 1 Zb3;have HR2:=hid hR2;have HB2:=hid hB2;clear hF hR2 hB2)
  | (refine wpList_store_mid rfl 180 (.tmp 2) (.tmp 10) rfl (w.heap.size+1) 0 #[Jj Jq (L 0),Jj Jq (L 1)] rfl rfl HR2.out.there Zb5 (all_oneCell_toArray (cs:=[Value.int .i64 (L 0),Jj Jq (L 1)]) (by intro v hv;simp at hv;rcases hv with rfl | rfl <;> rfl)) ?_;change wpList _ _ _ _ _ (CFour.set2 (w.heap.size+1) (Jj Jq (L 0)) (Jj Jq (L 1)) w3');have hR3:=HR2.out.set2 (Jj Jq (L 0)) (Jj Jq (L 1));have hB3:=zcq HB2.out (g:=w.heap.size+1) Zb3 (Jj Jq (L 0)) (Jj Jq (L 1));generalize CFour.set2 (w.heap.size+1) (Jj Jq (L 0)) (Jj Jq (L 1)) w3'=w4 at hR3 hB3 ⊢))
 refine bodyPost_ret (Kit.zbi rfl _ _ (w.heap.size+1) 0 [Jj Jq (L 0),Jj Jq (L 1)] _ rfl (Kit.zc1 hR3.1 hR3.2.1) Tryz.underlying180 rfl Zb5) rfl ?_
 exact⟨rfl,hB3⟩
theorem blocks_to (n:Int) (h1 : -9223372036854775808≤n) (h2:n≤9223372036854775807) (b:Int) (hb:b=if n < 3 then 0 else (n - 1) / 2) (w:World) :
  Calls Tryz.prog 142 #[Jj Jq n] w fun e' w'=>e'=.returned (Jj Jq b)∧w=w':=by
 by_cases h:n < 3
 ·rw [if_pos h] at hb
  subst hb
  go_enter Tryz.func142,Tryz.ntmps142
  exact Z1f
 ·rw [if_neg h] at hb
  have e1:IntKind.i64.wrap (n - 3)=n - 3:=IntWalk.i64_in _ Zb3
  have e2:IntKind.i64.wrap (n - 3+2)=n - 1:=by rw [IntWalk.i64_in _ Zb3];omega
  have e3:(n - 1).tdiv 2=b:=by rw [hb];exact Int.tdiv_eq_ediv_of_nonneg Zb3
  have e4:IntKind.i64.wrap b=b:=IntWalk.i64_in _ Zb3
  clear hb
  go_enter Tryz.func142,Tryz.ntmps142
  exact Z1f
end CWheel
end
end Go.Proofs.YtchpdhhpkljdhaaGreatDoor
