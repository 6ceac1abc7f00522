/- -/
import Derived.Laws.CopyOwn
import Derived.Test.YtahekhpeomcfjaaGreatDoorGJ6
open Go.Lib (hid)
open Nat (le_refl lt_of_succ_lt lt_succ_self)
set_option linter.unusedVariables false
set_option linter.unusedSimpArgs false
set_option maxRecDepth 100000
set_option maxHeartbeats 16000000
namespace Go.Proofs.YtahekhpeomcfjaaGreatDoor
namespace CSat
end CSat
open Go Go.ChangeShapes Go.WideShapes Go.ChangeAt Go.RowKit
section
namespace CShape
open Plain CSat
def indexZ (H W C h w c z:Int):Int:=if inB H W C h w c then (h * W+w) * C+c else z
theorem indexZ_yes {H W C h w c z:Int} (hs:inB H W C h w c=true):indexZ H W C h w c z=(h * W+w) * C+c:=by unfold indexZ;rw [if_pos hs]
theorem indexZ_no {H W C h w c z:Int} (hs:inB H W C h w c=false):indexZ H W C h w c z=z:=by unfold indexZ;rw [if_neg (by simp [hs])]
theorem index_to (H W C h w c r:Int) (b:Bool) (hs:inB H W C h w c=b) (hr:indexZ H W C h w c 0=r) (wd:World) :
  Calls Tryz.prog 133 #[.agg #[.int .i64 H,.int .i64 W,.int .i64 C],.int .i64 h,.int .i64 w,.int .i64 c] wd fun e w'=>e=.returned (.tuple #[.int .i64 r,.bool b])∧Below wd.heap.size wd w':=by
 subst hr
 cases b
 ·rw [indexZ_no hs];exact index_no H W C h w c hs wd
 ·rw [indexZ_yes hs]
  simp only [inB,Bool.and_eq_true,decide_eq_true_eq] at hs
  obtain⟨h0,h1,h2,h3,h4,h5,h6⟩:=hs
  exact index_yes H W C h w c _ h0 h1 h2 h3 h4 h5 h6 rfl wd
end CShape
end
section
namespace CFour
open FloatNum
def agi (L:Nat→Int):Value:=.agg #[.int .i64 (L 0),.int .i64 (L 1),.int .i64 (L 2),.int .i64 (L 3)]
def IntR (L:Nat→Int) (k:Nat) (S:Nat→Value):Prop:=∀ i,i < 4→S i=.int .i64 (if i < k then L i else 0)
theorem IntR.step {L:Nat→Int} {k:Nat} {S:Nat→Value} (h:IntR L k S):IntR L (k+1) (fun i=>if i=k then .int .i64 (L k) else S i):=fun i hi=>by
 by_cases e:i=k
 ·subst e;simp only [if_true];rw [if_pos (by omega)]
 ·simp only [if_neg e]
  rw [h i hi]
  by_cases h1:i < k
  ·rw [if_pos h1,if_pos (by omega)]
  ·rw [if_neg h1,if_neg (by omega)]
theorem IntR.all {L:Nat→Int} {S:Nat→Value} (h:IntR L 4 S) {i:Nat} (hi:i < 4):S i=.int .i64 (L i):=by rw [h i hi,if_pos hi]
theorem back_to (c:Nat→Value) (p:Nat→G) (B:Nat) (hB:B≤2 ^ 48) (hc:∀ i,i < 4→IsC (c i) (p i)) (hp:∀ i,Bd B (p i)) (L:Nat→Int) (hL:∀ i,i < 4→(gpart p 1 i 4).1=4 * L i) (w:World) :
  Calls Tryz.prog 170 #[agg4 c] w fun e' w'=>e'=.returned (agi L)∧Below w.heap.size w w':=by
 have HC:=hid hc
 have HP:=hid hp
 have HL:=hid hL
 have HBB:=hid hB
 clear hc hp hB hL
 have hn1:IsC (.complex .f64 0 4607182418800017408) (0,1):=⟨_,_,rfl,isF_zero,isF_one⟩
 have HN:=hid hn1
 clear hn1
 go_enter Tryz.func170,Tryz.ntmps170
 go_wp2_with (go_at_call 173;((with_reducible refine (turned_to c p (.complex .f64 0 4607182418800017408) 1 (.inl rfl) B HBB.out HC.out HP.out HN.out _).mono ?_);rintro e2 w2 ⟨⟨Y,rfl,hAll⟩,hb2⟩;obtain⟨hcc,hff⟩:=Kit.bcell hb2))
 have HY:=hid hAll
 clear hAll
 have hR:Four (w.heap.size+1) (fun _=>.int .i64 0) w2:=by
  have h1:=(Four.new (w.alloc (.cells #[c 0,c 1,c 2,c 3] 217)) (.int .i64 0) 224).below ((Below.refl _ _).alloc (le_refl _) (.cells #[.int .i64 0,.int .i64 0,.int .i64 0,.int .i64 0] 224)) (by simp)
  have e1:(w.alloc (.cells #[c 0,c 1,c 2,c 3] 217)).heap.size=w.heap.size+1:=by simp
  rw [e1] at h1
  exact h1.below hb2 (by simp)
 have hF:Four (w.heap.size+1+1) (fun _=>.int .i64 0) w2:=by
  have h1:=(Four.new ((w.alloc (.cells #[c 0,c 1,c 2,c 3] 217)).alloc (.cells #[.int .i64 0,.int .i64 0,.int .i64 0,.int .i64 0] 224)) (.int .i64 0) 224)
  have e1:((w.alloc (.cells #[c 0,c 1,c 2,c 3] 217)).alloc (.cells #[.int .i64 0,.int .i64 0,.int .i64 0,.int .i64 0] 224)).heap.size=w.heap.size+1+1:=by simp
  rw [e1] at h1
  exact h1.below hb2 (by simp)
 have hBw:Below w.heap.size w w2:=((((Below.refl _ _).alloc (le_refl _) _).alloc (by simp) _).alloc (by simp;omega) _).trans (hb2.mono (by simp;omega))
 clear hcc hff hb2
 have HR:=hid hR
 have HF:=hid hF
 have HBw:=hid hBw
 clear hR hF hBw
 go_loopw [8] (fun u wr=>∃ (k:Nat) (S:Nat→Value),k≤4∧u=.int .i64 k∧Hid (IntR L k S)∧Hid (Four (w.heap.size+1+1) S wr)∧Hid (Four (w.heap.size+1) (fun _=>.int .i64 0) wr)∧Hid (Below w.heap.size w wr)) (fun u _=>4 - (intOf u).toNat)
 case atStart=>exact⟨0,fun _=>.int .i64 0,by omega,rfl,hid (fun i hi=>by rw [if_neg (by omega)]),HF,HR,HBw⟩
 case round =>
  obtain⟨k,S,hk,rfl,hS,hF,hR,hB1⟩:=hrel
  by_cases hlt:k < 4
  ·obtain⟨a,b,hY,h1,h2⟩:=HY.out k hlt
   rw [HL.out k hlt] at h1
   have hbd:(4 * L k).natAbs≤2 ^ 50:=by
    have:=(gpart_bd (.inl rfl) HP.out k 4).1
    rw [HL.out k hlt] at this
    have:=HBB.out
    omega
   obtain⟨r,hr1,hr2⟩:=h1.quarter (Nat.lt_of_le_of_lt hbd (by decide))
   have hi:=hr2.toInt (by omega) .i64 (by show (-9223372036854775808:Int)≤_;omega) (by show _≤(9223372036854775807:Int);omega)
   have hq:∀ (w:World) (t:TypeId),(binOp .quo t (.float .f64 a) (.float .f64 4616189618054758400)).run Tryz.prog w=.ok (.float .f64 r) w:=fun w t=>run_float_arith w .quo t .f64 a _ r hr1
   have hcv:∀ (w:World),(convert 227 2 (.float .f64 r)).run Tryz.prog w=.ok (.int .i64 (L k)) w:=fun w=>run_convert_float_int w _ _ .f64 .i64 r _ (by kernel_rfl) (by kernel_rfl) hi
   have HT:=hid hS.out.step
   have HG:=hid (hF.out.set hlt (.int .i64 (L k)))
   have HR1:=hid (hR.out.other (g':=w.heap.size+1+1) (k:=k) (.int .i64 (L k)) (by omega))
   have HB1:=hid (hB1.out.setCell (p:=⟨w.heap.size+1+1,k,none⟩) (by show w.heap.size≤w.heap.size+1+1;omega) (.int .i64 (L k)))
   clear hi hr1 hr2 h1 h2 hbd
   have x0:=ix0 Y
   have x1:=ix1 Y
   have x2:=ix2 Y
   have x3:=ix3 Y
   have c0:=hF.out.1 0 (by omega)
   have c1:=hF.out.1 1 (by omega)
   have c2:=hF.out.1 2 (by omega)
   have c3:=hF.out.1 3 (by omega)
   have f0:=hF.out.2.1 0 (by omega)
   have f1:=hF.out.2.1 1 (by omega)
   have f2:=hF.out.2.1 2 (by omega)
   have f3:=hF.out.2.1 3 (by omega)
   obtain rfl | rfl | rfl | rfl:=lt4 hlt
   all_goals
    go_wp2
    go_roundw
    case rel=>exact⟨_,_,by omega,by go_num,HT,HG,HR1,HB1⟩
    case measure=>simp [intOf]
  ·have hk4:k=4:=by omega
   subst hk4
   have c0:=hF.out.1 0 (by omega)
   have c1:=hF.out.1 1 (by omega)
   have c2:=hF.out.1 2 (by omega)
   have c3:=hF.out.1 3 (by omega)
   have d0:=hR.out.1 0 (by omega)
   have d1:=hR.out.1 1 (by omega)
   have d2:=hR.out.1 2 (by omega)
   have d3:=hR.out.1 3 (by omega)
   have f0:=hR.out.2.1 0 (by omega)
   have f1:=hR.out.2.1 1 (by omega)
   have f2:=hR.out.2.1 2 (by omega)
   have f3:=hR.out.2.1 3 (by omega)
   have s0:=hS.out.all (i:=0) (by omega)
   have s1:=hS.out.all (i:=1) (by omega)
   have s2:=hS.out.all (i:=2) (by omega)
   have s3:=hS.out.all (i:=3) (by omega)
   rw [s0] at c0
   rw [s1] at c1
   rw [s2] at c2
   rw [s3] at c3
   clear s0 s1 s2 s3 hlt hk
   go_wp2
   refine bodyPost_ret (Kit.za6 rfl _ _ (w.heap.size+1) 0 [.int .i64 (L 0),.int .i64 (L 1),.int .i64 (L 2),.int .i64 (L 3)] _ rfl (zan (by go_cell) (by go_cell) (by go_cell) (by go_cell)) Tryz.underlying224 rfl (by kernel_rfl)) rfl ?_
   refine⟨rfl,?_⟩
   have:=hB1.out
   go_grown
end CFour
end
section
namespace CWheel
open FloatNum CFour
abbrev w3 (x y z:Int):Value:=.agg #[.int .i8 x,.int .i8 y,.int .i8 z]
theorem rolled_to (x y z:Int) (hx:InW x) (hy:InW y) (hz:InW z) (w:World) :
  Calls Tryz.prog 164 #[w3 x y z] w fun e' w'=>(∃ S,e'=.returned (agg4 S)∧∀ i,i < 4→IsC (S i) (wh4 x 0 z y i))∧Below w.heap.size w w':=by
 have h0:In16 0:=by unfold In16;omega
 have H0:=hid h0
 have HX:=hid hx.to16
 have HY:=hid hy.to16
 have HZ:=hid hz.to16
 have e1:IntKind.i16.wrap x=x:=IntWalk.i16_in _ (by unfold InW at hx;omega)
 have e2:IntKind.i16.wrap y=y:=IntWalk.i16_in _ (by unfold InW at hy;omega)
 have e3:IntKind.i16.wrap z=z:=IntWalk.i16_in _ (by unfold InW at hz;omega)
 clear hx hy hz h0
 go_enter Tryz.func164,Tryz.ntmps164
 go_wp2_with fail
 go_at_call 169
 refine (of_to x 0 z y HX.out H0.out HZ.out HY.out _).mono ?_
 rintro e2 w2 ⟨⟨S,rfl,hS⟩,hb2⟩
 have HS:=hid hS
 have hR:Four (w.heap.size+1) (fun _=>z0) w2:=by
  have h1:=Four.new (w.alloc (.cells #[.int .i8 x,.int .i8 y,.int .i8 z] 200)) z0 217
  have e1:(w.alloc (.cells #[.int .i8 x,.int .i8 y,.int .i8 z] 200)).heap.size=w.heap.size+1:=by simp
  rw [e1] at h1
  exact h1.below hb2 (by simp)
 have hBw:Below w.heap.size w w2:=(((Below.refl _ _).alloc (le_refl _) _).alloc (by simp) _).trans (hb2.mono (by simp;omega))
 have h1c:=oneC hS
 have HR:=hid hR
 have HBw:=hid hBw
 clear hR hBw hb2 hS e1 e2 e3
 go_wp2_with (refine wpList_store_mid rfl 217 (.tmp 2) (.tmp 13) rfl (w.heap.size+1) 0 #[S 0,S 1,S 2,S 3] rfl rfl HR.out.there (by kernel_rfl) h1c ?_;change wpList _ _ _ _ _ (CFour.set4 (w.heap.size+1) S w2);have hR2:=HR.out.set4 S;have hB2:=zb9 HBw.out (g:=w.heap.size+1) (by omega) S;generalize CFour.set4 (w.heap.size+1) S w2=w3' at hR2 hB2 ⊢;have c0:=hR2.1 0 (by omega);have c1:=hR2.1 1 (by omega);have c2:=hR2.1 2 (by omega);have c3:=hR2.1 3 (by omega))
 refine bodyPost_ret (Kit.za6 rfl _ _ (w.heap.size+1) 0 [S 0,S 1,S 2,S 3] _ rfl (zan c0 c1 c2 c3) Tryz.underlying217 rfl (by kernel_rfl)) rfl ?_
 exact⟨⟨S,rfl,HS.out⟩,hB2⟩
theorem unrolled_to (c:Nat→Value) (p:Nat→G) (B:Nat) (hB:B≤2 ^ 48) (hc:∀ i,i < 4→IsC (c i) (p i)) (hp:∀ i,Bd B (p i)) (L:Nat→Int) (hL:∀ i,i < 4→bk p i=4 * L i) (a b:Int) (ha:L 0=a) (hb:L 1=b) (w:World) :
  Calls Tryz.prog 166 #[agg4 c] w fun e' w'=>e'=.returned (.agg #[.int .i64 a,.int .i64 b])∧Below w.heap.size w w':=by
 have HC:=hid hc
 have HP:=hid hp
 have HL:=hid hL
 have HBB:=hid hB
 subst ha hb
 clear hc hp hB hL
 go_enter Tryz.func166,Tryz.ntmps166
 go_wp2_with fail
 go_at_call 170
 refine (back_to c p B HBB.out HC.out HP.out L HL.out _).mono ?_
 rintro e2 w2 ⟨rfl,hb2⟩
 have hR:Two (w.heap.size+1) (.int .i64 0) (.int .i64 0) w2:=by
  have h1:=Two.new (w.alloc (.cells #[c 0,c 1,c 2,c 3] 217)) (.int .i64 0) (.int .i64 0) 219
  have e1:(w.alloc (.cells #[c 0,c 1,c 2,c 3] 217)).heap.size=w.heap.size+1:=by simp
  rw [e1] at h1
  exact h1.below hb2 (by simp)
 have hBw:Below w.heap.size w w2:=(((Below.refl _ _).alloc (le_refl _) _).alloc (by simp) _).trans (hb2.mono (by simp;omega))
 have hlt:w.heap.size+1 < w2.heap.size:=hR.2.2.2
 have HR:=hid hR
 have HBw:=hid hBw
 clear hR hBw hb2
 go_wp2_with (first
  | (refine wpList_store_mid rfl 224 (.tmp 3) (.tmp 5) rfl w2.heap.size 0 #[.int .i64 (L 0),.int .i64 (L 1),.int .i64 (L 2),.int .i64 (L 3)] rfl rfl (Four.new w2 (.int .i64 0) 224).there (by kernel_rfl) (one4 _ _ _ _) ?_;change wpList _ _ _ _ _ (CFour.set4 w2.heap.size (fun i=>.int .i64 (L i)) (w2.alloc (.cells #[.int .i64 0,.int .i64 0,.int .i64 0,.int .i64 0] 224)));have hF:=(Four.new w2 (.int .i64 0) 224).set4 (fun i=>.int .i64 (L i));have hR2:=(HR.out.below ((Below.refl w2.heap.size w2).alloc (le_refl _) (.cells #[.int .i64 0,.int .i64 0,.int .i64 0,.int .i64 0] 224)) hlt).oth4 (g':=w2.heap.size) (fun i=>.int .i64 (L i)) (Nat.ne_of_lt hlt);have hB2:=zb9 (HBw.out.trans (((Below.refl w2.heap.size w2).alloc (le_refl _) (.cells #[.int .i64 0,.int .i64 0,.int .i64 0,.int .i64 0] 224)).mono (by omega))) (g:=w2.heap.size) (by omega) (fun i=>.int .i64 (L i));generalize CFour.set4 w2.heap.size (fun i=>Value.int .i64 (L i)) (w2.alloc (.cells #[.int .i64 0,.int .i64 0,.int .i64 0,.int .i64 0] 224))=w3' at hF hR2 hB2 ⊢;generalize w2.heap.size=gg at hF hR2 hB2 hlt ⊢;have d0:=hF.1 0 (by omega);have d1:=hF.1 1 (by omega);have HR2:=hid hR2;have HB2:=hid hB2;clear hF hR2 hB2)
  | (refine wpList_store_mid rfl 219 (.tmp 2) (.tmp 10) rfl (w.heap.size+1) 0 #[.int .i64 (L 0),.int .i64 (L 1)] rfl rfl HR2.out.there (by kernel_rfl) (all_oneCell_toArray (cs:=[Value.int .i64 (L 0),.int .i64 (L 1)]) (by intro v hv;simp at hv;rcases hv with rfl | rfl <;> rfl)) ?_;change wpList _ _ _ _ _ (CFour.set2 (w.heap.size+1) (.int .i64 (L 0)) (.int .i64 (L 1)) w3');have hR3:=HR2.out.set2 (.int .i64 (L 0)) (.int .i64 (L 1));have hB3:=zcc HB2.out (g:=w.heap.size+1) (by omega) (.int .i64 (L 0)) (.int .i64 (L 1));generalize CFour.set2 (w.heap.size+1) (.int .i64 (L 0)) (.int .i64 (L 1)) w3'=w4 at hR3 hB3 ⊢))
 refine bodyPost_ret (Kit.za6 rfl _ _ (w.heap.size+1) 0 [.int .i64 (L 0),.int .i64 (L 1)] _ rfl (Kit.zcm hR3.1 hR3.2.1) Tryz.underlying219 rfl (by kernel_rfl)) rfl ?_
 exact⟨rfl,hB3⟩
theorem blocks_to (n:Int) (h1 : -9223372036854775808≤n) (h2:n≤9223372036854775807) (b:Int) (hb:b=if n < 3 then 0 else (n - 1) / 2) (w:World) :
  Calls Tryz.prog 165 #[.int .i64 n] w fun e' w'=>e'=.returned (.int .i64 b)∧w=w':=by
 by_cases h:n < 3
 ·rw [if_pos h] at hb
  subst hb
  go_enter Tryz.func165,Tryz.ntmps165
  go_wp2_with fail
  go_ret
  exact⟨rfl,rfl⟩
 ·rw [if_neg h] at hb
  have e1:IntKind.i64.wrap (n - 3)=n - 3:=IntWalk.i64_in _ (by omega)
  have e2:IntKind.i64.wrap (n - 3+2)=n - 1:=by rw [IntWalk.i64_in _ (by omega)];omega
  have e3:(n - 1).tdiv 2=b:=by rw [hb];exact Int.tdiv_eq_ediv_of_nonneg (by omega)
  have e4:IntKind.i64.wrap b=b:=IntWalk.i64_in _ (by omega)
  clear hb
  go_enter Tryz.func165,Tryz.ntmps165
  go_wp2_with fail
  go_ret
  exact⟨rfl,rfl⟩
theorem in16 {n:Int} (h:(Lit.int .i16 n).wf=true):In16 n:=by
 have : -32768≤n∧n≤32767:=by simpa [Lit.wf,IntKind.min,IntKind.max,IntKind.signed,IntKind.bits] using h
 exact this
def XR (rows:List (List Int)) (k i:Nat):Int:=(rows.getD k []).getD i 0
theorem XR_at {rows:List (List Int)} {k:Nat} (hk:k < rows.length) (i:Nat):XR rows k i=rows[k].getD i 0:=by
 unfold XR
 rw [List.getD_eq_getElem?_getD (l:=rows),List.getElem?_eq_getElem hk];rfl
theorem XR_in {rows:List (List Int)} (h:∀ row∈rows,∀ n∈row,(Lit.int .i16 n).wf=true) (k i:Nat):In16 (XR rows k i):=by
 have h0:In16 0:=by unfold In16;omega
 unfold XR
 rw [List.getD_eq_getElem?_getD (l:=rows)]
 cases hr:rows[k]? with
 | none=>simp;exact h0
 | some row =>
   rw [Option.getD_some,List.getD_eq_getElem?_getD]
   cases hz:row[i]? with
   | none=>exact h0
   | some z =>
     have:=h row (List.mem_of_getElem? hr) z (List.mem_of_getElem? hz)
     rw [Option.getD_some]
     exact in16 this
def Wts (w:World) (B:Nat) (A:Option Addr) (n:Nat) (W:Nat→Nat→Int):Prop :=
 ∀ k,k < n→∃ b o,A=some ⟨b,o,none⟩∧b < B∧w.rangeAt b (o+k * 3) [.int .i8 (W k 0),.int .i8 (W k 1),.int .i8 (W k 2)]
theorem zcg {w w':World} {B b o:Nat} {vs:List Value} (h:w.rangeAt b o vs) (hb:Below B w w') (hB:b < B):w'.rangeAt b o vs:=fun j v hj=>by
 rw [hb.cell (p:=⟨b,o+j,none⟩) hB];exact h j v hj
def Wheels (w:World) (B:Nat) (A:Option Addr) (n:Nat) (W:Nat→Nat→Int):Prop :=
 ∀ k,k < n→∃ (b o:Nat) (S:Nat→Value),A=some ⟨b,o,none⟩∧b < B∧(∀ i,i < 4→IsC (S i) (wh4 (W k 0) 0 (W k 2) (W k 1) i))∧w.rangeAt b (o+k * 4) [S 0,S 1,S 2,S 3]
theorem splice_four (row:List Int) (f:Nat):splice [.int .i16 0,.int .i16 0,.int .i16 0,.int .i16 0] 0 (((row.drop f).take 4).map (Value.int .i16)) =
  [.int .i16 (row.getD f 0),.int .i16 (row.getD (f+1) 0),.int .i16 (row.getD (f+2) 0),.int .i16 (row.getD (f+3) 0)]:=by
 have e:∀ j,row.getD (f+j) 0=(row.drop f).getD j 0:=fun j=>by
  rw [List.getD_eq_getElem?_getD,List.getD_eq_getElem?_getD,List.getElem?_drop]
 have e0:=e 0
 rw [Nat.add_zero] at e0
 rw [e0,e 1,e 2,e 3]
 generalize row.drop f=l
 unfold splice
 match l with
 | []=>rfl
 | [a]=>rfl
 | [a,b]=>rfl
 | [a,b,c]=>rfl
 | a :: b :: c :: d :: l=>simp
end CWheel
end
section
namespace CGemm
open Plain
def psum (G:Nat→Int):Nat→Int
 | 0=>0
 | n+1=>psum G n+G n
theorem psum_bd {G:Nat→Int} {b:Int} {n:Nat} (h:∀ k,k < n → -b≤G k∧G k≤b) : -(b * n)≤psum G n∧psum G n≤b * n:=by
 induction n with
 | zero=>simp [psum]
 | succ n ih =>
   have h1:=ih (fun k hk=>h k (by omega))
   have h2:=h n (by omega)
   have e:b * ((n+1:Nat):Int)=b * (n:Int)+b:=by rw [show ((n+1:Nat):Int)=(n:Int)+1 by omega,Int.mul_add,Int.mul_one]
   rw [e]
   simp only [psum]
   omega
theorem zb8 {G G':Nat→Int} {n:Nat} (h:∀ k,k < n→G k=G' k):psum G n=psum G' n:=by
 induction n with
 | zero=>rfl
 | succ n ih=>simp only [psum];rw [ih (fun k hk=>h k (by omega)),h n (by omega)]
theorem zcq (a b:Int):IntKind.i32.wrap (IntKind.i32.wrap a+b)=IntKind.i32.wrap (a+b):=by rw [IntKind.wrap_i32,IntKind.wrap_i32,IntKind.wrap_i32];omega
def I16b (zs:List Int):Prop:=∀ q, -32768≤zs.getD q 0∧zs.getD q 0≤32767
def I8b (zs:List Int):Prop:=∀ q, -128≤zs.getD q 0∧zs.getD q 0≤127
theorem mul_bd {x y:Int} (x1 : -32768≤x) (x2:x≤32767) (y1 : -128≤y) (y2:y≤127) : -4194304≤x * y∧x * y≤4194304:=by
 have a1:0≤(32768+x) * (127 - y):=Int.mul_nonneg (by omega) (by omega)
 have a2:0≤(32768+x) * (128+y):=Int.mul_nonneg (by omega) (by omega)
 have a3:0≤(32767 - x) * (127 - y):=Int.mul_nonneg (by omega) (by omega)
 have a4:0≤(32767 - x) * (128+y):=Int.mul_nonneg (by omega) (by omega)
 simp only [Int.add_mul,Int.sub_mul,Int.mul_sub,Int.mul_add] at a1 a2 a3 a4
 omega
def dotF (xs ys:List Int) (k:Nat):Int:=xs.getD k 0 * ys.getD k 0
theorem zav {w:World} {B:Nat} {A:Option Addr} {k:IntKind} {zs:List Int} (h:Kit.Rd w B A (zs.map (.int k))) {j:Nat} (hj:j < zs.length) :
  ∃ b off,A=some ⟨b,off,none⟩∧b < B∧∀ i,i < zs.length→w.cell? ⟨b,off+i,none⟩=some (.int k (zs.getD i 0)):=by
 obtain⟨b,off,e,hb,hc⟩:=h.plain (by simp;omega)
 exact⟨b,off,e,hb,fun i hi=>hc i _ (by simp [List.getD_eq_getElem?_getD,List.getElem?_eq_getElem hi])⟩
theorem dot_to (A B:Option Addr) (xs ys:List Int) (n m c d b:Nat) (hx:xs.length=n) (hy:ys.length=m) (hb:min n m=b) (hnc:n≤c) (hmd:m≤d) (hb1:b≤1000000) (hc:c≤maxLen) (hd:d≤maxLen) (hxb:I16b xs) (hyb:I8b ys)
  (w:World) {B1 B2:Nat} (hr:Kit.Rd w B1 A (xs.map (.int .i16))) (hs:Kit.Rd w B2 B (ys.map (.int .i8))) (R:Int) (hR:IntKind.i32.wrap (psum (dotF xs ys) b)=R) :
  Calls Tryz.prog 159 #[.slice A n c,.slice B m d] w fun e w'=>e=.returned (.int .i32 R)∧∃ q,w'=w.drewN q:=by
 have HRR:=hid hR
 have HXB:=hid hxb
 have HYB:=hid hyb
 have HR:=hid hr
 have HS:=hid hs
 have hbn:b≤n:=by omega
 have hbm:b≤m:=by omega
 have hbc:b≤c:=by omega
 have hbd:b≤d:=by omega
 have hcm:c≤9223372036854775807:=by unfold maxLen at hc;omega
 have hdm:d≤9223372036854775807:=by unfold maxLen at hd;omega
 have hb0:(0:Int)≤(b:Int):=by omega
 have hbc':(b:Int)≤(c:Int):=by omega
 have hbd':(b:Int)≤(d:Int):=by omega
 clear hR hxb hyb hr hs hc hd
 rcases (show (n≤m∧b=n)∨(m < n∧b=m) by omega) with ⟨hle,rfl⟩ | ⟨hle,rfl⟩
 all_goals
  go_enter Tryz.func159,Tryz.ntmps159
  go_wp2_with fail
  go_quiet (fail)
  go_wp2_with fail
  go_loopw [6,22] (fun u i wr=>∃ k:Nat,k≤b∧i=.int .i64 k∧u=.int .i32 (IntKind.i32.wrap (psum (dotF xs ys) k))∧Hid (wr=w.drewN nq)) (fun _ i _=>b - (intOf i).toNat)
  case atStart=>exact⟨0,Nat.zero_le _,rfl,congrArg (Value.int .i32) (by simp [psum,IntKind.wrap_i32]),hid rfl⟩
  case round =>
   obtain⟨k,hk,rfl,rfl,hw⟩:=hrel
   obtain rfl:=hw.out
   clear hw
   by_cases hlt:k < b
   ·obtain⟨b1,o1,rfl,_,hcx0⟩:=zav HR.out (j:=0) (by omega)
    obtain⟨b2,o2,rfl,_,hcy0⟩:=zav HS.out (j:=0) (by omega)
    have hcx:=hcx0 k (by omega)
    have hcy:=hcy0 k (by omega)
    clear hcx0 hcy0
    have hk0:(0:Int)≤(k:Int):=by omega
    have hkb:(k:Int) < (b:Int):=by omega
    obtain⟨x1,x2⟩:=HXB.out k
    obtain⟨y1,y2⟩:=HYB.out k
    obtain⟨t1,t2⟩:=mul_bd x1 x2 y1 y2
    have hnext:IntKind.i32.wrap (IntKind.i32.wrap (psum (dotF xs ys) k)+xs.getD k 0 * ys.getD k 0)=IntKind.i32.wrap (psum (dotF xs ys) (k+1)):=by
     rw [zcq];simp only [psum];rfl
    generalize xs.getD k 0=x at hcx x1 x2 t1 t2 hnext
    generalize ys.getD k 0=y at hcy y1 y2 t1 t2 hnext
    obtain⟨u1,hu1⟩:∃ u1,IntKind.i32.wrap (psum (dotF xs ys) k)=u1:=⟨_,rfl⟩
    obtain⟨u2,hu2⟩:∃ u2,IntKind.i32.wrap (psum (dotF xs ys) (k+1))=u2:=⟨_,rfl⟩
    have HU2:=hid hu2
    rw [hu1,hu2] at hnext
    rw [hu1]
    have e1:IntKind.i32.wrap x=x:=IntWalk.i32_in _ (by omega)
    have e2:IntKind.i32.wrap y=y:=IntWalk.i32_in _ (by omega)
    have e3:IntKind.i32.wrap (x * y)=x * y:=IntWalk.i32_in _ (by omega)
    clear hu1 hu2 t1 t2
    go_wp2_with fail
    go_roundw
    case rel=>exact⟨k+1,by omega,by go_num,congrArg _ HU2.out.symm,by first | exact hid rfl | exact hid trivial⟩
    case measure=>simp [intOf];omega
   ·obtain rfl:k=b:=by omega
    rw [HRR.out]
    go_wp2_with fail
    go_ret
    exact⟨rfl,nq,rfl⟩
end CGemm
end
section
namespace CPool
def nearZ (s m:Int):Int:=if m < 1 then 0 else if s < 0 then -((2 * -s+m) / (2 * m)) else (2 * s+m) / (2 * m)
theorem near_way {s m:Int} (hm:1≤m) (hs:0≤s):(2 * s+m) / (2 * m)=if m - s % m≤s % m then s / m+1 else s / m:=by
 have h1:0≤s % m:=Int.emod_nonneg _ (by omega)
 have h2:s % m < m:=Int.emod_lt_of_pos _ (by omega)
 have h3:m * (s / m)+s % m=s:=Int.mul_ediv_add_emod s m
 generalize s % m=r at h1 h2 h3 ⊢
 generalize s / m=q at h3 ⊢
 have e:2 * s+m=(2 * r+m)+2 * m * q:=by rw [← h3,Int.mul_assoc];omega
 rw [e,Int.add_mul_ediv_left _ _ (by omega)]
 by_cases h:m - r≤r
 ·rw [if_pos h]
  have:(2 * r+m) / (2 * m)=1:=by
   have a:1≤(2 * r+m) / (2 * m):=by rw [Int.le_ediv_iff_mul_le (by omega)];omega
   have b:(2 * r+m) / (2 * m) < 2:=by rw [Int.ediv_lt_iff_lt_mul (by omega)];omega
   omega
  omega
 ·rw [if_neg h]
  have:(2 * r+m) / (2 * m)=0:=Int.ediv_eq_zero_of_lt (by omega) (by omega)
  omega
end CPool
end
end Go.Proofs.YtahekhpeomcfjaaGreatDoor
