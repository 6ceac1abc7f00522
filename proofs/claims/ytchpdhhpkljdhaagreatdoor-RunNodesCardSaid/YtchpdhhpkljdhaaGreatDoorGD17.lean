/- -/
import Derived.Test.YtchpdhhpkljdhaaGreatDoorGD15
import Derived.Test.YtchpdhhpkljdhaaGreatDoorGD16
open Go.Value renaming int→Jj
open Go.IntKind renaming i64→Jq
open Go.Lib (hid)
open Nat (le_refl lt_of_succ_lt lt_succ_self)
set_option linter.unusedVariables false
set_option linter.unusedSimpArgs false
set_option maxRecDepth 100000
set_option maxHeartbeats 16000000
namespace Go.Proofs.YtchpdhhpkljdhaaGreatDoor
namespace CConv
end CConv
namespace CSat
end CSat
namespace CWheel
end CWheel
open Go Go.ChangeShapes Go.WideShapes Go.ChangeAt Go.RowKit
section
namespace CLane
open Plain CSat CShape CTensor CConv FloatNum CFour CWheel
theorem fits_to (x0 x1 x2 x8 x11 x12 x13 x14 x15 x16 x17 x18:Value) (K S P O Z:Int) (WA BA:Option Addr) (nW cW nB cB:Nat) (b:Bool) (hb:(decide (K=3) && decide (S=1))=b) (w:World) :
  Calls Tryz.prog 29 #[.agg #[x0,x1,x2,Jj Jq K,Jj Jq S,Jj Jq P,Jj Jq O,.int .i8 Z,x8,.slice WA nW cW,.slice BA nB cB,x11,x12,x13,x14,x15,x16,x17,x18]] w fun e w'=>e=.returned (.bool b)∧Below w.heap.size w w':=by
 have hn:=zae.new x0 x1 x2 x8 x11 x12 x13 x14 x15 x16 x17 x18 K S P O Z WA BA nW cW nB cB 28 w
 have n3:=hn.at 3 _ rfl
 have n4:=hn.at 4 _ rfl
 have hB:Below w.heap.size w (w.alloc (.cells #[x0,x1,x2,Jj Jq K,Jj Jq S,Jj Jq P,Jj Jq O,.int .i8 Z,x8,.slice WA nW cW,.slice BA nB cB,x11,x12,x13,x14,x15,x16,x17,x18] 28)):=(Below.refl _ _).alloc (le_refl _) _
 have HB:=hid hB
 clear hn hB
 by_cases h3:K=3
 ·have h3b:(K == 3)=true:=by simpa using h3
  by_cases h1:S=1
  ·have h1b:(S == 1)=true:=by simpa using h1
   obtain rfl:b=true:=by rw [← hb,decide_eq_true h3,decide_eq_true h1];rfl
   clear hb h3 h1
   exact Z1b
  ·have h1b:(S == 1)=false:=by simpa using h1
   obtain rfl:b=false:=by rw [← hb,decide_eq_false h1,Bool.and_false]
   clear hb h3 h1
   exact Z1b
 ·have h3b:(K == 3)=false:=by simpa using h3
  obtain rfl:b=false:=by rw [← hb,decide_eq_false h3,Bool.false_and]
  clear hb h3
  exact Z1b
theorem lof_bad (H W C:Int) (A:Option Addr) (n c:Nat) (x0 x1 x2 x8 x11 x12 x13 x14 x15 x16 x17 x18:Value) (K S P O Z:Int) (WA BA:Option Addr) (nW cW nB cB:Nat) (ht:tensB H W C n=false) (w:World) :
  Calls Tryz.prog 30 #[.agg #[Jj Jq H,Jj Jq W,Jj Jq C,.slice A n c],.agg #[x0,x1,x2,Jj Jq K,Jj Jq S,Jj Jq P,Jj Jq O,.int .i8 Z,x8,.slice WA nW cW,.slice BA nB cB,x11,x12,x13,x14,x15,x16,x17,x18]] w (MadeA w 0 0 0 0 [] (Jj Jq 5)):=by
 have HT:=hid ht
 clear ht
 go_enter Tryz.func30,Tryz.ntmps30
 go_wp2_with (go_at_call 13;(refine (zak H W C A n c false HT.out _).mono ?_);(rintro e w1 ⟨rfl,hb⟩;obtain⟨hcc,hff⟩:=Kit.bcell hb;have hz:w.heap.size+3≤w1.heap.size:=Zbb;have hz2:w.heap.size+2 < w1.heap.size:=Zb3;have HB:=hid hb;clear hb))
 refine bodyPost_ret (Kit.zaa rfl _ _ (w.heap.size+2) 0 [Jj Jq 0,Jj Jq 0,Jj Jq 0,.slice none 0 0] _ rfl (CTensor.zao Zb6 Zb6 Zb6 Zb6) Tryz.underlying41 rfl Zb5) rfl ?_
 exact Z8
theorem lof_err (H W C:Int) (A:Option Addr) (n c:Nat) (x0 x1 x2 x8 x11 x12 x13 x14 x15 x16 x17 x18:Value) (K S P O Z:Int) (WA BA:Option Addr) (nW cW nB cB:Nat) (ht:tensB H W C n=true) (er:Int) (he:convE H W C K S P O nW nB=er) (h0:er≠0) (w:World) :
  Calls Tryz.prog 30 #[.agg #[Jj Jq H,Jj Jq W,Jj Jq C,.slice A n c],.agg #[x0,x1,x2,Jj Jq K,Jj Jq S,Jj Jq P,Jj Jq O,.int .i8 Z,x8,.slice WA nW cW,.slice BA nB cB,x11,x12,x13,x14,x15,x16,x17,x18]] w (MadeA w 0 0 0 0 [] (Jj Jq er)):=by
 have hS:convS H W C K S P O nW nB=#[Jj Jq 0,Jj Jq 0,Jj Jq 0]:=by unfold convS;rw [he,if_neg h0]
 refine Z7j ?_;intro HT HE HS h0b h0c
 clear ht he hS
 go_enter Tryz.func30,Tryz.ntmps30
 go_wp2_with (first
  | (go_at_call 13
     refine Z68 ?_;intro hal
     refine (zak H W C A n c true HT.out _).mono ?_
     rintro e w1 ⟨rfl,hb⟩
     refine Z5w ?_;intro hh TB yTB TN yTN FR yFR
     refine Z71 ?_;intro HBW
     obtain⟨tbp0,tbp1,tbp2,tbp3⟩:=TB.out
     clear hb hh hal)
  | (go_at_call 74
     refine Z72 ?_;intro hal
     refine (conv_to H W C x0 x1 x2 x8 x11 x12 x13 x14 x15 x16 x17 x18 K S P O Z WA BA nW cW nB cB er _ HE.out HS.out _).mono ?_
     rintro e w2 ⟨rfl,hb⟩
     refine Z6r ?_;intro hh
     refine Z60 ?_;try clear TB yTB TN yTN FR yFR;intro TB yTB TN yTN FR yFR
     refine Z74 ?_;try clear HBW;intro HBW
     clear tbp0 tbp1 tbp2 tbp3
     obtain⟨⟨z0,z1,z2,z3⟩,z4,z5,z6,z7⟩:=FR.out
     obtain⟨tbp0,tbp1,tbp2,tbp3⟩:=TB.out
     clear hb hh hal)
  | (refine wpList_load_mid rfl 28 (.tmp 3) rfl (w.heap.size+1) 0 rfl [x0,x1,x2,Jj Jq K,Jj Jq S,Jj Jq P,Jj Jq O,.int .i8 Z,x8,.slice WA nW cW,.slice BA nB cB,x11,x12,x13,x14,x15,x16,x17,x18] _ (TN.out) Tryz.underlying28 rfl Zb5 ?_))
 obtain⟨⟨z0,z1,z2,z3⟩,z4,z5,z6,z7⟩:=FR.out
 refine bodyPost_ret (Kit.zaa rfl _ _ (w.heap.size+2) 0 [Jj Jq 0,Jj Jq 0,Jj Jq 0,.slice none 0 0] _ rfl (CTensor.zao Zb6 Zb6 Zb6 Zb6) Tryz.underlying41 rfl Zb5) rfl ?_
 exact Zk
end CLane
end
section
namespace CPatch
open Plain CSat CShape CTensor CConv
def MadeR (w:World) (M Wd:Int) (n:Nat) (zs:List Int) (x:Value) (e:Ending) (w':World):Prop :=
 ∃ v,e=.returned (.tuple #[.agg #[Jj Jq M,Jj Jq Wd,v],x])∧w'.ownsRow w.heap.size 157 1 v n (I16v zs)∧Below w.heap.size w w'
def numF (zs:List Int) (H W C S P Z:Int) (b kk d wd t:Nat):Int :=
 if 0≤((t / wd / b:Nat):Int) * S - P+((t % wd / d / kk:Nat):Int)∧((t / wd / b:Nat):Int) * S - P+((t % wd / d / kk:Nat):Int) < H∧0≤((t / wd % b:Nat):Int) * S - P+((t % wd / d % kk:Nat):Int)∧((t / wd % b:Nat):Int) * S - P+((t % wd / d % kk:Nat):Int) < W then
  zs.getD (((((t / wd / b:Nat):Int) * S - P+((t % wd / d / kk:Nat):Int)) * W+(((t / wd % b:Nat):Int) * S - P+((t % wd / d % kk:Nat):Int))) * C+((t % wd % d:Nat):Int)).toNat 0 - Z
 else 0
theorem t_parts {wd d k2 i q c t:Nat} (hwd:k2 * d=wd) (hq:q < k2) (hc:c < d) (ht:t=(i * k2+q) * d+c):t / wd=i∧t % wd / d=q∧t % wd % d=c:=by
 have h1:q * d+c < wd:=by
  have:=Nat.mul_le_mul_right d (show q+1≤k2 by omega)
  rw [Nat.add_mul,Nat.one_mul,hwd] at this
  omega
 have h2:t=(q * d+c)+i * wd:=by rw [ht,Nat.add_mul,Nat.mul_assoc,hwd];omega
 have h3:0 < wd:=by omega
 have h4:0 < d:=by omega
 have e1:t / wd=i:=by rw [h2,Nat.add_mul_div_right _ _ h3,Nat.div_eq_of_lt h1,Nat.zero_add]
 have e2:t % wd=c+q * d:=by rw [h2,Nat.add_mul_mod_self_right,Nat.mod_eq_of_lt h1,Nat.add_comm]
 refine⟨e1,?_,?_⟩
 ·rw [e2,Nat.add_mul_div_right _ _ h4,Nat.div_eq_of_lt hc,Nat.zero_add]
 ·rw [e2,Nat.add_mul_mod_self_right,Nat.mod_eq_of_lt hc]
theorem numF_in (zs:List Int) {H W C S P Z:Int} {b kk d wd k2 i q:Nat} {y x pos:Int} (hwd:k2 * d=wd) (hq:q < k2) (hy:y=((i / b:Nat):Int) * S - P+((q / kk:Nat):Int)) (hx:x=((i % b:Nat):Int) * S - P+((q % kk:Nat):Int))
  (i1:0≤y) (i2:y < H) (i3:0≤x) (i4:x < W) (hp:(y * W+x) * C=pos) (c:Nat) (hc:c < d):numF zs H W C S P Z b kk d wd ((i * k2+q) * d+c)=zs.getD (pos+(c:Int)).toNat 0 - Z:=by
 obtain⟨e1,e2,e3⟩:=t_parts hwd hq hc rfl
 unfold numF
 rw [e1,e2,e3, ← hy, ← hx,if_pos ⟨i1,i2,i3,i4⟩,hp]
theorem numF_out (zs:List Int) {H W C S P Z:Int} {b kk d wd k2 i q:Nat} {y x:Int} (hwd:k2 * d=wd) (hq:q < k2) (hy:y=((i / b:Nat):Int) * S - P+((q / kk:Nat):Int)) (hx:x=((i % b:Nat):Int) * S - P+((q % kk:Nat):Int))
  (ho:¬ (0≤y∧y < H∧0≤x∧x < W)) (c:Nat) (hc:c < d):numF zs H W C S P Z b kk d wd ((i * k2+q) * d+c)=0:=by
 obtain⟨e1,e2,e3⟩:=t_parts hwd hq hc rfl
 unfold numF
 rw [e1,e2,e3, ← hy, ← hx,if_neg ho]
theorem upto_skip {F:Nat→Int} {k d N:Nat} (h:∀ c,c < d→F (k * d+c)=0):listF (upto F (k * d)) N=listF (upto F ((k+1) * d)) N:=listF_congr fun t _=>by
 unfold upto
 by_cases h1:t < k * d
 ·rw [if_pos h1,if_pos (by rw [Nat.add_mul,Nat.one_mul];omega)]
 ·rw [if_neg h1]
  by_cases h2:t < (k+1) * d
  ·rw [if_pos h2]
   rw [Nat.add_mul,Nat.one_mul] at h2
   have:=h (t - k * d) Zb3
   rw [show k * d+(t - k * d)=t by omega] at this
   exact this.symm
  ·rw [if_neg h2]
theorem grown_but {w w':World} (h:w.grownBy w' none) (row:Option Nat):w.grownBy w' row:=⟨h.os,h.tape,h.output,h.size,fun i hi _=>h.block i hi Zb7⟩
def FreshR (B:Nat) (v0 v1 v2:Value) (w:World):Prop :=
 (w.cell? ⟨B,0,none⟩=some v0∧w.cell? ⟨B,1,none⟩=some v1∧w.cell? ⟨B,2,none⟩=some v2)∧w.frozen? ⟨B,0,none⟩=false∧w.frozen? ⟨B,1,none⟩=false∧w.frozen? ⟨B,2,none⟩=false
theorem FreshR.new (v0 v1 v2:Value) (T:TypeId) (w:World):FreshR w.heap.size v0 v1 v2 (w.alloc (.cells #[v0,v1,v2] T)) :=
 ⟨⟨Kit.zan _ _ _ _,Kit.zan _ _ _ _,Kit.zan _ _ _ _⟩,World.frozen?_alloc_at _ _ _ _ rfl,World.frozen?_alloc_at _ _ _ _ rfl,World.frozen?_alloc_at _ _ _ _ rfl⟩
theorem FreshR.grown {B:Nat} {v0 v1 v2:Value} {w w':World} {row:Option Nat} (h:FreshR B v0 v1 v2 w) (hg:w.grownBy w' row) (hne:some B≠row):FreshR B v0 v1 v2 w':=by
 have hB:B < w.heap.size:=Kit.block_lt h.1.1
 exact⟨⟨(hg.cell_far ⟨B,0,none⟩ hB hne).trans h.1.1,(hg.cell_far ⟨B,1,none⟩ hB hne).trans h.1.2.1,(hg.cell_far ⟨B,2,none⟩ hB hne).trans h.1.2.2⟩,
  (hg.frozen_far ⟨B,0,none⟩ hB hne).trans h.2.1,(hg.frozen_far ⟨B,1,none⟩ hB hne).trans h.2.2.1,(hg.frozen_far ⟨B,2,none⟩ hB hne).trans h.2.2.2⟩
theorem FreshR.below {B:Nat} {v0 v1 v2:Value} {w w':World} (h:FreshR B v0 v1 v2 w) (hb:Below w.heap.size w w'):FreshR B v0 v1 v2 w':=h.grown (Kit.zbh hb none) Zb7
theorem info_i16:(Tryz.prog.info? 157).map (fun i=>(i.zero,i.size,i.bytes))=some (some (.int .i16 0),1,2):=by kernel_rfl
theorem info_parts16 {T:Nat} {z:Value} {a b:Nat} (h:(Tryz.prog.info? T).map (fun i=>(i.zero,i.size,i.bytes))=some (some z,a,b)):∃ i,Tryz.prog.info? T=some i∧i.zero=some z∧i.size=a∧i.bytes=b:=by
 exact Z2j
theorem pOf_yes (H W C:Int) (A:Option Addr) (zs:List Int) (n c:Nat) (hn:zs.length=n) (hz8:I8b zs) (x0 x1 x2 x8 x11 x12 x13 x14 x15 x16 x17 x18:Value) (K S P O Z:Int) (WA BA:Option Addr) (nW cW nB cB:Nat) (z1 : -128≤Z) (z2:Z≤127) (ht:tensB H W C n=true) (he:za7 H W C K S P 1=0) (a b kk d k2 wd N1 N:Nat) (ha:zad H K S P=(a:Int)) (hb:zad W K S P=(b:Int)) (hk:K=(kk:Int)) (hd:C=(d:Int))
  (hk2:kk * kk=k2) (hwd:k2 * d=wd) (hN1:a * b=N1) (hN:N1 * wd=N) (F:Nat→Int) (hF:F=numF zs H W C S P Z b kk d wd) (w:World) (hr:Kit.Rd w w.heap.size A (I8s zs)):Calls Tryz.prog 78 #[.agg #[Jj Jq H,Jj Jq W,Jj Jq C,.slice A n c],.agg #[x0,x1,x2,Jj Jq K,Jj Jq S,Jj Jq P,Jj Jq O,.int .i8 Z,x8,.slice WA nW cW,.slice BA nB cB,x11,x12,x13,x14,x15,x16,x17,x18]] w (MadeR w (N1:Int) (wd:Int) N (listF F N) (Jj Jq 0)):=by
 obtain⟨hs0,har1,har2, -, -,hsr⟩:=za9 he
 refine Zay ?_;intro hm
 obtain⟨g1,g2,g3,g4,g5,g6,g7⟩:=zac hs0
 obtain⟨q1,q2,q3,q4,q5,q6,q7⟩:=zac hsr
 obtain⟨-, -,k1,k5,st1,st4,pd0,pd4, -⟩:=za1 har1
 have hv:za6 H W C K S P 1=#[Jj Jq (a:Int),Jj Jq (b:Int),Jj Jq 1]:=by
  unfold za6;rw [he,if_pos rfl,ha,hb]
 have hN1b:N1≤1024:=by
  have:((N1:Nat):Int)=zad H K S P * zad W K S P * 1:=by rw [ha,hb, ← hN1];simp
  omega
 have hkk1:1≤kk:=by omega
 have hkk5:kk≤5:=by omega
 have hk25:k2≤25:=by rw [← hk2];exact Nat.le_trans (Nat.mul_le_mul hkk5 hkk5) Zb3
 have hd1:d≤1024:=by omega
 have hd0:1≤d:=by omega
 have hwdb:wd≤25600:=by rw [← hwd];exact Nat.le_trans (Nat.mul_le_mul hk25 hd1) Zb3
 have hNb:N≤26214400:=by rw [← hN];exact Nat.le_trans (Nat.mul_le_mul hN1b hwdb) Zb3
 have hn0:0 < zs.length:=by rw [hn];have:=Int.mul_pos (Int.mul_pos (show 0 < H by omega) (show 0 < W by omega)) (show 0 < C by omega);omega
 obtain⟨bz,oz,rfl,hbz, -⟩:=zax hr (j:=0) hn0
 have hm1:IntKind.i64.wrap ((a:Int) * (b:Int))=(N1:Int):=by rw [← Int.natCast_mul,hN1];exact IntWalk.i64_in _ Zb3
 have hm2:IntKind.i64.wrap (K * K)=(k2:Int):=by rw [hk, ← Int.natCast_mul,hk2];exact IntWalk.i64_in _ Zb3
 have hm3:IntKind.i64.wrap ((k2:Int) * C)=(wd:Int):=by rw [hd, ← Int.natCast_mul,hwd];exact IntWalk.i64_in _ Zb3
 have hm4:IntKind.i64.wrap ((N1:Int) * (wd:Int))=(N:Int):=by rw [← Int.natCast_mul,hN];exact IntWalk.i64_in _ Zb3
 have ha1024:a≤1024:=by omega
 have hb1024:b≤1024:=by omega
 have hb0:0 < b:=by omega
 have hn1:n≤1024:=by omega
 have HT:=hid ht
 have HE:=hid he
 have HV:=hid hv
 have HS0:=hid hs0
 have HM:=hid hm
 have HN:=hid hn
 have HZ:=hid hz8
 have HK:=hid hk
 have HD:=hid hd
 have HK2:=hid hk2
 have HWD:=hid hwd
 have HN1:=hid hN1
 have HNN:=hid hN
 have HFF:=hid hF
 have HR:=hid hr
 have HM1:=hid hm1
 have HM2:=hid hm2
 have HM3:=hid hm3
 clear ht he hv hs0 hm hn hz8 hk hd hk2 hwd hN1 hN hF hr ha hb har1 har2 hsr q1 q2 q3 q4 q5 q6 q7 g7 hm1 hm2 hm3 hn0
 obtain⟨i0,hi0,hi1,hi2,hi3⟩:=info_parts16 info_i16
 go_enter Tryz.func78,Tryz.ntmps78
 go_wp2_with fail
 have HB:Hid (Below w.heap.size w (((w.alloc (.cells #[Jj Jq H,Jj Jq W,Jj Jq C,.slice (some ⟨bz,oz,none⟩) n c] 32)).alloc (.cells #[x0,x1,x2,Jj Jq K,Jj Jq S,Jj Jq P,Jj Jq O,.int .i8 Z,x8,.slice WA nW cW,.slice BA nB cB,x11,x12,x13,x14,x15,x16,x17,x18] 28)).alloc (.cells #[Jj Jq 0,Jj Jq 0,.slice none 0 0] 114))):=hid ((((Below.refl _ _).alloc (le_refl _) _).alloc Zb7 _).alloc Zba _)
 have hf:=FreshR.new (Jj Jq 0) (Jj Jq 0) (.slice none 0 0) 114 ((w.alloc (.cells #[Jj Jq H,Jj Jq W,Jj Jq C,.slice (some ⟨bz,oz,none⟩) n c] 32)).alloc (.cells #[x0,x1,x2,Jj Jq K,Jj Jq S,Jj Jq P,Jj Jq O,.int .i8 Z,x8,.slice WA nW cW,.slice BA nB cB,x11,x12,x13,x14,x15,x16,x17,x18] 28))
 rw [World.size_alloc,World.size_alloc] at hf
 have HF:=hid hf
 have TB:Hid (BoxAt w.heap.size H W C (some ⟨bz,oz,none⟩) n c (((w.alloc (.cells #[Jj Jq H,Jj Jq W,Jj Jq C,.slice (some ⟨bz,oz,none⟩) n c] 32)).alloc (.cells #[x0,x1,x2,Jj Jq K,Jj Jq S,Jj Jq P,Jj Jq O,.int .i8 Z,x8,.slice WA nW cW,.slice BA nB cB,x11,x12,x13,x14,x15,x16,x17,x18] 28)).alloc (.cells #[Jj Jq 0,Jj Jq 0,.slice none 0 0] 114))):=hid ((zav H W C (some ⟨bz,oz,none⟩) n c 32 w).below (B':=w.heap.size+1) Zb3 (((Below.refl _ _).alloc Zb7 _).alloc Zb7 _))
 have hn9:=zae.new x0 x1 x2 x8 x11 x12 x13 x14 x15 x16 x17 x18 K S P O Z WA BA nW cW nB cB 28 (w.alloc (.cells #[Jj Jq H,Jj Jq W,Jj Jq C,.slice (some ⟨bz,oz,none⟩) n c] 32))
 rw [World.size_alloc] at hn9
 have TN:Hid (zae (w.heap.size+1) x0 x1 x2 x8 x11 x12 x13 x14 x15 x16 x17 x18 K S P O Z WA BA nW cW nB cB (((w.alloc (.cells #[Jj Jq H,Jj Jq W,Jj Jq C,.slice (some ⟨bz,oz,none⟩) n c] 32)).alloc (.cells #[x0,x1,x2,Jj Jq K,Jj Jq S,Jj Jq P,Jj Jq O,.int .i8 Z,x8,.slice WA nW cW,.slice BA nB cB,x11,x12,x13,x14,x15,x16,x17,x18] 28)).alloc (.cells #[Jj Jq 0,Jj Jq 0,.slice none 0 0] 114))):=hid (hn9.below (B':=w.heap.size+2) Zb3 ((Below.refl _ _).alloc Zb7 _))
 have hz:w.heap.size+3≤(((w.alloc (.cells #[Jj Jq H,Jj Jq W,Jj Jq C,.slice (some ⟨bz,oz,none⟩) n c] 32)).alloc (.cells #[x0,x1,x2,Jj Jq K,Jj Jq S,Jj Jq P,Jj Jq O,.int .i8 Z,x8,.slice WA nW cW,.slice BA nB cB,x11,x12,x13,x14,x15,x16,x17,x18] 28)).alloc (.cells #[Jj Jq 0,Jj Jq 0,.slice none 0 0] 114)).heap.size:=by simp
 clear hf hn9
 generalize ((w.alloc (.cells #[Jj Jq H,Jj Jq W,Jj Jq C,.slice (some ⟨bz,oz,none⟩) n c] 32)).alloc (.cells #[x0,x1,x2,Jj Jq K,Jj Jq S,Jj Jq P,Jj Jq O,.int .i8 Z,x8,.slice WA nW cW,.slice BA nB cB,x11,x12,x13,x14,x15,x16,x17,x18] 28)).alloc (.cells #[Jj Jq 0,Jj Jq 0,.slice none 0 0] 114)=W0 at HB HF TB TN hz ⊢
 go_at_call 13
 refine (zak H W C (some ⟨bz,oz,none⟩) n c true HT.out _).mono ?_
 rintro e W1 ⟨rfl,hb⟩
 replace HF:=hid (HF.out.below hb)
 replace TB:=hid (TB.out.below (B':=W0.heap.size) Zb3 hb)
 replace TN:=hid (TN.out.below (B':=W0.heap.size) Zb3 hb)
 replace HB:=hid (HB.out.trans (hb.mono HB.out.size))
 replace hz:=Nat.le_trans hz hb.size
 clear hb
 obtain⟨tb0,tb1,tb2,tb3⟩:=TB.out
 refine Z7p ?_;intro n3 n4 n5
 go_wp2_with fail
 clear tb0 tb1 tb2 tb3 n3 n4 n5
 go_at_call 98
 refine (zb1 H W C K S P 1 0 _ HE.out HV.out _).mono ?_
 rintro e W2 ⟨rfl,hb⟩
 replace HF:=hid (HF.out.below hb)
 replace TB:=hid (TB.out.below (B':=W1.heap.size) Zb3 hb)
 replace TN:=hid (TN.out.below (B':=W1.heap.size) Zb3 hb)
 replace HB:=hid (HB.out.trans (hb.mono HB.out.size))
 replace hz:=Nat.le_trans hz hb.size
 clear hb
 have TS:Hid (zbg W2.heap.size (a:Int) (b:Int) 1 (W2.alloc (.cells #[Jj Jq (a:Int),Jj Jq (b:Int),Jj Jq 1] 30))):=hid (za2 _ _ _ _ _)
 obtain⟨tb0,tb1,tb2,tb3⟩:=TB.out
 have hlt1:w.heap.size < W2.heap.size:=by omega
 have hlt2:w.heap.size+1 < W2.heap.size:=by omega
 have TNa:=hid (TN.out.below (B':=W2.heap.size) Zb3 ((Below.refl _ _).alloc (le_refl _) (.cells #[Jj Jq (a:Int),Jj Jq (b:Int),Jj Jq 1] 30)))
 go_wp2_with (refine wpList_load_mid rfl 28 (.tmp 3) rfl (w.heap.size+1) 0 rfl [x0,x1,x2,Jj Jq K,Jj Jq S,Jj Jq P,Jj Jq O,.int .i8 Z,x8,.slice WA nW cW,.slice BA nB cB,x11,x12,x13,x14,x15,x16,x17,x18] _ TNa.out Tryz.underlying28 rfl Zb5 ?_)
 have hal:Below W2.heap.size W2 (W2.alloc (.cells #[Jj Jq (a:Int),Jj Jq (b:Int),Jj Jq 1] 30)):=(Below.refl _ _).alloc (le_refl _) _
 clear tb0 tb1 tb2 tb3 hlt1 hlt2 TN
 replace HF:=hid (HF.out.below hal)
 replace TB:=hid (TB.out.below (B':=W2.heap.size) Zb3 hal)
 replace HB:=hid (HB.out.trans (hal.mono HB.out.size))
 have hz6:W2.heap.size < (W2.alloc (.cells #[Jj Jq (a:Int),Jj Jq (b:Int),Jj Jq 1] 30)).heap.size:=by simp
 clear hal
 generalize W2.alloc (.cells #[Jj Jq (a:Int),Jj Jq (b:Int),Jj Jq 1] 30)=W3 at HF TB HB TS TNa hz6 ⊢
 obtain⟨g6,hg6⟩:∃ g,W2.heap.size=g:=⟨_,rfl⟩
 rw [hg6] at hz hz6 TS ⊢
 clear hg6
 refine (empty_to H W C (a:Int) (b:Int) 1 x0 x1 x2 x8 x11 x12 x13 x14 x15 x16 x17 x18 K S P O Z WA BA nW cW nB cB (N1:Int) (k2:Int) (wd:Int) HM1.out HM2.out HM3.out _).mono ?_
 rintro e W4 ⟨rfl,hb⟩
 replace HF:=hid (HF.out.below hb)
 replace TB:=hid (TB.out.below (B':=W3.heap.size) Zb3 hb)
 replace TN:=hid (TNa.out.below (B':=W3.heap.size) Zb3 hb)
 replace TS:=hid (TS.out.below (B':=W3.heap.size) Zb3 hb)
 replace HB:=hid (HB.out.trans (hb.mono HB.out.size))
 replace hz6:=Nat.lt_of_lt_of_le hz6 hb.size
 clear hb TNa
 have hwz:w.heap.size≤W4.heap.size:=HB.out.size
 go_upto_region 8 with (at_make;refine wpList_make_full _ rfl (.tmp 38) (.tmp 38) _ rfl w.heap.size 157 i0 (.int .i16 0) 1 Tryz.underlying112 hi0 hi1 hi2 .i64 .i64 _ _ N rfl rfl rfl rfl Zbq (by unfold maxLen;omega) Zba ?_;intro W5 hown hg2;obtain⟨⟨y0,y1,y2⟩,y3,y4,y5⟩:=(FreshR.new (Jj Jq (N1:Int)) (Jj Jq (wd:Int)) (.slice none 0 0) 114 W4).grown hg2 Zb7;have hlt8:W4.heap.size < W5.heap.size:=Kit.block_lt y0)
 have hgd:(W4.alloc (.cells #[Jj Jq (N1:Int),Jj Jq (wd:Int),.slice none 0 0] 114)).heap.size=W4.heap.size+1:=by simp
 rw [hgd] at hown
 rw [show (madeCells (Value.int IntKind.i16 0).cells (N * 1)).toList=I16v (listF (upto F (0 * d)) N) by
  rw [Nat.mul_one];show (madeCells #[Value.int .i16 0] N).toList=_;rw [toList_madeCells_one]
  apply List.ext_getElem <;> simp [I16v,listF,upto]] at hown
 have hgr:W4.grownBy W5 none:=(Kit.zbh ((Below.refl W4.heap.size W4).alloc (le_refl _) _) none).trans hg2
 have hgd5:W4.heap.size+1 < W5.heap.size:=by
  have h9:=Kit.zbd hown
  exact h9
 obtain⟨V,hV⟩:∃ V,W5.setCell ⟨W4.heap.size,2,none⟩ (.slice (some ⟨W4.heap.size+1,0,none⟩) N N)=V:=⟨_,rfl⟩
 have hgV:W5.grownBy V (some W4.heap.size):=by rw [← hV];exact grown_set _ _ _ _
 have hgVV:W4.grownBy V (some W4.heap.size):=(grown_but hgr _).trans hgV
 replace HF:=hid (HF.out.grown hgVV Zba)
 replace TB:=hid (BoxAt_grown TB.out hgVV Zb3)
 replace TN:=hid (NodeAt_grown TN.out hgVV Zb3 Zb3)
 replace TS:=hid (zdi TS.out hgVV Zb3 Zb3)
 have HO:Hid (V.ownsRow w.heap.size 157 1 (.slice (some ⟨W4.heap.size+1,0,none⟩) N N) N (I16v (listF (upto F (0 * d)) N))):=hid (hown.kept hgV (.inr (by simp [Value.ownBlock])))
 have HRW:Hid (zb4 W4.heap.size (N1:Int) (wd:Int) (W4.heap.size+1) N V):=hid (by
  rw [← hV]
  refine⟨?_,?_,?_⟩
  ·rw [World.cell?_setCell_other _ _ _ _ Zb7];exact y0
  ·rw [World.cell?_setCell_other _ _ _ _ Zb7];exact y1
  ·exact World.cell?_setCell_same' _ _ _ (by rw [y2];rfl))
 have HBV:Hid (Below w.heap.size w V):=hid (by rw [← hV];exact (HB.out.grown hgr hwz (fun k hk=>by cases hk)).setCell Zba _)
 have hzV:W4.heap.size+1 < V.heap.size:=by rw [← hV];simpa using hgd5
 rw [hV]
 clear hown hg2 hgr hgV hgVV y0 y1 y2 y3 y4 y5 hlt8 hgd5 hV HB hgd hi0 hi1 hi2 hi3
 obtain⟨tb0,tb1,tb2,tb3⟩:=TB.out
 obtain⟨ts0,ts1,ts2⟩:=TS.out
 obtain⟨tr0,tr1,tr2⟩:=HRW.out
 go_wp2_with (refine wpList_load_mid rfl 28 (.tmp 3) rfl (w.heap.size+1) 0 rfl [x0,x1,x2,Jj Jq K,Jj Jq S,Jj Jq P,Jj Jq O,.int .i8 Z,x8,.slice WA nW cW,.slice BA nB cB,x11,x12,x13,x14,x15,x16,x17,x18] _ TN.out Tryz.underlying28 rfl Zb5 ?_)
 clear tb0 tb1 tb2 tb3 ts0 ts1 ts2 tr0 tr1 tr2
 go_at_call 121
 have hOF:OfAt w.heap.size (w.heap.size+1) W4.heap.size (W4.heap.size+1) w.heap.size H W C (some ⟨bz,oz,none⟩) n c x0 x1 x2 x8 x11 x12 x13 x14 x15 x16 x17 x18 K S P O Z WA BA nW cW nB cB (N1:Int) (wd:Int) N zs F d 0 V:=⟨TB.out,TN.out,HRW.out,HO.out,HR.out.below HBV.out,HBV.out.size⟩
 have hin:∀ (i q:Nat) (y x pos:Int),i < N1→q < k2→y=((i / b:Nat):Int) * S - P+((q / kk:Nat):Int)→x=((i % b:Nat):Int) * S - P+((q % kk:Nat):Int)→0≤y→y < H→0≤x→x < W→(y * W+x) * C=pos →
   ∀ v:World,OfAt w.heap.size (w.heap.size+1) W4.heap.size (W4.heap.size+1) w.heap.size H W C (some ⟨bz,oz,none⟩) n c x0 x1 x2 x8 x11 x12 x13 x14 x15 x16 x17 x18 K S P O Z WA BA nW cW nB cB (N1:Int) (wd:Int) N zs F d (i * k2+q) v →
   Calls Tryz.prog 123 #[Jj Jq ((i * wd+q * d:Nat):Int),Jj Jq pos,.pointer (some ⟨w.heap.size,0,none⟩),.pointer (some ⟨w.heap.size+1,0,none⟩),.pointer (some ⟨W4.heap.size,0,none⟩)] v fun e v'=>(∃ u,e=.returned u) ∧
    OfAt w.heap.size (w.heap.size+1) W4.heap.size (W4.heap.size+1) w.heap.size H W C (some ⟨bz,oz,none⟩) n c x0 x1 x2 x8 x11 x12 x13 x14 x15 x16 x17 x18 K S P O Z WA BA nW cW nB cB (N1:Int) (wd:Int) N zs F d (i * k2+(q+1)) v'∧v.grownBy v' (some (W4.heap.size+1)):=by
  intro i q y x pos hi hq hy hx i1 i2 i3 i4 hp v hI
  obtain⟨-, -,p1,p2, -⟩:=at_bd HS0.out i1 i2 i3 i4 (c:=C - 1) Zb3 Zb3
  obtain⟨pn,rfl⟩:=Int.eq_ofNat_of_zero_le (show 0≤pos by omega)
  have hat:(i * k2+q) * d=i * wd+q * d:=by rw [Nat.add_mul,Nat.mul_assoc,HWD.out]
  have hNle:(i * k2+q) * d+d≤N:=by
   have h1:=Nat.mul_le_mul_right k2 (show i+1≤N1 by omega)
   rw [Nat.add_mul,Nat.one_mul] at h1
   have h2:=Nat.mul_le_mul_right d (show i * k2+q+1≤N1 * k2 by omega)
   rw [Nat.add_mul,Nat.one_mul,Nat.mul_assoc,HWD.out,HNN.out] at h2
   exact h2
  have hDD:=HD.out
  have hMM:=HM.out
  refine visit_of w.heap.size (w.heap.size+1) W4.heap.size (W4.heap.size+1) w.heap.size Zb3 Zb3 Zb3 Zb3 H W C bz oz n c x0 x1 x2 x8 x11 x12 x13 x14 x15 x16 x17 x18 K S P O Z WA BA nW cW nB cB (N1:Int) (wd:Int) N zs F d (i * k2+q) (i * wd+q * d) pn hDD HN.out HZ.out z1 z2 hat (by rw [← hat];exact hNle) Zb3 Zb3 hn1 (fun t ht=>?_) v hI
  rw [HFF.out, ← hat,numF_in zs HWD.out hq hy hx i1 i2 i3 i4 hp t ht]
  congr 2
 have hskip:∀ (i q:Nat) (y x:Int),i < N1→q < k2→y=((i / b:Nat):Int) * S - P+((q / kk:Nat):Int)→x=((i % b:Nat):Int) * S - P+((q % kk:Nat):Int)→¬ (0≤y∧y < H∧0≤x∧x < W) →
   ∀ v:World,OfAt w.heap.size (w.heap.size+1) W4.heap.size (W4.heap.size+1) w.heap.size H W C (some ⟨bz,oz,none⟩) n c x0 x1 x2 x8 x11 x12 x13 x14 x15 x16 x17 x18 K S P O Z WA BA nW cW nB cB (N1:Int) (wd:Int) N zs F d (i * k2+q) v→OfAt w.heap.size (w.heap.size+1) W4.heap.size (W4.heap.size+1) w.heap.size H W C (some ⟨bz,oz,none⟩) n c x0 x1 x2 x8 x11 x12 x13 x14 x15 x16 x17 x18 K S P O Z WA BA nW cW nB cB (N1:Int) (wd:Int) N zs F d (i * k2+(q+1)) v:=by
  intro i q y x hi hq hy hx ho v hI
  obtain⟨j1,j2,j3,j4,j5,j6⟩:=hI
  rw [upto_skip (k:=i * k2+q) (fun t ht=>by rw [HFF.out];exact numF_out zs HWD.out hq hy hx ho t ht)] at j4
  exact⟨j1,j2,j3,j4,j5,j6⟩
 refine (each_of H W C HS0.out x0 x1 x2 x8 x11 x12 x13 x14 x15 x16 x17 x18 K S P O Z WA BA nW cW nB cB a b kk k2 d HK.out hkk1 hkk5 HK2.out hb0 ha1024 hb1024 HD.out st1 st4 pd0 pd4 (N1:Int) (wd:Int) (.slice (some ⟨W4.heap.size+1,0,none⟩) N N) wd rfl HWD.out N1 HN1.out hN1b w.heap.size (w.heap.size+1) W4.heap.size (W4.heap.size+1) (fun k v=>OfAt w.heap.size (w.heap.size+1) W4.heap.size (W4.heap.size+1) w.heap.size H W C (some ⟨bz,oz,none⟩) n c x0 x1 x2 x8 x11 x12 x13 x14 x15 x16 x17 x18 K S P O Z WA BA nW cW nB cB (N1:Int) (wd:Int) N zs F d k v) V hzV (fun k v v' h hb=>h.stay hb) hin hskip hOF).mono ?_
 rintro e W6 ⟨⟨u,rfl⟩,hI,hgW⟩
 have hf6:=HF.out.grown hgW Zba
 have hB6:Below w.heap.size w W6:=HBV.out.grown hgW HBV.out.size (fun k hk=>by cases hk;omega)
 obtain⟨-, -,⟨tr0,tr1,tr2⟩,ho6, -, -⟩:=hI
 rw [Nat.mul_assoc,HWD.out,HNN.out,show listF (upto F N) N=listF F N from listF_congr fun t ht=>by simp [upto,ht]] at ho6
 obtain⟨⟨zz0,zz1,zz2⟩,zz3,zz4,zz5⟩:=hf6
 have HO6:=hid ho6
 have HB6:=hid hB6
 clear HO HRW HBV HF TB TN TS hin hskip hOF hgW ho6 hB6 hzV
 have hlz:w.heap.size+1+1 < W6.heap.size:=Kit.block_lt zz0
 go_wp2_with fail
 refine bodyPost_ret (Kit.zaa rfl _ _ (w.heap.size+1+1) 0 [Jj Jq (N1:Int),Jj Jq (wd:Int),.slice (some ⟨W4.heap.size+1,0,none⟩) N N] _ rfl (Kit.za3 Zb6 Zb6 Zb6) Tryz.underlying114 rfl Zb5) rfl ?_
 exact⟨_,rfl,((HO6.out.kept (grown_set _ _ _ _) (.inr Zbt)).kept (grown_set _ _ _ _) (.inr Zbt)).kept (grown_set _ _ _ _) (.inr Zbt),((HB6.out.setCell Zba _).setCell Zba _).setCell Zba _⟩
end CPatch
end
section
namespace CGemm
open Plain
def I32v (zs:List Int):List Value:=zs.map (.int .i32)
def rowL (F:Nat→Int) (n:Nat):List Int:=(List.range n).map F
theorem zbx (F:Nat→Int) (n:Nat):(rowL F n).length=n:=by simp [rowL]
theorem rowL_at (F:Nat→Int) {n i:Nat} (h:i < n):(rowL F n)[i]?=some (F i):=by simp [rowL,h]
theorem zc9 {F G:Nat→Int} {n:Nat} (h:∀ i,i < n→F i=G i):rowL F n=rowL G n:=by
 apply List.ext_getElem?
 intro i
 by_cases hi:i < n
 ·rw [rowL_at F hi,rowL_at G hi,h i hi]
 ·rw [List.getElem?_eq_none (by rw [zbx];omega),List.getElem?_eq_none (by rw [zbx];omega)]
theorem eq_rowL {P:List Int} {F:Nat→Int} {n:Nat} (hl:P.length=n) (h:∀ i,i < n→P[i]?=some (F i)):P=rowL F n:=by
 apply List.ext_getElem?
 intro i
 by_cases hi:i < n
 ·rw [rowL_at F hi,h i hi]
 ·rw [List.getElem?_eq_none Zb3,List.getElem?_eq_none (by rw [zbx];omega)]
def zcz (n:Nat) (D:Nat→Prop) (F:Nat→Int) (P:List Int):Prop:=P.length=n∧∀ i,i < n→D i→P[i]?=some (F i)
theorem zcz.mono {n:Nat} {D D':Nat→Prop} {F:Nat→Int} {P:List Int} (h:zcz n D F P) (hd:∀ i,i < n→D' i→D i):zcz n D' F P:=⟨h.1,fun i hi hD=>h.2 i hi (hd i hi hD)⟩
theorem zcz.set {n:Nat} {D D':Nat→Prop} {F:Nat→Int} {P:List Int} (h:zcz n D F P) {j:Nat} {v:Int} (hv:F j=v) (hd:∀ i,i < n→D' i→D i∨i=j):zcz n D' F (P.set j v):=by
 refine⟨by simpa using h.1,fun i hi hD=>?_⟩
 rw [List.getElem?_set]
 by_cases e:j=i
 ·subst e
  rw [if_pos rfl,if_pos (by rw [h.1];exact hi),hv]
 ·rw [if_neg e]
  rcases hd i hi hD with h1 | h1
  ·exact h.2 i hi h1
  ·exact absurd h1.symm e
theorem zcz.all {n:Nat} {D:Nat→Prop} {F:Nat→Int} {P:List Int} (h:zcz n D F P) (hd:∀ i,i < n→D i):P=rowL F n:=eq_rowL h.1 fun i hi=>h.2 i hi (hd i hi)
theorem zcz.none {n:Nat} {D:Nat→Prop} {F:Nat→Int} (hd:∀ i,i < n→¬ D i):zcz n D F (List.replicate n 0):=⟨by simp,fun i hi hD=>absurd hD (hd i hi)⟩
theorem I32v_set (ys:List Int) (i:Nat) (x:Int):(I32v ys).set i (.int .i32 x)=I32v (ys.set i x):=by simp [I32v,List.map_set]
theorem I32v_len (ys:List Int):(I32v ys).length=ys.length:=by simp [I32v]
/-! ### tiles -/
def tileOf (cols:Nat) (i:Nat):Nat:=i / cols / 32 * ((cols+31) / 32)+i % cols / 32
theorem tile_parts {cols i k:Nat} (hc:0 < cols) (h:tileOf cols i=k):i / cols / 32=k / ((cols+31) / 32)∧i % cols / 32=k % ((cols+31) / 32):=by
 have hm:i % cols < cols:=Nat.mod_lt _ hc
 unfold tileOf at h
 have ha:0 < (cols+31) / 32:=by omega
 have hb:i % cols / 32 < (cols+31) / 32:=by omega
 generalize (cols+31) / 32=a at *
 subst h
 constructor
 ·rw [Nat.add_comm,Nat.add_mul_div_right _ _ ha,Nat.div_eq_of_lt hb,Nat.zero_add]
 ·rw [Nat.add_comm,Nat.add_mul_mod_self_right,Nat.mod_eq_of_lt hb]
theorem tile_last {rows cols i:Nat} (hc:0 < cols) (h:i < rows * cols):tileOf cols i < (rows+31) / 32 * ((cols+31) / 32):=by
 have hm:i % cols < cols:=Nat.mod_lt _ hc
 have hr:i / cols < rows:=Nat.div_lt_of_lt_mul (by rw [Nat.mul_comm];exact h)
 unfold tileOf
 have hb:i % cols / 32 < (cols+31) / 32:=by omega
 have hq:i / cols / 32+1≤(rows+31) / 32:=by omega
 have:=Nat.mul_le_mul_right ((cols+31) / 32) hq
 rw [Nat.add_mul,Nat.one_mul] at this
 omega
theorem place_of {cols r c:Nat} (hc:c < cols):(r * cols+c) / cols=r∧(r * cols+c) % cols=c:=by
 have h0:0 < cols:=by omega
 constructor
 ·rw [Nat.add_comm,Nat.add_mul_div_right _ _ h0,Nat.div_eq_of_lt hc,Nat.zero_add]
 ·rw [Nat.add_comm,Nat.add_mul_mod_self_right,Nat.mod_eq_of_lt hc]
theorem place_back {cols i:Nat} : i / cols * cols+i % cols=i:=by rw [Nat.mul_comm];exact Nat.div_add_mod i cols
theorem place_lt {rows cols r c:Nat} (hr:r < rows) (hc:c < cols):r * cols+c < rows * cols:=by
 have:=Nat.mul_le_mul_right cols (show r+1≤rows by omega)
 rw [Nat.add_mul,Nat.one_mul] at this
 omega
def Done3 (cols k r c i:Nat):Prop:=tileOf cols i < k∨(tileOf cols i=k∧(i / cols < r∨(i / cols=r∧i % cols < c)))
def Done2 (cols k r i:Nat):Prop:=tileOf cols i < k∨(tileOf cols i=k∧i / cols < r)
def Done1 (cols k i:Nat):Prop:=tileOf cols i < k
theorem done21 {cols k:Nat} (hc:0 < cols) {i:Nat} (h:Done2 cols k (k / ((cols+31) / 32) * 32) i):Done1 cols k i:=by
 rcases h with h | ⟨h1,h2⟩
 ·exact h
 ·have:=(tile_parts hc h1).1;omega
theorem done12 {cols k rows r i:Nat} (hc:0 < cols) (hi:i < rows * cols) (hr:r=rows∨(k / ((cols+31) / 32)+1) * 32≤r) (h:Done1 cols (k+1) i):Done2 cols k r i:=by
 have hq:i / cols < rows:=Nat.div_lt_of_lt_mul (by rw [Nat.mul_comm];exact hi)
 unfold Done1 at h
 rcases Nat.lt_or_ge (tileOf cols i) k with h1 | h1
 ·exact .inl h1
 ·have h2:tileOf cols i=k:=by omega
  have:=(tile_parts hc h2).1
  exact .inr ⟨h2,by omega⟩
theorem done32 {cols k r:Nat} (hc:0 < cols) {i:Nat} (h:Done3 cols k r (k % ((cols+31) / 32) * 32) i):Done2 cols k r i:=by
 rcases h with h | ⟨h1,h2⟩
 ·exact .inl h
 ·have:=(tile_parts hc h1).2
  exact .inr ⟨h1,by omega⟩
theorem done23 {cols k r c i:Nat} (hc:0 < cols) (hr:c=cols∨(k % ((cols+31) / 32)+1) * 32≤c) (h:Done2 cols k (r+1) i):Done3 cols k r c i:=by
 have hm:i % cols < cols:=Nat.mod_lt _ hc
 rcases h with h1 | ⟨h1,h2⟩
 ·exact .inl h1
 ·have:=(tile_parts hc h1).2
  exact .inr ⟨h1,by omega⟩
theorem done33 {cols k r c i:Nat} (h:Done3 cols k r (c+1) i):Done3 cols k r c i∨i=r * cols+c:=by
 rcases h with h1 | ⟨h1,h2⟩
 ·exact .inl (.inl h1)
 ·by_cases h3:i / cols=r∧i % cols=c
  ·right;rw [← h3.1, ← h3.2];exact place_back.symm
  ·exact .inl (.inr ⟨h1,by omega⟩)
section
variable {cols k a p q e0 e1 e2 e3:Nat} (hc:0 < cols) (ha:(cols+31) / 32=a) (hp:k / a=p) (hq:k % a=q)
include hc ha
theorem to21 (hp:k / a=p) (h0:p * 32=e0) {i:Nat} (h:Done2 cols k e0 i):Done1 cols k i:=by
 subst ha hp h0;exact done21 hc h
theorem to12 (hp:k / a=p) (h1:(p+1) * 32=e1) {rows r i:Nat} (hi:i < rows * cols) (hr:r=rows∨e1≤r) (h:Done1 cols (k+1) i):Done2 cols k r i:=by
 subst ha hp h1;exact done12 hc hi hr h
theorem to32 (hq:k % a=q) (h2:q * 32=e2) {r i:Nat} (h:Done3 cols k r e2 i):Done2 cols k r i:=by
 subst ha hq h2;exact done32 hc h
theorem to23 (hq:k % a=q) (h3:(q+1) * 32=e3) {r c i:Nat} (hr:c=cols∨e3≤c) (h:Done2 cols k (r+1) i):Done3 cols k r c i:=by
 subst ha hq h3;exact done23 hc hr h
end
def mulF (xs ys:List Int) (mid cols:Nat) (i:Nat):Int:=IntKind.i32.wrap (psum (fun k=>xs.getD (i / cols * mid+k) 0 * ys.getD (i % cols * mid+k) 0) mid)
theorem cut_getD (xs:List Int) {p m k:Nat} (h:k < m):((xs.drop p).take m).getD k 0=xs.getD (p+k) 0:=by
 rw [List.getD_eq_getElem?_getD,List.getElem?_take,if_pos h,List.getElem?_drop, ← List.getD_eq_getElem?_getD]
theorem cut_sum (xs ys:List Int) (p q m:Nat):psum (dotF ((xs.drop p).take m) ((ys.drop q).take m)) m=psum (fun k=>xs.getD (p+k) 0 * ys.getD (q+k) 0) m :=
 zck fun k hk=>by unfold dotF;rw [cut_getD _ hk,cut_getD _ hk]
theorem getD_none (xs:List Int) {k:Nat} (h:xs.length≤k):xs.getD k 0=0:=by rw [List.getD_eq_getElem?_getD,List.getElem?_eq_none h];rfl
theorem cut_I16 {xs:List Int} (h:I16b xs) (p m:Nat):I16b ((xs.drop p).take m):=fun q=>by
 by_cases hq:q < m
 ·rw [cut_getD _ hq];exact h _
 ·rw [getD_none _ Zba];omega
theorem cut_I8 {xs:List Int} (h:I8b xs) (p m:Nat):I8b ((xs.drop p).take m):=fun q=>by
 by_cases hq:q < m
 ·rw [cut_getD _ hq];exact h _
 ·rw [getD_none _ Zba];omega
theorem cut_rd {w:World} {B:Nat} {b o:Nat} {k:IntKind} {zs:List Int} (h:Kit.Rd w B (some ⟨b,o,none⟩) (zs.map (.int k))) (p m:Nat):Kit.Rd w B (some ⟨b,o+p,none⟩) (((zs.drop p).take m).map (.int k)):=by
 have h9:=(h.drop p).take m
 rw [Option.map_some,Go.WideShapes.add_plain] at h9
 rw [List.map_take,List.map_drop];exact h9
theorem cut_len {zs:List Int} {n p m:Nat} (hl:zs.length=n) (h:p+m≤n):((zs.drop p).take m).length=m:=by simp;omega
theorem mul_at (xs ys:List Int) {m c i j I1 I2 A1 B1:Nat} (h1:i * c=I1) (h2:I1+j=I2) (hj:j < c) (h3:i * m=A1) (h4:j * m=B1) {F:Nat→Int} (hF:F=mulF xs ys m c) :
  IntKind.i32.wrap (psum (dotF ((xs.drop A1).take m) ((ys.drop B1).take m)) m)=F I2:=by
 subst h1 h2 h3 h4 hF
 obtain⟨e1,e2⟩:=place_of (r:=i) hj
 rw [cut_sum]
 unfold mulF
 rw [e1,e2]
end CGemm
end
end Go.Proofs.YtchpdhhpkljdhaaGreatDoor
