/- -/
import Derived.Test.YtahekhpeomcfjaaGreatDoorGJ15
import Derived.Test.YtahekhpeomcfjaaGreatDoorGJ16
open Go.Lib (hid)
open Nat (le_refl lt_of_succ_lt lt_succ_self)
set_option linter.unusedVariables false
set_option linter.unusedSimpArgs false
set_option maxRecDepth 100000
set_option maxHeartbeats 16000000
namespace Go.Proofs.YtahekhpeomcfjaaGreatDoor
namespace CConv
end CConv
namespace CSat
end CSat
namespace CShape
end CShape
namespace CTensor
end CTensor
open Go Go.ChangeShapes Go.WideShapes Go.ChangeAt Go.RowKit
section
namespace CPatch
open Plain CSat CShape CTensor CConv
def MadeR (w:World) (M Wd:Int) (n:Nat) (zs:List Int) (x:Value) (e:Ending) (w':World):Prop :=
 ∃ v,e=.returned (.tuple #[.agg #[.int .i64 M,.int .i64 Wd,v],x])∧w'.ownsRow w.heap.size 204 1 v n (I16v zs)∧Below w.heap.size w w'
def numF (zs:List Int) (H W C S P Z:Int) (b kk d wd t:Nat):Int :=
 if 0≤((t / wd / b:Nat):Int) * S - P+((t % wd / d / kk:Nat):Int)∧((t / wd / b:Nat):Int) * S - P+((t % wd / d / kk:Nat):Int) < H∧0≤((t / wd % b:Nat):Int) * S - P+((t % wd / d % kk:Nat):Int)∧((t / wd % b:Nat):Int) * S - P+((t % wd / d % kk:Nat):Int) < W then
  zs.getD (((((t / wd / b:Nat):Int) * S - P+((t % wd / d / kk:Nat):Int)) * W+(((t / wd % b:Nat):Int) * S - P+((t % wd / d % kk:Nat):Int))) * C+((t % wd % d:Nat):Int)).toNat 0 - Z
 else 0
theorem t_parts {wd d k2 i q c t:Nat} (hwd:k2 * d=wd) (hq:q < k2) (hc:c < d) (ht:t=(i * k2+q) * d+c):t / wd=i∧t % wd / d=q∧t % wd % d=c:=by
 have h1:q * d+c < wd:=by
  have:=Nat.mul_le_mul_right d (show q+1≤k2 by omega)
  rw [Nat.add_mul,Nat.one_mul,hwd] at this
  omega
 have h2:t=(q * d+c)+i * wd:=by rw [ht,Nat.add_mul,Nat.mul_assoc,hwd];omega
 have h3:0 < wd:=by omega
 have h4:0 < d:=by omega
 have e1:t / wd=i:=by rw [h2,Nat.add_mul_div_right _ _ h3,Nat.div_eq_of_lt h1,Nat.zero_add]
 have e2:t % wd=c+q * d:=by rw [h2,Nat.add_mul_mod_self_right,Nat.mod_eq_of_lt h1,Nat.add_comm]
 refine⟨e1,?_,?_⟩
 ·rw [e2,Nat.add_mul_div_right _ _ h4,Nat.div_eq_of_lt hc,Nat.zero_add]
 ·rw [e2,Nat.add_mul_mod_self_right,Nat.mod_eq_of_lt hc]
theorem numF_in (zs:List Int) {H W C S P Z:Int} {b kk d wd k2 i q:Nat} {y x pos:Int} (hwd:k2 * d=wd) (hq:q < k2) (hy:y=((i / b:Nat):Int) * S - P+((q / kk:Nat):Int)) (hx:x=((i % b:Nat):Int) * S - P+((q % kk:Nat):Int))
  (i1:0≤y) (i2:y < H) (i3:0≤x) (i4:x < W) (hp:(y * W+x) * C=pos) (c:Nat) (hc:c < d):numF zs H W C S P Z b kk d wd ((i * k2+q) * d+c)=zs.getD (pos+(c:Int)).toNat 0 - Z:=by
 obtain⟨e1,e2,e3⟩:=t_parts hwd hq hc rfl
 unfold numF
 rw [e1,e2,e3, ← hy, ← hx,if_pos ⟨i1,i2,i3,i4⟩,hp]
theorem numF_out (zs:List Int) {H W C S P Z:Int} {b kk d wd k2 i q:Nat} {y x:Int} (hwd:k2 * d=wd) (hq:q < k2) (hy:y=((i / b:Nat):Int) * S - P+((q / kk:Nat):Int)) (hx:x=((i % b:Nat):Int) * S - P+((q % kk:Nat):Int))
  (ho:¬ (0≤y∧y < H∧0≤x∧x < W)) (c:Nat) (hc:c < d):numF zs H W C S P Z b kk d wd ((i * k2+q) * d+c)=0:=by
 obtain⟨e1,e2,e3⟩:=t_parts hwd hq hc rfl
 unfold numF
 rw [e1,e2,e3, ← hy, ← hx,if_neg ho]
theorem upto_skip {F:Nat→Int} {k d N:Nat} (h:∀ c,c < d→F (k * d+c)=0):listF (upto F (k * d)) N=listF (upto F ((k+1) * d)) N:=listF_congr fun t _=>by
 unfold upto
 by_cases h1:t < k * d
 ·rw [if_pos h1,if_pos (by rw [Nat.add_mul,Nat.one_mul];omega)]
 ·rw [if_neg h1]
  by_cases h2:t < (k+1) * d
  ·rw [if_pos h2]
   rw [Nat.add_mul,Nat.one_mul] at h2
   have:=h (t - k * d) (by omega)
   rw [show k * d+(t - k * d)=t by omega] at this
   exact this.symm
  ·rw [if_neg h2]
theorem grown_but {w w':World} (h:w.grownBy w' none) (row:Option Nat):w.grownBy w' row:=⟨h.os,h.tape,h.output,h.size,fun i hi _=>h.block i hi (by simp)⟩
def FreshR (B:Nat) (v0 v1 v2:Value) (w:World):Prop :=
 (w.cell? ⟨B,0,none⟩=some v0∧w.cell? ⟨B,1,none⟩=some v1∧w.cell? ⟨B,2,none⟩=some v2)∧w.frozen? ⟨B,0,none⟩=false∧w.frozen? ⟨B,1,none⟩=false∧w.frozen? ⟨B,2,none⟩=false
theorem FreshR.new (v0 v1 v2:Value) (T:TypeId) (w:World):FreshR w.heap.size v0 v1 v2 (w.alloc (.cells #[v0,v1,v2] T)) :=
 ⟨⟨Kit.zaf _ _ _ _,Kit.zaf _ _ _ _,Kit.zaf _ _ _ _⟩,World.frozen?_alloc_at _ _ _ _ rfl,World.frozen?_alloc_at _ _ _ _ rfl,World.frozen?_alloc_at _ _ _ _ rfl⟩
theorem FreshR.grown {B:Nat} {v0 v1 v2:Value} {w w':World} {row:Option Nat} (h:FreshR B v0 v1 v2 w) (hg:w.grownBy w' row) (hne:some B≠row):FreshR B v0 v1 v2 w':=by
 have hB:B < w.heap.size:=Kit.block_lt h.1.1
 exact⟨⟨(hg.cell_far ⟨B,0,none⟩ hB hne).trans h.1.1,(hg.cell_far ⟨B,1,none⟩ hB hne).trans h.1.2.1,(hg.cell_far ⟨B,2,none⟩ hB hne).trans h.1.2.2⟩,
  (hg.frozen_far ⟨B,0,none⟩ hB hne).trans h.2.1,(hg.frozen_far ⟨B,1,none⟩ hB hne).trans h.2.2.1,(hg.frozen_far ⟨B,2,none⟩ hB hne).trans h.2.2.2⟩
theorem FreshR.below {B:Nat} {v0 v1 v2:Value} {w w':World} (h:FreshR B v0 v1 v2 w) (hb:Below w.heap.size w w'):FreshR B v0 v1 v2 w':=h.grown (Kit.za2 hb none) (by simp)
theorem info_i16:(Tryz.prog.info? 204).map (fun i=>(i.zero,i.size,i.bytes))=some (some (.int .i16 0),1,2):=by kernel_rfl
theorem info_parts16 {T:Nat} {z:Value} {a b:Nat} (h:(Tryz.prog.info? T).map (fun i=>(i.zero,i.size,i.bytes))=some (some z,a,b)):∃ i,Tryz.prog.info? T=some i∧i.zero=some z∧i.size=a∧i.bytes=b:=by
 cases hi:Tryz.prog.info? T with
 | none=>rw [hi] at h;cases h
 | some i=>rw [hi] at h;simp at h;exact⟨i,rfl,h.1,h.2.1,h.2.2⟩
theorem pOf_yes (H W C:Int) (A:Option Addr) (zs:List Int) (n c:Nat) (hn:zs.length=n) (hz8:I8b zs) (x0 x1 x2 x8 x11 x12 x13 x14 x15 x16 x17 x18:Value) (K S P O Z:Int) (WA BA:Option Addr) (nW cW nB cB:Nat) (z1 : -128≤Z) (z2:Z≤127) (ht:tensB H W C n=true) (he:zaz H W C K S P 1=0) (a b kk d k2 wd N1 N:Nat) (ha:zae H K S P=(a:Int)) (hb:zae W K S P=(b:Int)) (hk:K=(kk:Int)) (hd:C=(d:Int))
  (hk2:kk * kk=k2) (hwd:k2 * d=wd) (hN1:a * b=N1) (hN:N1 * wd=N) (F:Nat→Int) (hF:F=numF zs H W C S P Z b kk d wd) (w:World) (hr:Kit.Rd w w.heap.size A (I8s zs)):Calls Tryz.prog 141 #[.agg #[.int .i64 H,.int .i64 W,.int .i64 C,.slice A n c],.agg #[x0,x1,x2,.int .i64 K,.int .i64 S,.int .i64 P,.int .i64 O,.int .i8 Z,x8,.slice WA nW cW,.slice BA nB cB,x11,x12,x13,x14,x15,x16,x17,x18]] w (MadeR w (N1:Int) (wd:Int) N (listF F N) (.int .i64 0)):=by
 obtain⟨hs0,har1,har2, -, -,hsr⟩:=za9 he
 have hm:(n:Int)=H * W * C:=by simp only [tensB,Bool.and_eq_true,decide_eq_true_eq] at ht;exact ht.2
 obtain⟨g1,g2,g3,g4,g5,g6,g7⟩:=zab hs0
 obtain⟨q1,q2,q3,q4,q5,q6,q7⟩:=zab hsr
 obtain⟨-, -,k1,k5,st1,st4,pd0,pd4, -⟩:=za7 har1
 have hv:za8 H W C K S P 1=#[.int .i64 (a:Int),.int .i64 (b:Int),.int .i64 1]:=by
  unfold za8;rw [he,if_pos rfl,ha,hb]
 have hN1b:N1≤1024:=by
  have:((N1:Nat):Int)=zae H K S P * zae W K S P * 1:=by rw [ha,hb, ← hN1];simp
  omega
 have hkk1:1≤kk:=by omega
 have hkk5:kk≤5:=by omega
 have hk25:k2≤25:=by rw [← hk2];exact Nat.le_trans (Nat.mul_le_mul hkk5 hkk5) (by omega)
 have hd1:d≤1024:=by omega
 have hd0:1≤d:=by omega
 have hwdb:wd≤25600:=by rw [← hwd];exact Nat.le_trans (Nat.mul_le_mul hk25 hd1) (by omega)
 have hNb:N≤26214400:=by rw [← hN];exact Nat.le_trans (Nat.mul_le_mul hN1b hwdb) (by omega)
 have hn0:0 < zs.length:=by rw [hn];have:=Int.mul_pos (Int.mul_pos (show 0 < H by omega) (show 0 < W by omega)) (show 0 < C by omega);omega
 obtain⟨bz,oz,rfl,hbz, -⟩:=zav hr (j:=0) hn0
 have hm1:IntKind.i64.wrap ((a:Int) * (b:Int))=(N1:Int):=by rw [← Int.natCast_mul,hN1];exact IntWalk.i64_in _ (by omega)
 have hm2:IntKind.i64.wrap (K * K)=(k2:Int):=by rw [hk, ← Int.natCast_mul,hk2];exact IntWalk.i64_in _ (by omega)
 have hm3:IntKind.i64.wrap ((k2:Int) * C)=(wd:Int):=by rw [hd, ← Int.natCast_mul,hwd];exact IntWalk.i64_in _ (by omega)
 have hm4:IntKind.i64.wrap ((N1:Int) * (wd:Int))=(N:Int):=by rw [← Int.natCast_mul,hN];exact IntWalk.i64_in _ (by omega)
 have ha1024:a≤1024:=by omega
 have hb1024:b≤1024:=by omega
 have hb0:0 < b:=by omega
 have hn1:n≤1024:=by omega
 have HT:=hid ht
 have HE:=hid he
 have HV:=hid hv
 have HS0:=hid hs0
 have HM:=hid hm
 have HN:=hid hn
 have HZ:=hid hz8
 have HK:=hid hk
 have HD:=hid hd
 have HK2:=hid hk2
 have HWD:=hid hwd
 have HN1:=hid hN1
 have HNN:=hid hN
 have HFF:=hid hF
 have HR:=hid hr
 have HM1:=hid hm1
 have HM2:=hid hm2
 have HM3:=hid hm3
 clear ht he hv hs0 hm hn hz8 hk hd hk2 hwd hN1 hN hF hr ha hb har1 har2 hsr q1 q2 q3 q4 q5 q6 q7 g7 hm1 hm2 hm3 hn0
 obtain⟨i0,hi0,hi1,hi2,hi3⟩:=info_parts16 info_i16
 go_enter Tryz.func141,Tryz.ntmps141
 go_wp2_with fail
 have HB:Hid (Below w.heap.size w (((w.alloc (.cells #[.int .i64 H,.int .i64 W,.int .i64 C,.slice (some ⟨bz,oz,none⟩) n c] 27)).alloc (.cells #[x0,x1,x2,.int .i64 K,.int .i64 S,.int .i64 P,.int .i64 O,.int .i8 Z,x8,.slice WA nW cW,.slice BA nB cB,x11,x12,x13,x14,x15,x16,x17,x18] 44)).alloc (.cells #[.int .i64 0,.int .i64 0,.slice none 0 0] 186))):=hid ((((Below.refl _ _).alloc (le_refl _) _).alloc (by simp) _).alloc (by simp;omega) _)
 have hf:=FreshR.new (.int .i64 0) (.int .i64 0) (.slice none 0 0) 186 ((w.alloc (.cells #[.int .i64 H,.int .i64 W,.int .i64 C,.slice (some ⟨bz,oz,none⟩) n c] 27)).alloc (.cells #[x0,x1,x2,.int .i64 K,.int .i64 S,.int .i64 P,.int .i64 O,.int .i8 Z,x8,.slice WA nW cW,.slice BA nB cB,x11,x12,x13,x14,x15,x16,x17,x18] 44))
 rw [World.size_alloc,World.size_alloc] at hf
 have HF:=hid hf
 have TB:Hid (BoxAt w.heap.size H W C (some ⟨bz,oz,none⟩) n c (((w.alloc (.cells #[.int .i64 H,.int .i64 W,.int .i64 C,.slice (some ⟨bz,oz,none⟩) n c] 27)).alloc (.cells #[x0,x1,x2,.int .i64 K,.int .i64 S,.int .i64 P,.int .i64 O,.int .i8 Z,x8,.slice WA nW cW,.slice BA nB cB,x11,x12,x13,x14,x15,x16,x17,x18] 44)).alloc (.cells #[.int .i64 0,.int .i64 0,.slice none 0 0] 186))):=hid ((zbd H W C (some ⟨bz,oz,none⟩) n c 27 w).below (B':=w.heap.size+1) (by omega) (((Below.refl _ _).alloc (by simp) _).alloc (by simp) _))
 have hn9:=zai.new x0 x1 x2 x8 x11 x12 x13 x14 x15 x16 x17 x18 K S P O Z WA BA nW cW nB cB 44 (w.alloc (.cells #[.int .i64 H,.int .i64 W,.int .i64 C,.slice (some ⟨bz,oz,none⟩) n c] 27))
 rw [World.size_alloc] at hn9
 have TN:Hid (zai (w.heap.size+1) x0 x1 x2 x8 x11 x12 x13 x14 x15 x16 x17 x18 K S P O Z WA BA nW cW nB cB (((w.alloc (.cells #[.int .i64 H,.int .i64 W,.int .i64 C,.slice (some ⟨bz,oz,none⟩) n c] 27)).alloc (.cells #[x0,x1,x2,.int .i64 K,.int .i64 S,.int .i64 P,.int .i64 O,.int .i8 Z,x8,.slice WA nW cW,.slice BA nB cB,x11,x12,x13,x14,x15,x16,x17,x18] 44)).alloc (.cells #[.int .i64 0,.int .i64 0,.slice none 0 0] 186))):=hid (hn9.below (B':=w.heap.size+2) (by omega) ((Below.refl _ _).alloc (by simp) _))
 have hz:w.heap.size+3≤(((w.alloc (.cells #[.int .i64 H,.int .i64 W,.int .i64 C,.slice (some ⟨bz,oz,none⟩) n c] 27)).alloc (.cells #[x0,x1,x2,.int .i64 K,.int .i64 S,.int .i64 P,.int .i64 O,.int .i8 Z,x8,.slice WA nW cW,.slice BA nB cB,x11,x12,x13,x14,x15,x16,x17,x18] 44)).alloc (.cells #[.int .i64 0,.int .i64 0,.slice none 0 0] 186)).heap.size:=by simp
 clear hf hn9
 generalize ((w.alloc (.cells #[.int .i64 H,.int .i64 W,.int .i64 C,.slice (some ⟨bz,oz,none⟩) n c] 27)).alloc (.cells #[x0,x1,x2,.int .i64 K,.int .i64 S,.int .i64 P,.int .i64 O,.int .i8 Z,x8,.slice WA nW cW,.slice BA nB cB,x11,x12,x13,x14,x15,x16,x17,x18] 44)).alloc (.cells #[.int .i64 0,.int .i64 0,.slice none 0 0] 186)=W0 at HB HF TB TN hz ⊢
 go_at_call 13
 refine (zac H W C (some ⟨bz,oz,none⟩) n c true HT.out _).mono ?_
 rintro e W1 ⟨rfl,hb⟩
 replace HF:=hid (HF.out.below hb)
 replace TB:=hid (TB.out.below (B':=W0.heap.size) (by omega) hb)
 replace TN:=hid (TN.out.below (B':=W0.heap.size) (by omega) hb)
 replace HB:=hid (HB.out.trans (hb.mono HB.out.size))
 replace hz:=Nat.le_trans hz hb.size
 clear hb
 obtain⟨tb0,tb1,tb2,tb3⟩:=TB.out
 have n3:=TN.out.at 3 _ rfl
 have n4:=TN.out.at 4 _ rfl
 have n5:=TN.out.at 5 _ rfl
 go_wp2_with fail
 clear tb0 tb1 tb2 tb3 n3 n4 n5
 go_at_call 78
 refine (zbf H W C K S P 1 0 _ HE.out HV.out _).mono ?_
 rintro e W2 ⟨rfl,hb⟩
 replace HF:=hid (HF.out.below hb)
 replace TB:=hid (TB.out.below (B':=W1.heap.size) (by omega) hb)
 replace TN:=hid (TN.out.below (B':=W1.heap.size) (by omega) hb)
 replace HB:=hid (HB.out.trans (hb.mono HB.out.size))
 replace hz:=Nat.le_trans hz hb.size
 clear hb
 have TS:Hid (zau W2.heap.size (a:Int) (b:Int) 1 (W2.alloc (.cells #[.int .i64 (a:Int),.int .i64 (b:Int),.int .i64 1] 24))):=hid (zba _ _ _ _ _)
 obtain⟨tb0,tb1,tb2,tb3⟩:=TB.out
 have hlt1:w.heap.size < W2.heap.size:=by omega
 have hlt2:w.heap.size+1 < W2.heap.size:=by omega
 have TNa:=hid (TN.out.below (B':=W2.heap.size) (by omega) ((Below.refl _ _).alloc (le_refl _) (.cells #[.int .i64 (a:Int),.int .i64 (b:Int),.int .i64 1] 24)))
 go_wp2_with (refine wpList_load_mid rfl 44 (.tmp 3) rfl (w.heap.size+1) 0 rfl [x0,x1,x2,.int .i64 K,.int .i64 S,.int .i64 P,.int .i64 O,.int .i8 Z,x8,.slice WA nW cW,.slice BA nB cB,x11,x12,x13,x14,x15,x16,x17,x18] _ TNa.out Tryz.underlying44 rfl (by kernel_rfl) ?_)
 have hal:Below W2.heap.size W2 (W2.alloc (.cells #[.int .i64 (a:Int),.int .i64 (b:Int),.int .i64 1] 24)):=(Below.refl _ _).alloc (le_refl _) _
 clear tb0 tb1 tb2 tb3 hlt1 hlt2 TN
 replace HF:=hid (HF.out.below hal)
 replace TB:=hid (TB.out.below (B':=W2.heap.size) (by omega) hal)
 replace HB:=hid (HB.out.trans (hal.mono HB.out.size))
 have hz6:W2.heap.size < (W2.alloc (.cells #[.int .i64 (a:Int),.int .i64 (b:Int),.int .i64 1] 24)).heap.size:=by simp
 clear hal
 generalize W2.alloc (.cells #[.int .i64 (a:Int),.int .i64 (b:Int),.int .i64 1] 24)=W3 at HF TB HB TS TNa hz6 ⊢
 obtain⟨g6,hg6⟩:∃ g,W2.heap.size=g:=⟨_,rfl⟩
 rw [hg6] at hz hz6 TS ⊢
 clear hg6
 refine (empty_to H W C (a:Int) (b:Int) 1 x0 x1 x2 x8 x11 x12 x13 x14 x15 x16 x17 x18 K S P O Z WA BA nW cW nB cB (N1:Int) (k2:Int) (wd:Int) HM1.out HM2.out HM3.out _).mono ?_
 rintro e W4 ⟨rfl,hb⟩
 replace HF:=hid (HF.out.below hb)
 replace TB:=hid (TB.out.below (B':=W3.heap.size) (by omega) hb)
 replace TN:=hid (TNa.out.below (B':=W3.heap.size) (by omega) hb)
 replace TS:=hid (TS.out.below (B':=W3.heap.size) (by omega) hb)
 replace HB:=hid (HB.out.trans (hb.mono HB.out.size))
 replace hz6:=Nat.lt_of_lt_of_le hz6 hb.size
 clear hb TNa
 have hwz:w.heap.size≤W4.heap.size:=HB.out.size
 go_upto_region 8 with (at_make;refine wpList_make_full _ rfl (.tmp 38) (.tmp 38) _ rfl w.heap.size 204 i0 (.int .i16 0) 1 Tryz.underlying184 hi0 hi1 hi2 .i64 .i64 _ _ N rfl rfl rfl rfl (by rw [hi3];omega) (by unfold maxLen;omega) (by simp;omega) ?_;intro W5 hown hg2;obtain⟨⟨y0,y1,y2⟩,y3,y4,y5⟩:=(FreshR.new (.int .i64 (N1:Int)) (.int .i64 (wd:Int)) (.slice none 0 0) 186 W4).grown hg2 (by simp);have hlt8:W4.heap.size < W5.heap.size:=Kit.block_lt y0)
 have hgd:(W4.alloc (.cells #[.int .i64 (N1:Int),.int .i64 (wd:Int),.slice none 0 0] 186)).heap.size=W4.heap.size+1:=by simp
 rw [hgd] at hown
 rw [show (madeCells (Value.int IntKind.i16 0).cells (N * 1)).toList=I16v (listF (upto F (0 * d)) N) by
  rw [Nat.mul_one];show (madeCells #[Value.int .i16 0] N).toList=_;rw [toList_madeCells_one]
  apply List.ext_getElem <;> simp [I16v,listF,upto]] at hown
 have hgr:W4.grownBy W5 none:=(Kit.za2 ((Below.refl W4.heap.size W4).alloc (le_refl _) _) none).trans hg2
 have hgd5:W4.heap.size+1 < W5.heap.size:=by
  have h9:=Kit.zao hown
  exact h9
 obtain⟨V,hV⟩:∃ V,W5.setCell ⟨W4.heap.size,2,none⟩ (.slice (some ⟨W4.heap.size+1,0,none⟩) N N)=V:=⟨_,rfl⟩
 have hgV:W5.grownBy V (some W4.heap.size):=by rw [← hV];exact grown_set _ _ _ _
 have hgVV:W4.grownBy V (some W4.heap.size):=(grown_but hgr _).trans hgV
 replace HF:=hid (HF.out.grown hgVV (by simp;omega))
 replace TB:=hid (BoxAt_grown TB.out hgVV (by omega))
 replace TN:=hid (NodeAt_grown TN.out hgVV (by omega) (by omega))
 replace TS:=hid (zc1 TS.out hgVV (by omega) (by omega))
 have HO:Hid (V.ownsRow w.heap.size 204 1 (.slice (some ⟨W4.heap.size+1,0,none⟩) N N) N (I16v (listF (upto F (0 * d)) N))):=hid (hown.kept hgV (.inr (by simp [Value.ownBlock])))
 have HRW:Hid (zbr W4.heap.size (N1:Int) (wd:Int) (W4.heap.size+1) N V):=hid (by
  rw [← hV]
  refine⟨?_,?_,?_⟩
  ·rw [World.cell?_setCell_other _ _ _ _ (by simp)];exact y0
  ·rw [World.cell?_setCell_other _ _ _ _ (by simp)];exact y1
  ·exact World.cell?_setCell_same' _ _ _ (by rw [y2];rfl))
 have HBV:Hid (Below w.heap.size w V):=hid (by rw [← hV];exact (HB.out.grown hgr hwz (fun k hk=>by cases hk)).setCell (by simp;omega) _)
 have hzV:W4.heap.size+1 < V.heap.size:=by rw [← hV];simpa using hgd5
 rw [hV]
 clear hown hg2 hgr hgV hgVV y0 y1 y2 y3 y4 y5 hlt8 hgd5 hV HB hgd hi0 hi1 hi2 hi3
 obtain⟨tb0,tb1,tb2,tb3⟩:=TB.out
 obtain⟨ts0,ts1,ts2⟩:=TS.out
 obtain⟨tr0,tr1,tr2⟩:=HRW.out
 go_wp2_with (refine wpList_load_mid rfl 44 (.tmp 3) rfl (w.heap.size+1) 0 rfl [x0,x1,x2,.int .i64 K,.int .i64 S,.int .i64 P,.int .i64 O,.int .i8 Z,x8,.slice WA nW cW,.slice BA nB cB,x11,x12,x13,x14,x15,x16,x17,x18] _ TN.out Tryz.underlying44 rfl (by kernel_rfl) ?_)
 clear tb0 tb1 tb2 tb3 ts0 ts1 ts2 tr0 tr1 tr2
 go_at_call 153
 have hOF:OfAt w.heap.size (w.heap.size+1) W4.heap.size (W4.heap.size+1) w.heap.size H W C (some ⟨bz,oz,none⟩) n c x0 x1 x2 x8 x11 x12 x13 x14 x15 x16 x17 x18 K S P O Z WA BA nW cW nB cB (N1:Int) (wd:Int) N zs F d 0 V:=⟨TB.out,TN.out,HRW.out,HO.out,HR.out.below HBV.out,HBV.out.size⟩
 have hin:∀ (i q:Nat) (y x pos:Int),i < N1→q < k2→y=((i / b:Nat):Int) * S - P+((q / kk:Nat):Int)→x=((i % b:Nat):Int) * S - P+((q % kk:Nat):Int)→0≤y→y < H→0≤x→x < W→(y * W+x) * C=pos →
   ∀ v:World,OfAt w.heap.size (w.heap.size+1) W4.heap.size (W4.heap.size+1) w.heap.size H W C (some ⟨bz,oz,none⟩) n c x0 x1 x2 x8 x11 x12 x13 x14 x15 x16 x17 x18 K S P O Z WA BA nW cW nB cB (N1:Int) (wd:Int) N zs F d (i * k2+q) v →
   Calls Tryz.prog 155 #[.int .i64 ((i * wd+q * d:Nat):Int),.int .i64 pos,.pointer (some ⟨w.heap.size,0,none⟩),.pointer (some ⟨w.heap.size+1,0,none⟩),.pointer (some ⟨W4.heap.size,0,none⟩)] v fun e v'=>(∃ u,e=.returned u) ∧
    OfAt w.heap.size (w.heap.size+1) W4.heap.size (W4.heap.size+1) w.heap.size H W C (some ⟨bz,oz,none⟩) n c x0 x1 x2 x8 x11 x12 x13 x14 x15 x16 x17 x18 K S P O Z WA BA nW cW nB cB (N1:Int) (wd:Int) N zs F d (i * k2+(q+1)) v'∧v.grownBy v' (some (W4.heap.size+1)):=by
  intro i q y x pos hi hq hy hx i1 i2 i3 i4 hp v hI
  obtain⟨-, -,p1,p2, -⟩:=at_bd HS0.out i1 i2 i3 i4 (c:=C - 1) (by omega) (by omega)
  obtain⟨pn,rfl⟩:=Int.eq_ofNat_of_zero_le (show 0≤pos by omega)
  have hat:(i * k2+q) * d=i * wd+q * d:=by rw [Nat.add_mul,Nat.mul_assoc,HWD.out]
  have hNle:(i * k2+q) * d+d≤N:=by
   have h1:=Nat.mul_le_mul_right k2 (show i+1≤N1 by omega)
   rw [Nat.add_mul,Nat.one_mul] at h1
   have h2:=Nat.mul_le_mul_right d (show i * k2+q+1≤N1 * k2 by omega)
   rw [Nat.add_mul,Nat.one_mul,Nat.mul_assoc,HWD.out,HNN.out] at h2
   exact h2
  have hDD:=HD.out
  have hMM:=HM.out
  refine visit_of w.heap.size (w.heap.size+1) W4.heap.size (W4.heap.size+1) w.heap.size (by omega) (by omega) (by omega) (by omega) H W C bz oz n c x0 x1 x2 x8 x11 x12 x13 x14 x15 x16 x17 x18 K S P O Z WA BA nW cW nB cB (N1:Int) (wd:Int) N zs F d (i * k2+q) (i * wd+q * d) pn hDD HN.out HZ.out z1 z2 hat (by rw [← hat];exact hNle) (by omega) (by omega) hn1 (fun t ht=>?_) v hI
  rw [HFF.out, ← hat,numF_in zs HWD.out hq hy hx i1 i2 i3 i4 hp t ht]
  congr 2
 have hskip:∀ (i q:Nat) (y x:Int),i < N1→q < k2→y=((i / b:Nat):Int) * S - P+((q / kk:Nat):Int)→x=((i % b:Nat):Int) * S - P+((q % kk:Nat):Int)→¬ (0≤y∧y < H∧0≤x∧x < W) →
   ∀ v:World,OfAt w.heap.size (w.heap.size+1) W4.heap.size (W4.heap.size+1) w.heap.size H W C (some ⟨bz,oz,none⟩) n c x0 x1 x2 x8 x11 x12 x13 x14 x15 x16 x17 x18 K S P O Z WA BA nW cW nB cB (N1:Int) (wd:Int) N zs F d (i * k2+q) v→OfAt w.heap.size (w.heap.size+1) W4.heap.size (W4.heap.size+1) w.heap.size H W C (some ⟨bz,oz,none⟩) n c x0 x1 x2 x8 x11 x12 x13 x14 x15 x16 x17 x18 K S P O Z WA BA nW cW nB cB (N1:Int) (wd:Int) N zs F d (i * k2+(q+1)) v:=by
  intro i q y x hi hq hy hx ho v hI
  obtain⟨j1,j2,j3,j4,j5,j6⟩:=hI
  rw [upto_skip (k:=i * k2+q) (fun t ht=>by rw [HFF.out];exact numF_out zs HWD.out hq hy hx ho t ht)] at j4
  exact⟨j1,j2,j3,j4,j5,j6⟩
 refine (each_of H W C HS0.out x0 x1 x2 x8 x11 x12 x13 x14 x15 x16 x17 x18 K S P O Z WA BA nW cW nB cB a b kk k2 d HK.out hkk1 hkk5 HK2.out hb0 ha1024 hb1024 HD.out st1 st4 pd0 pd4 (N1:Int) (wd:Int) (.slice (some ⟨W4.heap.size+1,0,none⟩) N N) wd rfl HWD.out N1 HN1.out hN1b w.heap.size (w.heap.size+1) W4.heap.size (W4.heap.size+1) (fun k v=>OfAt w.heap.size (w.heap.size+1) W4.heap.size (W4.heap.size+1) w.heap.size H W C (some ⟨bz,oz,none⟩) n c x0 x1 x2 x8 x11 x12 x13 x14 x15 x16 x17 x18 K S P O Z WA BA nW cW nB cB (N1:Int) (wd:Int) N zs F d k v) V hzV (fun k v v' h hb=>h.stay hb) hin hskip hOF).mono ?_
 rintro e W6 ⟨⟨u,rfl⟩,hI,hgW⟩
 have hf6:=HF.out.grown hgW (by simp;omega)
 have hB6:Below w.heap.size w W6:=HBV.out.grown hgW HBV.out.size (fun k hk=>by cases hk;omega)
 obtain⟨-, -,⟨tr0,tr1,tr2⟩,ho6, -, -⟩:=hI
 rw [Nat.mul_assoc,HWD.out,HNN.out,show listF (upto F N) N=listF F N from listF_congr fun t ht=>by simp [upto,ht]] at ho6
 obtain⟨⟨zz0,zz1,zz2⟩,zz3,zz4,zz5⟩:=hf6
 have HO6:=hid ho6
 have HB6:=hid hB6
 clear HO HRW HBV HF TB TN TS hin hskip hOF hgW ho6 hB6 hzV
 have hlz:w.heap.size+1+1 < W6.heap.size:=Kit.block_lt zz0
 go_wp2_with fail
 refine bodyPost_ret (Kit.zaa rfl _ _ (w.heap.size+1+1) 0 [.int .i64 (N1:Int),.int .i64 (wd:Int),.slice (some ⟨W4.heap.size+1,0,none⟩) N N] _ rfl (Kit.zaq (by go_cell) (by go_cell) (by go_cell)) Tryz.underlying186 rfl (by kernel_rfl)) rfl ?_
 exact⟨_,rfl,((HO6.out.kept (grown_set _ _ _ _) (.inr (by simp [Value.ownBlock];omega))).kept (grown_set _ _ _ _) (.inr (by simp [Value.ownBlock];omega))).kept (grown_set _ _ _ _) (.inr (by simp [Value.ownBlock];omega)),((HB6.out.setCell (by simp;omega) _).setCell (by simp;omega) _).setCell (by simp;omega) _⟩
end CPatch
end
end Go.Proofs.YtahekhpeomcfjaaGreatDoor
