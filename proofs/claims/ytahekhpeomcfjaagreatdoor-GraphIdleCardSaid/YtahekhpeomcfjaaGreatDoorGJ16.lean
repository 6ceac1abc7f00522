/- -/
import Derived.Test.YtahekhpeomcfjaaGreatDoorGJ14
open Go.Lib (hid)
open Nat (le_refl lt_of_succ_lt lt_succ_self)
set_option linter.unusedVariables false
set_option linter.unusedSimpArgs false
set_option maxRecDepth 100000
set_option maxHeartbeats 16000000
namespace Go.Proofs.YtahekhpeomcfjaaGreatDoor
namespace CConv
end CConv
namespace CSat
end CSat
namespace CShape
end CShape
namespace CTensor
end CTensor
open Go Go.ChangeShapes Go.WideShapes Go.ChangeAt Go.RowKit
section
namespace CPatch
open Plain CSat CShape CTensor CConv
theorem each_of (H W C:Int) (hs:zad H W C=true) (x0 x1 x2 x8 x11 x12 x13 x14 x15 x16 x17 x18:Value) (K S P O Z:Int) (WA BA:Option Addr) (nW cW nB cB:Nat) (a b kk k2 d:Nat) (hk:K=(kk:Int)) (hk1:1≤kk) (hk5:kk≤5) (hk2:kk * kk=k2) (hb0:0 < b) (ha16:a≤1024) (hb16:b≤1024) (hd:C=(d:Int)) (s1:1≤S) (s4:S≤4) (p0:0≤P) (p4:P≤4)
  (M Wd:Int) (xD:Value) (wd:Nat) (hwd:Wd=(wd:Int)) (hwd2:k2 * d=wd) (N1:Nat) (hN1:a * b=N1) (hN1b:N1≤1024) (pt pn pr gd:Nat) (I:Nat→World→Prop) (w:World) (hgd:gd < w.heap.size)
  (hstay:∀ (k:Nat) (v v':World),I k v→Below v.heap.size v v'→I k v')
  (hin:∀ (i q:Nat) (y x pos:Int),i < N1→q < k2→y=((i / b:Nat):Int) * S - P+((q / kk:Nat):Int)→x=((i % b:Nat):Int) * S - P+((q % kk:Nat):Int)→0≤y→y < H→0≤x→x < W→(y * W+x) * C=pos→∀ v:World,I (i * k2+q) v →
    Calls Tryz.prog 155 #[.int .i64 ((i * wd+q * d:Nat):Int),.int .i64 pos,.pointer (some ⟨pt,0,none⟩),.pointer (some ⟨pn,0,none⟩),.pointer (some ⟨pr,0,none⟩)] v fun e v'=>(∃ u,e=.returned u)∧I (i * k2+(q+1)) v'∧v.grownBy v' (some gd))
  (hskip:∀ (i q:Nat) (y x:Int),i < N1→q < k2→y=((i / b:Nat):Int) * S - P+((q / kk:Nat):Int)→x=((i % b:Nat):Int) * S - P+((q % kk:Nat):Int)→¬ (0≤y∧y < H∧0≤x∧x < W)→∀ v:World,I (i * k2+q) v→I (i * k2+(q+1)) v)
  (h0:I 0 w) :
  Calls Tryz.prog 153 #[.agg #[.int .i64 H,.int .i64 W,.int .i64 C],.agg #[.int .i64 (a:Int),.int .i64 (b:Int),.int .i64 1],.agg #[x0,x1,x2,.int .i64 K,.int .i64 S,.int .i64 P,.int .i64 O,.int .i8 Z,x8,.slice WA nW cW,.slice BA nB cB,x11,x12,x13,x14,x15,x16,x17,x18],.func (.func 154) #[.agg #[.int .i64 M,.int .i64 Wd,xD]] #[],.func (.func 155) #[] #[.pointer (some ⟨pt,0,none⟩),.pointer (some ⟨pn,0,none⟩),.pointer (some ⟨pr,0,none⟩)]] w fun e w'=>(∃ u,e=.returned u)∧I (N1 * k2) w'∧w.grownBy w' (some gd):=by
 obtain⟨g1,g2,g3,g4,g5,g6,g7⟩:=zab hs
 have hk25:k2≤25:=by rw [← hk2];exact Nat.le_trans (Nat.mul_le_mul hk5 hk5) (by omega)
 have hd1:d≤1024:=by omega
 have hwdb:wd≤25600:=by rw [← hwd2];exact Nat.le_trans (Nat.mul_le_mul hk25 hd1) (by omega)
 have e1:IntKind.i64.wrap ((a:Int) * (b:Int))=(N1:Int):=by rw [← Int.natCast_mul,hN1];exact IntWalk.i64_in _ (by omega)
 have e2:IntKind.i64.wrap ((kk:Int) * (kk:Int))=(k2:Int):=by rw [← Int.natCast_mul,hk2];exact IntWalk.i64_in _ (by omega)
 have HS:=hid hs
 have HSTAY:=hid hstay
 have HIN:=hid hin
 have HSKIP:=hid hskip
 have H0:=hid h0
 have HK2:=hid hk2
 have HN1:=hid hN1
 have HD:=hid hd
 have HWD2:=hid hwd2
 subst hk hwd
 clear hs hstay hin hskip h0 hk2 hN1 hd hwd2 g7
 go_enter Tryz.func153,Tryz.ntmps153
 go_wp2_with fail
 have hbel:Below w.heap.size w (((w.alloc (.cells #[.int .i64 H,.int .i64 W,.int .i64 C] 24)).alloc (.cells #[.int .i64 (a:Int),.int .i64 (b:Int),.int .i64 1] 24)).alloc (.cells #[x0,x1,x2,.int .i64 (kk:Int),.int .i64 S,.int .i64 P,.int .i64 O,.int .i8 Z,x8,.slice WA nW cW,.slice BA nB cB,x11,x12,x13,x14,x15,x16,x17,x18] 44)):=(((Below.refl _ _).alloc (le_refl _) _).alloc (by simp) _).alloc (by simp;omega) _
 have T1:Hid (zau w.heap.size H W C (((w.alloc (.cells #[.int .i64 H,.int .i64 W,.int .i64 C] 24)).alloc (.cells #[.int .i64 (a:Int),.int .i64 (b:Int),.int .i64 1] 24)).alloc (.cells #[x0,x1,x2,.int .i64 (kk:Int),.int .i64 S,.int .i64 P,.int .i64 O,.int .i8 Z,x8,.slice WA nW cW,.slice BA nB cB,x11,x12,x13,x14,x15,x16,x17,x18] 44))) :=
  hid ((zba H W C 24 w).below (B':=w.heap.size+1) (by omega) (((Below.refl _ _).alloc (by simp) _).alloc (by simp) _))
 have hq2:=zba (a:Int) (b:Int) 1 24 (w.alloc (.cells #[.int .i64 H,.int .i64 W,.int .i64 C] 24))
 rw [World.size_alloc] at hq2
 have T2:=hid (hq2.below (B':=w.heap.size+2) (by omega) ((Below.refl _ _).alloc (by simp) (.cells #[x0,x1,x2,.int .i64 (kk:Int),.int .i64 S,.int .i64 P,.int .i64 O,.int .i8 Z,x8,.slice WA nW cW,.slice BA nB cB,x11,x12,x13,x14,x15,x16,x17,x18] 44)))
 have hq3:=zai.new x0 x1 x2 x8 x11 x12 x13 x14 x15 x16 x17 x18 (kk:Int) S P O Z WA BA nW cW nB cB 44 ((w.alloc (.cells #[.int .i64 H,.int .i64 W,.int .i64 C] 24)).alloc (.cells #[.int .i64 (a:Int),.int .i64 (b:Int),.int .i64 1] 24))
 rw [World.size_alloc,World.size_alloc] at hq3
 have T3:=hid hq3
 have HG:Hid (w.grownBy _ (some gd)):=hid (Kit.za2 hbel (some gd))
 have HI:=hid (HSTAY.out 0 _ _ H0.out hbel)
 have hz:w.heap.size+3≤(((w.alloc (.cells #[.int .i64 H,.int .i64 W,.int .i64 C] 24)).alloc (.cells #[.int .i64 (a:Int),.int .i64 (b:Int),.int .i64 1] 24)).alloc (.cells #[x0,x1,x2,.int .i64 (kk:Int),.int .i64 S,.int .i64 P,.int .i64 O,.int .i8 Z,x8,.slice WA nW cW,.slice BA nB cB,x11,x12,x13,x14,x15,x16,x17,x18] 44)).heap.size:=by simp
 clear hq2 hq3 hbel
 generalize ((w.alloc (.cells #[.int .i64 H,.int .i64 W,.int .i64 C] 24)).alloc (.cells #[.int .i64 (a:Int),.int .i64 (b:Int),.int .i64 1] 24)).alloc (.cells #[x0,x1,x2,.int .i64 (kk:Int),.int .i64 S,.int .i64 P,.int .i64 O,.int .i8 Z,x8,.slice WA nW cW,.slice BA nB cB,x11,x12,x13,x14,x15,x16,x17,x18] 44)=W0 at T1 T2 T3 HG HI hz ⊢
 go_loopw [22] (fun u wr=>∃ i:Nat,i≤N1∧u=.int .i64 i∧Hid (I (i * k2) wr)∧Hid (zau w.heap.size H W C wr)∧Hid (zau (w.heap.size+1) (a:Int) (b:Int) 1 wr)∧Hid (zai (w.heap.size+2) x0 x1 x2 x8 x11 x12 x13 x14 x15 x16 x17 x18 (kk:Int) S P O Z WA BA nW cW nB cB wr)∧Hid (w.grownBy wr (some gd))∧w.heap.size+3≤wr.heap.size) (fun u _=>N1 - (intOf u).toNat)
 case atStart=>exact⟨0,Nat.zero_le _,rfl,by rw [Nat.zero_mul];exact HI,T1,T2,T3,HG,hz⟩
 case round =>
  clear T1 T2 T3 HG HI hz
  obtain⟨i,hi,rfl,HI,T1,T2,T3,HG,hz⟩:=hrel
  by_cases hlt:i < N1
  ·have hiI:(i:Int) < (N1:Int):=by omega
   obtain⟨h,hh⟩:∃ h,i / b=h:=⟨_,rfl⟩
   obtain⟨v,hv⟩:∃ v,i % b=v:=⟨_,rfl⟩
   have hvb:v < b:=by rw [← hv];exact Nat.mod_lt _ hb0
   have hha:h < a:=by rw [← hh];exact Nat.div_lt_of_lt_mul (by rw [Nat.mul_comm,HN1.out];exact hlt)
   have b9:¬ b=0:=by omega
   have d1:(i:Int).tdiv (b:Int)=(h:Int):=by rw [Int.tdiv_eq_ediv_of_nonneg (by omega), ← hh];simp
   have d2:(i:Int).tmod (b:Int)=(v:Int):=by rw [Int.tmod_eq_emod_of_nonneg (by omega), ← hv];simp
   have d3:IntKind.i64.wrap (h:Int)=(h:Int):=IntWalk.i64_in _ (by omega)
   have d4:IntKind.i64.wrap (v:Int)=(v:Int):=IntWalk.i64_in _ (by omega)
   obtain⟨hs0,hhs⟩:∃ hs,(h:Int) * S=hs:=⟨_,rfl⟩
   obtain⟨vs0,hvs⟩:∃ vs,(v:Int) * S=vs:=⟨_,rfl⟩
   have b1:0≤hs0∧hs0≤4096:=by
    rw [← hhs]
    exact⟨Int.mul_nonneg (by omega) (by omega),Int.le_trans (Int.mul_le_mul (show (h:Int)≤1024 by omega) s4 (by omega) (by omega)) (by omega)⟩
   have b2:0≤vs0∧vs0≤4096:=by
    rw [← hvs]
    exact⟨Int.mul_nonneg (by omega) (by omega),Int.le_trans (Int.mul_le_mul (show (v:Int)≤1024 by omega) s4 (by omega) (by omega)) (by omega)⟩
   obtain⟨b3,b4⟩:=b1
   obtain⟨b5,b6⟩:=b2
   obtain⟨top,htop⟩:∃ top,hs0 - P=top:=⟨_,rfl⟩
   obtain⟨left,hleft⟩:∃ left,vs0 - P=left:=⟨_,rfl⟩
   have f1:IntKind.i64.wrap ((h:Int) * S)=hs0:=by rw [hhs];exact IntWalk.i64_in _ (by omega)
   have f2:IntKind.i64.wrap ((v:Int) * S)=vs0:=by rw [hvs];exact IntWalk.i64_in _ (by omega)
   have f3:IntKind.i64.wrap (hs0 - P)=top:=by rw [htop];exact IntWalk.i64_in _ (by omega)
   have f4:IntKind.i64.wrap (vs0 - P)=left:=by rw [hleft];exact IntWalk.i64_in _ (by omega)
   obtain⟨bg,hbg⟩:∃ bg,i * wd=bg:=⟨_,rfl⟩
   have hbgb:bg≤26214400:=by rw [← hbg];exact Nat.le_trans (Nat.mul_le_mul (show i≤1024 by omega) hwdb) (by omega)
   have f5:IntKind.i64.wrap ((i:Int) * (wd:Int))=(bg:Int):=by rw [← Int.natCast_mul,hbg];exact IntWalk.i64_in _ (by omega)
   have HTOP:Hid (((i / b:Nat):Int) * S - P=top):=hid (by rw [hh,hhs];exact htop)
   have HLEFT:Hid (((i % b:Nat):Int) * S - P=left):=hid (by rw [hv,hvs];exact hleft)
   have HBG:=hid hbg
   have tb1 : -4≤top:=by omega
   have tb2:top≤4096:=by omega
   have lb1 : -4≤left:=by omega
   have lb2:left≤4096:=by omega
   clear hh hv hhs hvs htop hleft hbg
   go_wp2_with fail
   refine wp_region_held_drew (S:=fun w'=>zau (w.heap.size+1) (a:Int) (b:Int) 1 w'∧zai (w.heap.size+2) x0 x1 x2 x8 x11 x12 x13 x14 x15 x16 x17 x18 (kk:Int) S P O Z WA BA nW cW nB cB w') (by kernel_rfl) ⟨T2.out,T3.out⟩ (fun hHeld=>?_)
   refine Tk.x 0 rfl ?_
   try simp only [Tk.put]
   refine Tk.x 1 rfl ?_
   try simp only [Tk.put]
   refine Tk.y 2 (v:=?_) rfl ?_ ?_
   rotate_left
   ·intro wS hSw
    obtain⟨hq1,hq2⟩:=hSw
    obtain⟨z1,z2,z3⟩:=hq1;clear hq2
    first | (go_simp;done) | (go_simp;with_reducible rfl)
   try simp only [Tk.put]
   refine Tk.x 3 rfl ?_
   try simp only [Tk.put]
   refine Tk.x 4 rfl ?_
   try simp only [Tk.put]
   refine Tk.y 5 (v:=?_) rfl ?_ ?_
   rotate_left
   ·intro wS hSw
    obtain⟨hq1,hq2⟩:=hSw
    have hn9:=hq2.at 4 _ rfl;clear hq1 hq2
    first | (go_simp;done) | (go_simp;with_reducible rfl)
   try simp only [Tk.put]
   refine Tk.x 6 rfl ?_
   try simp only [Tk.put]
   refine Tk.x 7 rfl ?_
   try simp only [Tk.put]
   refine Tk.y 8 (v:=?_) rfl ?_ ?_
   rotate_left
   ·intro wS hSw
    obtain⟨hq1,hq2⟩:=hSw
    have hn9:=hq2.at 5 _ rfl;clear hq1 hq2
    first | (go_simp;done) | (go_simp;with_reducible rfl)
   try simp only [Tk.put]
   refine Tk.x 9 rfl ?_
   try simp only [Tk.put]
   refine Tk.x 10 rfl ?_
   try simp only [Tk.put]
   refine Tk.x 11 rfl ?_
   try simp only [Tk.put]
   refine Tk.y 12 (v:=?_) rfl ?_ ?_
   rotate_left
   ·intro wS hSw
    obtain⟨hq1,hq2⟩:=hSw
    obtain⟨z1,z2,z3⟩:=hq1;clear hq2
    first | (go_simp;done) | (go_simp;with_reducible rfl)
   try simp only [Tk.put]
   refine Tk.x 13 rfl ?_
   try simp only [Tk.put]
   refine Tk.x 14 rfl ?_
   try simp only [Tk.put]
   refine Tk.y 15 (v:=?_) rfl ?_ ?_
   rotate_left
   ·intro wS hSw
    obtain⟨hq1,hq2⟩:=hSw
    have hn9:=hq2.at 4 _ rfl;clear hq1 hq2
    first | (go_simp;done) | (go_simp;with_reducible rfl)
   try simp only [Tk.put]
   refine Tk.x 16 rfl ?_
   try simp only [Tk.put]
   refine Tk.x 17 rfl ?_
   try simp only [Tk.put]
   refine Tk.y 18 (v:=?_) rfl ?_ ?_
   rotate_left
   ·intro wS hSw
    obtain⟨hq1,hq2⟩:=hSw
    have hn9:=hq2.at 5 _ rfl;clear hq1 hq2
    first | (go_simp;done) | (go_simp;with_reducible rfl)
   try simp only [Tk.put]
   refine Tk.x 19 rfl ?_
   try simp only [Tk.put]
   refine Tk.x 20 rfl ?_
   try simp only [Tk.put]
   refine Tk.x 21 rfl ?_
   try simp only [Tk.put]
   refine Tk.s 22 rfl (fun Kq hK=>?_)
   go_simp
   go_at_call 154
   refine (begin_to M (wd:Int) xD (i:Int) (bg:Int) f5 _).mono ?_
   rintro e w1 ⟨rfl,hb1⟩
   have hbb:Below wr.heap.size wr w1:=(Below.refl _ _).drew.trans hb1
   clear hb1 hHeld
   replace HI:=hid (HSTAY.out _ _ _ HI.out hbb)
   replace T1:=hid (T1.out.below (B':=wr.heap.size) (by omega) hbb)
   replace T2:=hid (T2.out.below (B':=wr.heap.size) (by omega) hbb)
   replace T3:=hid (T3.out.below (B':=wr.heap.size) (by omega) hbb)
   replace HG:=hid (HG.out.trans (Kit.za2 hbb (some gd)))
   replace hz:=Nat.le_trans hz hbb.size
   clear hbb
   dsimp only
   refine hK.out _ _ ?_ (fun hHeld=>?_)
   ·exact⟨T2.out,T3.out⟩
   clear hK Kq
   try simp only [Tk.put]
   refine Tk.x 23 rfl ?_
   try simp only [Tk.put]
   refine Tk.x 24 rfl ?_
   try simp only [Tk.put]
   refine Tk.x 25 rfl ?_
   try simp only [Tk.put]
   refine wpAnyH_done (by kernel_rfl) ?_ _
   clear hHeld d1 d2 d3 d4 f1 f2 f3 f4 f5
   have n3:=T3.out.at 3 _ rfl
   go_wp2_with fail
   clear n3
   go_loopw [53] (fun u wr=>∃ q:Nat,q≤k2∧u=.int .i64 q∧Hid (I (i * k2+q) wr)∧Hid (zau w.heap.size H W C wr)∧Hid (zau (w.heap.size+1) (a:Int) (b:Int) 1 wr)∧Hid (zai (w.heap.size+2) x0 x1 x2 x8 x11 x12 x13 x14 x15 x16 x17 x18 (kk:Int) S P O Z WA BA nW cW nB cB wr)∧Hid (w.grownBy wr (some gd))∧w.heap.size+3≤wr.heap.size) (fun u _=>k2 - (intOf u).toNat)
   case atStart=>exact⟨0,Nat.zero_le _,rfl,by rw [Nat.add_zero];exact HI,T1,T2,T3,HG,hz⟩
   case round =>
    clear T1 T2 T3 HG HI hz
    obtain⟨q,hq,rfl,HI,T1,T2,T3,HG,hz⟩:=hrel
    by_cases hltq:q < k2
    ·have hqI:(q:Int) < (k2:Int):=by omega
     obtain⟨qi,hqi⟩:∃ x,q / kk=x:=⟨_,rfl⟩
     obtain⟨qj,hqj⟩:∃ x,q % kk=x:=⟨_,rfl⟩
     have hqj5:qj < kk:=by rw [← hqj];exact Nat.mod_lt _ (by omega)
     have hqi5:qi < kk:=by rw [← hqi];exact Nat.div_lt_of_lt_mul (by rw [HK2.out];exact hltq)
     obtain⟨y,hy⟩:∃ y,top+(qi:Int)=y:=⟨_,rfl⟩
     obtain⟨x,hx⟩:∃ x,left+(qj:Int)=x:=⟨_,rfl⟩
     have kk9:¬ kk=0:=by omega
     have d1:(q:Int).tdiv (kk:Int)=(qi:Int):=by rw [Int.tdiv_eq_ediv_of_nonneg (by omega), ← hqi];simp
     have d2:(q:Int).tmod (kk:Int)=(qj:Int):=by rw [Int.tmod_eq_emod_of_nonneg (by omega), ← hqj];simp
     have d3:IntKind.i64.wrap (qi:Int)=(qi:Int):=IntWalk.i64_in _ (by omega)
     have d4:IntKind.i64.wrap (qj:Int)=(qj:Int):=IntWalk.i64_in _ (by omega)
     have f1:IntKind.i64.wrap (top+(qi:Int))=y:=by rw [hy];exact IntWalk.i64_in _ (by omega)
     have f2:IntKind.i64.wrap (left+(qj:Int))=x:=by rw [hx];exact IntWalk.i64_in _ (by omega)
     have HYE:Hid (y=((i / b:Nat):Int) * S - P+((q / kk:Nat):Int)):=hid (by rw [HTOP.out,hqi];exact hy.symm)
     have HXE:Hid (x=((i % b:Nat):Int) * S - P+((q % kk:Nat):Int)):=hid (by rw [HLEFT.out,hqj];exact hx.symm)
     clear hqi hqj hy hx
     by_cases hin:0≤y∧y < H∧0≤x∧x < W
     ·obtain⟨i1,i2,i3,i4⟩:=hin
      obtain⟨pos,hpos⟩:∃ pos,(y * W+x) * C=pos:=⟨_,rfl⟩
      obtain⟨o1,ho1⟩:∃ o1,q * d=o1:=⟨_,rfl⟩
      have ho1b:o1≤25600:=by rw [← ho1];exact Nat.le_trans (Nat.mul_le_mul (show q≤25 by omega) hd1) (by omega)
      obtain⟨o2,ho2⟩:∃ o2,bg+o1=o2:=⟨_,rfl⟩
      have f3:IntKind.i64.wrap ((q:Int) * C)=(o1:Int):=by rw [HD.out, ← Int.natCast_mul,ho1];exact IntWalk.i64_in _ (by omega)
      have f4:IntKind.i64.wrap ((bg:Int)+(o1:Int))=(o2:Int):=by rw [← Int.natCast_add,ho2];exact IntWalk.i64_in _ (by omega)
      have HV:Hid (∀ v:World,I (i * k2+q) v→Calls Tryz.prog 155 #[.int .i64 (o2:Int),.int .i64 pos,.pointer (some ⟨pt,0,none⟩),.pointer (some ⟨pn,0,none⟩),.pointer (some ⟨pr,0,none⟩)] v fun e v'=>(∃ u,e=.returned u)∧I (i * k2+(q+1)) v'∧v.grownBy v' (some gd)):=hid (by
       have:=HIN.out i q y x pos hlt hltq HYE.out HXE.out i1 i2 i3 i4 hpos
       rwa [HBG.out,ho1,ho2] at this)
      have HPOS:Hid ((y * W+x) * C+0=pos):=hid (by rw [Int.add_zero];exact hpos)
      clear hpos ho1 ho2
      go_wp2_with fail
      refine wp_region_held_drew (S:=fun w'=>zau w.heap.size H W C w'∧zai (w.heap.size+2) x0 x1 x2 x8 x11 x12 x13 x14 x15 x16 x17 x18 (kk:Int) S P O Z WA BA nW cW nB cB w') (by kernel_rfl) ⟨T1.out,T3.out⟩ (fun hHeld=>?_)
      refine Tk.y 0 (v:=?_) rfl ?_ ?_
      rotate_left
      ·intro wS hSw
       obtain⟨hq1,hq2⟩:=hSw
       obtain⟨z1,z2,z3⟩:=hq1;clear hq2
       first | (go_simp;done) | (go_simp;with_reducible rfl)
      try simp only [Tk.put]
      refine Tk.x 1 rfl ?_
      try simp only [Tk.put]
      refine Tk.x 2 rfl ?_
      try simp only [Tk.put]
      refine Tk.x 3 rfl ?_
      try simp only [Tk.put]
      refine Tk.y 4 (v:=?_) rfl ?_ ?_
      rotate_left
      ·intro wS hSw
       obtain⟨hq1,hq2⟩:=hSw
       have hn9:=hq2.at 3 _ rfl;clear hq1 hq2
       first | (go_simp;done) | (go_simp;with_reducible rfl)
      try simp only [Tk.put]
      refine Tk.x 5 rfl ?_
      try simp only [Tk.put]
      refine Tk.x 6 rfl ?_
      try simp only [Tk.put]
      refine Tk.x 7 rfl ?_
      try simp only [Tk.put]
      refine Tk.x 8 rfl ?_
      try simp only [Tk.put]
      refine Tk.x 9 rfl ?_
      try simp only [Tk.put]
      refine Tk.y 10 (v:=?_) rfl ?_ ?_
      rotate_left
      ·intro wS hSw
       obtain⟨hq1,hq2⟩:=hSw
       have hn9:=hq2.at 3 _ rfl;clear hq1 hq2
       first | (go_simp;done) | (go_simp;with_reducible rfl)
      try simp only [Tk.put]
      refine Tk.x 11 rfl ?_
      try simp only [Tk.put]
      refine Tk.x 12 rfl ?_
      try simp only [Tk.put]
      refine Tk.s 13 rfl (fun Kq hK=>?_)
      go_simp
      go_at_call 133
      refine (index_yes H W C y x 0 pos HS.out i1 i2 i3 i4 (Int.le_refl _) (by omega) HPOS.out _).mono ?_
      rintro e w1 ⟨rfl,hb1⟩
      have hbb:Below wr.heap.size wr w1:=(Below.refl _ _).drew.trans hb1
      clear hb1 hHeld
      replace HI:=hid (HSTAY.out _ _ _ HI.out hbb)
      replace T1:=hid (T1.out.below (B':=wr.heap.size) (by omega) hbb)
      replace T2:=hid (T2.out.below (B':=wr.heap.size) (by omega) hbb)
      replace T3:=hid (T3.out.below (B':=wr.heap.size) (by omega) hbb)
      replace HG:=hid (HG.out.trans (Kit.za2 hbb (some gd)))
      replace hz:=Nat.le_trans hz hbb.size
      clear hbb
      dsimp only
      refine hK.out _ _ ?_ (fun hHeld=>?_)
      ·exact⟨T1.out,T3.out⟩
      clear hK Kq
      try simp only [Tk.put]
      refine Tk.x 14 rfl ?_
      try simp only [Tk.put]
      refine Tk.x 15 rfl ?_
      try simp only [Tk.put]
      refine Tk.x 16 rfl ?_
      try simp only [Tk.put]
      refine Tk.x 17 rfl ?_
      try simp only [Tk.put]
      refine Tk.x 18 rfl ?_
      try simp only [Tk.put]
      refine wpAnyH_done (by kernel_rfl) ?_ _
      clear hHeld d1 d2 d3 d4 f1 f2
      obtain⟨c1,c2,c3⟩:=T1.out
      go_wp2_with (go_at_call 155;(refine (HV.out _ HI.out).mono ?_);rintro e w2 ⟨⟨u,rfl⟩,hi2,hg2⟩)
      replace HI:=hid hi2
      replace T1:=hid (zc1 T1.out hg2 (by omega) (by omega))
      replace T2:=hid (zc1 T2.out hg2 (by omega) (by omega))
      replace T3:=hid (NodeAt_grown T3.out hg2 (by omega) (by omega))
      replace HG:=hid (HG.out.trans hg2)
      replace hz:=Nat.le_trans hz hg2.size
      clear hi2 hg2
      go_roundw
      case rel=>exact⟨q+1,by omega,by go_num,HI,T1,T2,T3,HG,hz⟩
      case measure=>simp [intOf];omega
     ·have HNI:Hid (inB H W C y x 0=false):=hid (by
       simp only [inB,Bool.and_eq_false_iff,decide_eq_false_iff_not]
       right;intro hc;exact hin ⟨hc.1,hc.2.1,hc.2.2.1,hc.2.2.2.1⟩)
      have HNX:=hid (HSKIP.out i q y x hlt hltq HYE.out HXE.out hin)
      clear hin
      go_wp2_with fail
      refine wp_region_held_drew (S:=fun w'=>zau w.heap.size H W C w'∧zai (w.heap.size+2) x0 x1 x2 x8 x11 x12 x13 x14 x15 x16 x17 x18 (kk:Int) S P O Z WA BA nW cW nB cB w') (by kernel_rfl) ⟨T1.out,T3.out⟩ (fun hHeld=>?_)
      refine Tk.y 0 (v:=?_) rfl ?_ ?_
      rotate_left
      ·intro wS hSw
       obtain⟨hq1,hq2⟩:=hSw
       obtain⟨z1,z2,z3⟩:=hq1;clear hq2
       first | (go_simp;done) | (go_simp;with_reducible rfl)
      try simp only [Tk.put]
      refine Tk.x 1 rfl ?_
      try simp only [Tk.put]
      refine Tk.x 2 rfl ?_
      try simp only [Tk.put]
      refine Tk.x 3 rfl ?_
      try simp only [Tk.put]
      refine Tk.y 4 (v:=?_) rfl ?_ ?_
      rotate_left
      ·intro wS hSw
       obtain⟨hq1,hq2⟩:=hSw
       have hn9:=hq2.at 3 _ rfl;clear hq1 hq2
       first | (go_simp;done) | (go_simp;with_reducible rfl)
      try simp only [Tk.put]
      refine Tk.x 5 rfl ?_
      try simp only [Tk.put]
      refine Tk.x 6 rfl ?_
      try simp only [Tk.put]
      refine Tk.x 7 rfl ?_
      try simp only [Tk.put]
      refine Tk.x 8 rfl ?_
      try simp only [Tk.put]
      refine Tk.x 9 rfl ?_
      try simp only [Tk.put]
      refine Tk.y 10 (v:=?_) rfl ?_ ?_
      rotate_left
      ·intro wS hSw
       obtain⟨hq1,hq2⟩:=hSw
       have hn9:=hq2.at 3 _ rfl;clear hq1 hq2
       first | (go_simp;done) | (go_simp;with_reducible rfl)
      try simp only [Tk.put]
      refine Tk.x 11 rfl ?_
      try simp only [Tk.put]
      refine Tk.x 12 rfl ?_
      try simp only [Tk.put]
      refine Tk.s 13 rfl (fun Kq hK=>?_)
      go_simp
      go_at_call 133
      refine (index_no H W C y x 0 HNI.out _).mono ?_
      rintro e w1 ⟨rfl,hb1⟩
      have hbb:Below wr.heap.size wr w1:=(Below.refl _ _).drew.trans hb1
      clear hb1 hHeld
      replace HI:=hid (HSTAY.out _ _ _ HI.out hbb)
      replace T1:=hid (T1.out.below (B':=wr.heap.size) (by omega) hbb)
      replace T2:=hid (T2.out.below (B':=wr.heap.size) (by omega) hbb)
      replace T3:=hid (T3.out.below (B':=wr.heap.size) (by omega) hbb)
      replace HG:=hid (HG.out.trans (Kit.za2 hbb (some gd)))
      replace hz:=Nat.le_trans hz hbb.size
      clear hbb
      dsimp only
      refine hK.out _ _ ?_ (fun hHeld=>?_)
      ·exact⟨T1.out,T3.out⟩
      clear hK Kq
      try simp only [Tk.put]
      refine Tk.x 14 rfl ?_
      try simp only [Tk.put]
      refine Tk.x 15 rfl ?_
      try simp only [Tk.put]
      refine Tk.x 16 rfl ?_
      try simp only [Tk.put]
      refine Tk.x 17 rfl ?_
      try simp only [Tk.put]
      refine Tk.x 18 rfl ?_
      try simp only [Tk.put]
      refine wpAnyH_done (by kernel_rfl) ?_ _
      clear hHeld d1 d2 d3 d4 f1 f2
      go_wp2_with fail
      go_roundw
      case rel=>exact⟨q+1,by omega,by go_num,hid (HNX.out _ HI.out),T1,T2,T3,HG,hz⟩
      case measure=>simp [intOf];omega
    ·obtain rfl:q=k2:=by omega
     go_wp2_with fail
     go_roundw
     case rel=>exact⟨i+1,by omega,by go_num,by rw [Nat.add_mul,Nat.one_mul];exact HI,T1,T2,T3,HG,hz⟩
     case measure=>simp [intOf];omega
  ·obtain rfl:i=N1:=by omega
   go_wp2_with fail
   go_end0
   exact⟨⟨_,rfl⟩,HI.out,HG.out⟩
end CPatch
end
end Go.Proofs.YtahekhpeomcfjaaGreatDoor
