/- -/
import Derived.Test.YtahekhpeomcfjaaGreatDoorGJ19
open Go.Lib (hid)
open Nat (le_refl lt_of_succ_lt lt_succ_self)
set_option linter.unusedVariables false
set_option linter.unusedSimpArgs false
set_option maxRecDepth 100000
set_option maxHeartbeats 16000000
namespace Go.Proofs.YtahekhpeomcfjaaGreatDoor
namespace CConv
end CConv
namespace CFix
end CFix
namespace CSat
end CSat
namespace CShape
end CShape
namespace CTensor
end CTensor
namespace CWheel
end CWheel
open Go Go.ChangeShapes Go.WideShapes Go.ChangeAt Go.RowKit Go.Deep
section
namespace CLane
open Go Go.ChangeShapes Go.WideShapes Go.ChangeAt Go.RowKit
open Plain CSat CShape CTensor CConv FloatNum CFour CWheel
def ReachM (g0:Nat) (H W C:Int) (A:Option Addr) (n c:Nat) (x0 x1 x2 x8 x11 x12 x13 x14 x15 x16 x17 x18:Value) (K S P O Z:Int) (WA BA:Option Addr) (nW cW nB cB:Nat) (zs:List Int) (ok:Nat→Prop) (M:Nat) (v1 v2:Value) (rows:List (List Int)) (ps:List Int) (w wr:World):Prop :=
 BoxAt g0 H W C A n c wr∧zai (g0+1) x0 x1 x2 x8 x11 x12 x13 x14 x15 x16 x17 x18 K S P O Z WA BA nW cW nB cB wr∧Two (g0+2) (.slice none 0 0) (.slice none 0 0) wr∧Two (g0+3) v1 v2 wr∧Kit.Rd wr g0 A (I8s zs)∧zar (g0+4) ok M v1 v2 rows ps wr∧Below g0 w wr
theorem zar.sizes {B0:Nat} {ok:Nat→Prop} {M:Nat} {v1 v2:Value} {rows:List (List Int)} {ps:List Int} {w:World} (h:zar B0 ok M v1 v2 rows ps w):∃ A1 c1 A2 c2,v1=.slice A1 rows.length c1∧v2=.slice A2 ps.length c2:=by
 obtain⟨vs,h⟩:=h
 obtain⟨A1,c1,e1, -, -, -⟩:=Kit.zam h.2.1
 obtain⟨A2,c2,e2, -, -, -⟩:=Kit.zam h.2.2.1
 exact⟨A1,c1,A2,c2,e1,e2⟩
theorem one_la {B0:Nat} {ok:Nat→Prop} {M:Nat} {v1 v2:Value} {rows:List (List Int)} {ps:List Int} {w:World} (h:zar B0 ok M v1 v2 rows ps w):(#[v1,v2].all (·.oneCell'))=true:=by
 obtain⟨A1,c1,A2,c2,rfl,rfl⟩:=h.sizes
 exact one_sl _ _ _ _ _ _
theorem ReachM.next {g0:Nat} {H W C:Int} {A:Option Addr} {n c:Nat} {x0 x1 x2 x8 x11 x12 x13 x14 x15 x16 x17 x18:Value} {K S P O Z:Int} {WA BA:Option Addr} {nW cW nB cB:Nat} {zs:List Int} {ok:Nat→Prop} {M:Nat} {v1 v2 u1 u2:Value} {rows rows':List (List Int)} {ps ps':List Int} {w wr w1:World}
  (h:ReachM g0 H W C A n c x0 x1 x2 x8 x11 x12 x13 x14 x15 x16 x17 x18 K S P O Z WA BA nW cW nB cB zs ok M v1 v2 rows ps w wr) (hlt:g0+3 < g0+4) (hok:¬ ok (g0+3)) (hla:zar (g0+4) ok M u1 u2 rows' ps' w1) (hb:Below (g0+4) wr w1):ReachM g0 H W C A n c x0 x1 x2 x8 x11 x12 x13 x14 x15 x16 x17 x18 K S P O Z WA BA nW cW nB cB zs ok M u1 u2 rows' ps' w (CFour.set2 (g0+3) u1 u2 w1):=by
 obtain⟨a,b,d,e,f,g,i⟩:=h
 obtain⟨vs,hl⟩:=hla
 have k1:∀ (p q:Nat),p < g0+3→(CFour.set2 (g0+3) u1 u2 w1).cell? ⟨p,q,none⟩=w1.cell? ⟨p,q,none⟩:=fun p q hp=>by
  show ((w1.setCell ⟨g0+3,0,none⟩ u1).setCell ⟨g0+3,1,none⟩ u2).cell? ⟨p,q,none⟩=_
  rw [World.cell?_setCell_other _ _ _ _ (fun e=>by have:=congrArg Addr.block e;simp at this;omega),World.cell?_setCell_other _ _ _ _ (fun e=>by have:=congrArg Addr.block e;simp at this;omega)]
 have a1:=a.below (B':=g0+4) (by omega) hb
 have b1:=b.below (B':=g0+4) (by omega) hb
 have d1:=d.below hb (by omega)
 have hs:Below (g0+3) w1 (CFour.set2 (g0+3) u1 u2 w1):=zcc (Below.refl _ _) (le_refl _) u1 u2
 refine⟨a1.below (B':=g0+3) (by omega) hs,b1.below (B':=g0+3) (by omega) hs,d1.below hs (by omega),(e.below hb hlt).set2 u1 u2,f.below ((hb.mono (by omega)).trans (hs.mono (by omega))),⟨vs,(hl.set (p:=⟨g0+3,0,none⟩) hok u1).set (p:=⟨g0+3,1,none⟩) hok u2⟩,(i.trans (hb.mono (by omega))).trans (hs.mono (by omega))⟩
theorem rowsTo_no {zs:List Int} {Z H W C top:Int} {d pp Wn M i:Nat} (h:¬ (0≤top+(i:Int)∧top+(i:Int) < H)):za4 zs Z H W C top d pp Wn M (i+1)=za4 zs Z H W C top d pp Wn M i:=by
 show za4 zs Z H W C top d pp Wn M i ++ (if _ then _ else _)=_
 rw [if_neg h,List.append_nil]
theorem psTo_no {H top:Int} {d i:Nat} (h:¬ (0≤top+(i:Int)∧top+(i:Int) < H)):psTo H top d (i+1)=psTo H top d i:=by
 show psTo H top d i ++ (if _ then _ else _)=_
 rw [if_neg h,List.append_nil]
theorem zar.sets {B0:Nat} {ok:Nat→Prop} {M:Nat} {v1 v2:Value} {rows:List (List Int)} {ps:List Int} {w:World} (h:zar B0 ok M v1 v2 rows ps w) {g:Nat} (hg:¬ ok g) (a b:Value):zar B0 ok M v1 v2 rows ps (CFour.set2 g a b w):=by
 obtain⟨vs,h⟩:=h
 exact⟨vs,(h.set (p:=⟨g,0,none⟩) hg a).set (p:=⟨g,1,none⟩) hg b⟩
theorem zar.under {B0:Nat} {ok:Nat→Prop} {M:Nat} {v1 v2:Value} {rows:List (List Int)} {ps:List Int} {w w':World} (h:zar B0 ok M v1 v2 rows ps w) (hb:Below w.heap.size w w'):zar B0 ok M v1 v2 rows ps w':=by
 obtain⟨vs,h⟩:=h
 exact⟨vs,h.below hb⟩
theorem inB_row {H W C y:Int} (h:¬ (0≤y∧y < H)):inB H W C y 0 0=false:=by
 unfold inB
 rw [Bool.and_eq_false_iff]
 exact .inr (decide_eq_false (fun h9=>h ⟨h9.1,h9.2.1⟩))
theorem rowsTo_le (zs:List Int) (Z H W C top:Int) (d pp Wn M:Nat) (hd:d≤1024):∀ k,(za4 zs Z H W C top d pp Wn M k).length≤k * 1024
 | 0=>by simp [za4]
 | k+1=>by
   rw [len_if]
   have:=rowsTo_le zs Z H W C top d pp Wn M hd k
   have h2:(if 0≤top+(k:Int)∧top+(k:Int) < H then d else 0)≤1024:=by split <;> omega
   have h3:(k+1) * 1024=k * 1024+1024:=Nat.succ_mul k 1024
   rw [h3]
   exact Nat.add_le_add this h2
theorem reached_to (H W C:Int) (A:Option Addr) (zs:List Int) (n c:Nat) (hn:zs.length=n) (hz:I8b zs) (ht:tensB H W C n=true) (x0 x1 x2 x8 x11 x12 x13 x14 x15 x16 x17 x18:Value) (K S P O Z:Int) (WA BA:Option Addr) (nW cW nB cB:Nat) (z1 : -128≤Z) (z2:Z≤127) (top:Int) (t1 : -1000≤top) (t2:top≤1000)
  (d pp Wn M:Nat) (hd:C=(d:Int)) (hP:P=(pp:Int)) (hW:W=(Wn:Int)) (hM:M=Wn+2 * pp) (p2:pp≤4) (w:World)
  (hr:Kit.Rd w w.heap.size A (I8s zs)) :
  Calls Tryz.prog 138 #[.agg #[.int .i64 H,.int .i64 W,.int .i64 C,.slice A n c],.agg #[x0,x1,x2,.int .i64 K,.int .i64 S,.int .i64 P,.int .i64 O,.int .i8 Z,x8,.slice WA nW cW,.slice BA nB cB,x11,x12,x13,x14,x15,x16,x17,x18],.int .i64 top] w fun e w'=>∃ v1 v2,e=.returned (.agg #[v1,v2])∧zar (w.heap.size+4) (fun g=>(w.heap.size+4)≤g) M v1 v2 (za4 zs Z H W C top d pp Wn M 3) (psTo H top d 3) w'∧Below w.heap.size w w':=by
 have hs:zad H W C=true:=by simp only [tensB,Bool.and_eq_true] at ht;exact ht.1
 obtain⟨g1,g2,g3,g4,g5,g6,g7⟩:=zab hs
 have hd1:1≤d∧d≤1024:=by omega
 have HR:=hid hr
 have HT:=hid ht
 have HZ:=hid hz
 have HN:=hid hn
 have HD:=hid hd
 have HP:=hid hP
 have HW:=hid hW
 have HM:=hid hM
 clear hs hr hz hn hd hP hW hM ht g7
 go_enter Tryz.func138,Tryz.ntmps138
 go_upto_region 2 with fail
 have hm0:ReachM w.heap.size H W C A n c x0 x1 x2 x8 x11 x12 x13 x14 x15 x16 x17 x18 K S P O Z WA BA nW cW nB cB zs (fun g=>(w.heap.size+4)≤g) M (.slice none 0 0) (.slice none 0 0) (za4 zs Z H W C top d pp Wn M 0) (psTo H top d 0) w ((((w.alloc (.cells #[.int .i64 H,.int .i64 W,.int .i64 C,.slice A n c] 27)).alloc (.cells #[x0,x1,x2,.int .i64 K,.int .i64 S,.int .i64 P,.int .i64 O,.int .i8 Z,x8,.slice WA nW cW,.slice BA nB cB,x11,x12,x13,x14,x15,x16,x17,x18] 44)).alloc (.cells #[.slice none 0 0,.slice none 0 0] 178)).alloc (.cells #[.slice none 0 0,.slice none 0 0] 178)):=by
  have hT:BoxAt w.heap.size H W C A n c ((((w.alloc (.cells #[.int .i64 H,.int .i64 W,.int .i64 C,.slice A n c] 27)).alloc (.cells #[x0,x1,x2,.int .i64 K,.int .i64 S,.int .i64 P,.int .i64 O,.int .i8 Z,x8,.slice WA nW cW,.slice BA nB cB,x11,x12,x13,x14,x15,x16,x17,x18] 44)).alloc (.cells #[.slice none 0 0,.slice none 0 0] 178)).alloc (.cells #[.slice none 0 0,.slice none 0 0] 178)):=⟨by go_cell,by go_cell,by go_cell,by go_cell⟩
  have hR:Two (w.heap.size+2) (.slice none 0 0) (.slice none 0 0) ((((w.alloc (.cells #[.int .i64 H,.int .i64 W,.int .i64 C,.slice A n c] 27)).alloc (.cells #[x0,x1,x2,.int .i64 K,.int .i64 S,.int .i64 P,.int .i64 O,.int .i8 Z,x8,.slice WA nW cW,.slice BA nB cB,x11,x12,x13,x14,x15,x16,x17,x18] 44)).alloc (.cells #[.slice none 0 0,.slice none 0 0] 178)).alloc (.cells #[.slice none 0 0,.slice none 0 0] 178)):=⟨by go_cell,by go_cell,fun i hi=>by rcases i with _ | _ | i <;> first | (exact absurd hi (by omega)) | go_cell,by first | (simp;done) | (simp;omega)⟩
  have hL:Two (w.heap.size+3) (.slice none 0 0) (.slice none 0 0) ((((w.alloc (.cells #[.int .i64 H,.int .i64 W,.int .i64 C,.slice A n c] 27)).alloc (.cells #[x0,x1,x2,.int .i64 K,.int .i64 S,.int .i64 P,.int .i64 O,.int .i8 Z,x8,.slice WA nW cW,.slice BA nB cB,x11,x12,x13,x14,x15,x16,x17,x18] 44)).alloc (.cells #[.slice none 0 0,.slice none 0 0] 178)).alloc (.cells #[.slice none 0 0,.slice none 0 0] 178)):=⟨by go_cell,by go_cell,fun i hi=>by rcases i with _ | _ | i <;> first | (exact absurd hi (by omega)) | go_cell,by first | (simp;done) | (simp;omega)⟩
  have hN:zai (w.heap.size+1) x0 x1 x2 x8 x11 x12 x13 x14 x15 x16 x17 x18 K S P O Z WA BA nW cW nB cB ((((w.alloc (.cells #[.int .i64 H,.int .i64 W,.int .i64 C,.slice A n c] 27)).alloc (.cells #[x0,x1,x2,.int .i64 K,.int .i64 S,.int .i64 P,.int .i64 O,.int .i8 Z,x8,.slice WA nW cW,.slice BA nB cB,x11,x12,x13,x14,x15,x16,x17,x18] 44)).alloc (.cells #[.slice none 0 0,.slice none 0 0] 178)).alloc (.cells #[.slice none 0 0,.slice none 0 0] 178)):=by
   have h9:=(zai.new x0 x1 x2 x8 x11 x12 x13 x14 x15 x16 x17 x18 K S P O Z WA BA nW cW nB cB 44 (w.alloc (.cells #[.int .i64 H,.int .i64 W,.int .i64 C,.slice A n c] 27))).below (B':=w.heap.size+2) (by simp) (((Below.refl _ _).alloc (by simp) (.cells #[.slice none 0 0,.slice none 0 0] 178)).alloc (by simp) (.cells #[.slice none 0 0,.slice none 0 0] 178))
   simpa using h9
  have hB:Below w.heap.size w ((((w.alloc (.cells #[.int .i64 H,.int .i64 W,.int .i64 C,.slice A n c] 27)).alloc (.cells #[x0,x1,x2,.int .i64 K,.int .i64 S,.int .i64 P,.int .i64 O,.int .i8 Z,x8,.slice WA nW cW,.slice BA nB cB,x11,x12,x13,x14,x15,x16,x17,x18] 44)).alloc (.cells #[.slice none 0 0,.slice none 0 0] 178)).alloc (.cells #[.slice none 0 0,.slice none 0 0] 178)):=((((Below.refl _ _).alloc (le_refl _) _).alloc (by simp) _).alloc (by simp;omega) _).alloc (by simp;omega) _
  exact⟨hT,hN,hR,hL,HR.out.below hB,⟨[],zbi.start _ _ _ _⟩,hB⟩
 have HM0:=hid hm0
 clear hm0
 generalize hW0:((((w.alloc (.cells #[.int .i64 H,.int .i64 W,.int .i64 C,.slice A n c] 27)).alloc (.cells #[x0,x1,x2,.int .i64 K,.int .i64 S,.int .i64 P,.int .i64 O,.int .i8 Z,x8,.slice WA nW cW,.slice BA nB cB,x11,x12,x13,x14,x15,x16,x17,x18] 44)).alloc (.cells #[.slice none 0 0,.slice none 0 0] 178)).alloc (.cells #[.slice none 0 0,.slice none 0 0] 178))=w0 at HM0 ⊢
 clear hW0
 go_upto_region 3 with fail
 go_loopw [9] (fun u wr=>∃ (i:Nat) (v1 v2:Value),i≤3∧u=.int .i64 i∧Hid (ReachM w.heap.size H W C A n c x0 x1 x2 x8 x11 x12 x13 x14 x15 x16 x17 x18 K S P O Z WA BA nW cW nB cB zs (fun g=>(w.heap.size+4)≤g) M v1 v2 (za4 zs Z H W C top d pp Wn M i) (psTo H top d i) w wr)) (fun u _=>3 - (intOf u).toNat)
 case atStart=>exact⟨0,_,_,by omega,rfl,HM0⟩
 case round =>
  clear HM0
  obtain⟨i,v1,v2,hi,rfl,HMM⟩:=hrel
  obtain⟨A1,c1,A2,c2,rfl,rfl⟩:=HMM.out.2.2.2.2.2.1.sizes
  obtain⟨t0,t1',t2',t3⟩:=HMM.out.1
  obtain⟨l0,l1, -,hsz⟩:=HMM.out.2.2.2.1
  have hsz:w.heap.size+4≤wr.heap.size:=hsz
  have hl1:(za4 zs Z H W C top d pp Wn M i).length≤100000:=Nat.le_trans (rowsTo_le zs Z H W C top d pp Wn M hd1.2 i) (by omega)
  have hl2:(psTo H top d i).length≤100000:=by rw [← len_to zs Z H W C top d pp Wn M i];exact hl1
  by_cases hlt:i < 3
  ·have hii:(i:Int) < 3:=by omega
   obtain⟨y,hy⟩:∃ y,top+(i:Int)=y:=⟨_,rfl⟩
   have e1:IntKind.i64.wrap (top+(i:Int))=y:=by rw [hy];exact IntWalk.i64_in _ (by omega)
   have e2:IntKind.i64.wrap ((i:Int) * 3)=((i * 3:Nat):Int):=by rw [IntWalk.i64_in _ (by omega)];omega
   have hpd:i * 3 * d≤9216:=Nat.le_trans (Nat.mul_le_mul (show i * 3≤9 by omega) hd1.2) (by omega)
   have e3:IntKind.i64.wrap (((i * 3:Nat):Int) * C)=((i * 3 * d:Nat):Int):=by rw [HD.out, ← Int.natCast_mul];exact IntWalk.i64_in _ (by omega)
   have hp5:i * 3 * d≤100000:=by omega
   have HY:=hid hy
   clear hy hpd
   obtain⟨pl,hpl⟩:∃ pl,i * 3 * d=pl:=⟨_,rfl⟩
   rw [hpl] at e3 hp5
   generalize hi3:i * 3=i3 at e2 e3
   clear hi3
   have HPL:=hid hpl
   clear hpl
   by_cases hin:0≤y∧y < H
   ·obtain⟨st,hst⟩:∃ st:Nat,y * W * C=(st:Int):=⟨(y * W * C).toNat,by rw [Int.toNat_of_nonneg (Int.mul_nonneg (Int.mul_nonneg hin.1 (by omega)) (by omega))]⟩
    have HST:=hid hst
    clear hst
    go_upto_region 6 with (first
     | (refine wpList_load_mid rfl 178 (.tmp 7) rfl (w.heap.size+3) 0 rfl [(.slice A1 (za4 zs Z H W C top d pp Wn M i).length c1),(.slice A2 (psTo H top d i).length c2)] _ (Kit.zcm l0 l1) Tryz.underlying178 rfl (by kernel_rfl) ?_)
     | (refine wpList_load_mid rfl 44 (.tmp 4) rfl (w.heap.size+1) 0 rfl [x0,x1,x2,.int .i64 K,.int .i64 S,.int .i64 P,.int .i64 O,.int .i8 Z,x8,.slice WA nW cW,.slice BA nB cB,x11,x12,x13,x14,x15,x16,x17,x18] _ HMM.out.2.1 Tryz.underlying44 rfl (by kernel_rfl) ?_)
     | (go_at_call 149;refine (with_in (w.heap.size+4) _ _ _ _ H W C A zs n c HN.out HZ.out HT.out x0 x1 x2 x8 x11 x12 x13 x14 x15 x16 x17 x18 K S P O Z WA BA nW cW nB cB z1 z2 y hin.1 hin.2 d pp Wn M st pl HD.out HP.out HW.out HM.out HST.out p2 hp5 hl1 hl2 _ hsz (HMM.out.2.2.2.2.1.more (by omega)) HMM.out.2.2.2.2.2.1).mono ?_;rintro e w1 ⟨u1,u2,rfl,hla1,hb1⟩;clear t0 t1' t2' t3 l0 l1)
     | (refine wpList_store_mid rfl 178 (.tmp 7) (.tmp 24) rfl (w.heap.size+3) 0 #[u1,u2] rfl rfl (HMM.out.2.2.2.1.below hb1 (lt_succ_self _)).there (by kernel_rfl) (one_la hla1) ?_;change wpList _ _ _ _ _ (CFour.set2 (w.heap.size+3) u1 u2 w1);have HM1:=hid (HMM.out.next (lt_succ_self _) (fun h=>absurd h (Nat.not_succ_le_self _)) hla1 hb1);generalize CFour.set2 (w.heap.size+3) u1 u2 w1=w2 at HM1 ⊢))
    go_wp2_with fail
    go_roundw
    case rel =>
     refine⟨i+1,u1,u2,by omega,by go_num,hid ?_⟩
     have h9:=HM1.out
     unfold za4 psTo
     rw [HY.out,if_pos hin,if_pos hin,HST.out,HPL.out]
     exact h9
    case measure=>simp [intOf];omega
   ·have hin2:=inB_row (W:=W) (C:=C) hin
    go_upto_region 6 with (first
     | (refine wpList_load_mid rfl 178 (.tmp 7) rfl (w.heap.size+3) 0 rfl [(.slice A1 (za4 zs Z H W C top d pp Wn M i).length c1),(.slice A2 (psTo H top d i).length c2)] _ (Kit.zcm l0 l1) Tryz.underlying178 rfl (by kernel_rfl) ?_)
     | (refine wpList_load_mid rfl 44 (.tmp 4) rfl (w.heap.size+1) 0 rfl [x0,x1,x2,.int .i64 K,.int .i64 S,.int .i64 P,.int .i64 O,.int .i8 Z,x8,.slice WA nW cW,.slice BA nB cB,x11,x12,x13,x14,x15,x16,x17,x18] _ HMM.out.2.1 Tryz.underlying44 rfl (by kernel_rfl) ?_)
     | (go_at_call 149;refine (with_out A1 A2 _ c1 _ c2 H W C A n c x0 x1 x2 x8 x11 x12 x13 x14 x15 x16 x17 x18 K S P O Z WA BA nW cW nB cB y (pl:Int) hin2 _).mono ?_;rintro e w1 ⟨rfl,hb1'⟩;have hb1:=hb1'.mono hsz;have hla1:=HMM.out.2.2.2.2.2.1;replace hla1:=zar.under hla1 hb1';clear t0 t1' t2' t3 l0 l1)
     | (refine wpList_store_mid rfl 178 (.tmp 7) (.tmp 24) rfl (w.heap.size+3) 0 #[(.slice A1 (za4 zs Z H W C top d pp Wn M i).length c1),(.slice A2 (psTo H top d i).length c2)] rfl rfl (HMM.out.2.2.2.1.below hb1 (lt_succ_self _)).there (by kernel_rfl) (one_la hla1) ?_;change wpList _ _ _ _ _ (CFour.set2 (w.heap.size+3) (.slice A1 (za4 zs Z H W C top d pp Wn M i).length c1) (.slice A2 (psTo H top d i).length c2) w1);have HM1:=hid (HMM.out.next (lt_succ_self _) (fun h=>absurd h (Nat.not_succ_le_self _)) hla1 hb1);generalize CFour.set2 (w.heap.size+3) (.slice A1 (za4 zs Z H W C top d pp Wn M i).length c1) (.slice A2 (psTo H top d i).length c2) w1=w2 at HM1 ⊢))
    go_wp2_with fail
    go_roundw
    case rel =>
     refine⟨i+1,(.slice A1 (za4 zs Z H W C top d pp Wn M i).length c1),(.slice A2 (psTo H top d i).length c2),by omega,by go_num,hid ?_⟩
     have h9:=HM1.out
     rw [rowsTo_no (by rw [HY.out];exact hin),psTo_no (by rw [HY.out];exact hin)]
     exact h9
    case measure=>simp [intOf];omega
  ·obtain rfl:i=3:=by omega
   have hii:¬ (((3:Nat):Int) < 3):=by omega
   clear t0 t1' t2' t3
   go_wp2_with (first
    | (refine wpList_load_mid rfl 178 (.tmp 7) rfl (w.heap.size+3) 0 rfl [(.slice A1 (za4 zs Z H W C top d pp Wn M 3).length c1),(.slice A2 (psTo H top d 3).length c2)] _ (Kit.zcm l0 l1) Tryz.underlying178 rfl (by kernel_rfl) ?_)
    | (refine wpList_store_mid rfl 178 (.tmp 6) (.tmp 26) rfl (w.heap.size+2) 0 #[(.slice A1 (za4 zs Z H W C top d pp Wn M 3).length c1),(.slice A2 (psTo H top d 3).length c2)] rfl rfl HMM.out.2.2.1.there (by kernel_rfl) (one_la HMM.out.2.2.2.2.2.1) ?_;change wpList _ _ _ _ _ (CFour.set2 (w.heap.size+2) (.slice A1 (za4 zs Z H W C top d pp Wn M 3).length c1) (.slice A2 (psTo H top d 3).length c2) wr);have hR2:=HMM.out.2.2.1.set2 (.slice A1 (za4 zs Z H W C top d pp Wn M 3).length c1) (.slice A2 (psTo H top d 3).length c2);have hLA:=HMM.out.2.2.2.2.2.1.sets (g:=w.heap.size+2) (fun h=>absurd h (Nat.not_le_of_lt (by omega))) (.slice A1 (za4 zs Z H W C top d pp Wn M 3).length c1) (.slice A2 (psTo H top d 3).length c2);have hB2:=zcc HMM.out.2.2.2.2.2.2 (g:=w.heap.size+2) (by omega) (.slice A1 (za4 zs Z H W C top d pp Wn M 3).length c1) (.slice A2 (psTo H top d 3).length c2);generalize CFour.set2 (w.heap.size+2) (.slice A1 (za4 zs Z H W C top d pp Wn M 3).length c1) (.slice A2 (psTo H top d 3).length c2) wr=w9 at hR2 hLA hB2 ⊢))
   refine bodyPost_ret (Kit.za6 rfl _ _ (w.heap.size+2) 0 [(.slice A1 (za4 zs Z H W C top d pp Wn M 3).length c1),(.slice A2 (psTo H top d 3).length c2)] _ rfl (Kit.zcm hR2.1 hR2.2.1) Tryz.underlying178 rfl (by kernel_rfl)) rfl ?_
   exact⟨_,_,rfl,hLA,hB2⟩
end CLane
end
section
namespace CAct
open Plain CSat CFix CShape CTensor CConv
def MadeT (w:World) (H W C:Int) (n:Nat) (zs:List Int) (x:Value) (e:Ending) (w':World):Prop :=
 ∃ v,e=.returned (.tuple #[.agg #[.int .i64 H,.int .i64 W,.int .i64 C,v],x])∧w'.ownsRow w.heap.size 39 1 v n (I8s zs)∧Below w.heap.size w w'
def MadeE (w:World) (H W C:Int) (n:Nat) (zs:List Int) (e:Ending) (w':World):Prop :=
 ∃ v,e=.returned (.agg #[.int .i64 H,.int .i64 W,.int .i64 C,v])∧w'.ownsRow w.heap.size 39 1 v n (I8s zs)∧Below w.heap.size w w'
theorem rowL_same {F G:Nat→Int} {n:Nat} (h:∀ i,i < n→F i=G i):rowL F n=rowL G n:=by
 unfold rowL
 exact List.map_congr_left fun i hi=>h i (by simpa using hi)
theorem i8_at (F:Nat→Int) {d r:Nat} (h:r < d):(I8s (rowL F d))[r]?=some (.int .i8 (F r)):=by simp [I8s,rowL,h]
def madeA (F:Nat→Int) (o i:Nat):Int:=if i < o then F i else 0
theorem madeA_zero (F:Nat→Int) (N:Nat):I8s (rowL (madeA F 0) N)=List.replicate N (.int .i8 0):=by
 refine List.ext_getElem (by simp [I8s,rowL]) fun i h1 h2=>?_
 simp [I8s,rowL,madeA]
theorem madeA_all (F:Nat→Int) (N:Nat):rowL (madeA F N) N=rowL F N:=rowL_same (fun i hi=>by unfold madeA;rw [if_pos hi])
theorem madeA_set (F:Nat→Int) {N o:Nat} (v:Int) (hv:F o=v):(I8s (rowL (madeA F o) N)).set o (.int .i8 v)=I8s (rowL (madeA F (o+1)) N):=by
 refine List.ext_getElem (by simp [I8s,rowL]) fun i h1 h2=>?_
 rw [List.getElem_set]
 by_cases e:o=i
 ·subst e
  rw [if_pos rfl]
  simp [I8s,rowL,madeA,hv]
 ·rw [if_neg e]
  simp only [I8s,rowL,List.map_map,List.getElem_map,List.getElem_range,Function.comp,madeA]
  by_cases h:i < o
  ·rw [if_pos h,if_pos (by omega)]
  ·rw [if_neg h,if_neg (by omega)]
theorem info_i8a:(Tryz.prog.info? 39).map (fun i=>(i.zero,i.size,i.bytes))=some (some (.int .i8 0),1,1):=by kernel_rfl
theorem ofc_to (x:Int) (hx1 : -128≤x) (hx2:x≤127) (x0 x1 x2:Value) (K S P O Z Y:Int) (WA BA:Option Addr) (nW cW nB cB:Nat) (m1 s1 z1 m2 s2 z2 lo hi:Int) (hnb:NBd Z Y m1 z1 m2 z2 lo hi) (R:Int) (hR:heldZ (x - Z) m1 s1 z1 lo hi=R) (bn:Nat) (w:World) (hN:zai bn x0 x1 x2 (.int .i8 Y) (.int .i32 m1) (.int .i64 s1) (.int .i8 z1) (.int .i32 m2) (.int .i64 s2) (.int .i8 z2) (.int .i8 lo) (.int .i8 hi) K S P O Z WA BA nW cW nB cB w) :
  Calls Tryz.prog 89 #[.int .i8 x,.pointer (some ⟨bn,0,none⟩)] w fun e w'=>e=.returned (.int .i8 R)∧Below w.heap.size w w':=by
 have HR:=hid hR
 have TN:=hid hN
 have HNB:=hid hnb
 clear hR hN hnb
 go_enter Tryz.func89,Tryz.ntmps89
 go_wp2_with (first
  | (refine wpList_load_mid rfl 44 (.tmp 1) rfl bn 0 rfl [x0,x1,x2,.int .i64 K,.int .i64 S,.int .i64 P,.int .i64 O,.int .i8 Z,.int .i8 Y,.slice WA nW cW,.slice BA nB cB,.int .i32 m1,.int .i64 s1,.int .i8 z1,.int .i32 m2,.int .i64 s2,.int .i8 z2,.int .i8 lo,.int .i8 hi] _ TN.out Tryz.underlying44 rfl (by kernel_rfl) ?_)
  | (go_at_call 90;(refine (aone_to x hx1 hx2 x0 x1 x2 K S P O Z Y WA BA nW cW nB cB m1 s1 z1 m2 s2 z2 lo hi HNB.out R HR.out _).mono ?_);rintro e w1 ⟨rfl,hb⟩))
 go_ret
 exact⟨rfl,hb⟩
theorem each_of (H W C:Int) (A:Option Addr) (zs:List Int) (n c:Nat) (hn:zs.length=n) (hn2:n≤1000000) (hz:I8b zs) (g0:Nat) (x0 x1 x2:Value) (K S P O Z Y:Int) (WA BA:Option Addr) (nW cW nB cB:Nat) (m1 s1 z1 m2 s2 z2 lo hi:Int) (hnb:NBd Z Y m1 z1 m2 z2 lo hi) (F:Nat→Int) (hF:∀ k,F k=heldZ (zs.getD k 0 - Z) m1 s1 z1 lo hi) (w:World) (hN:zai g0 x0 x1 x2 (.int .i8 Y) (.int .i32 m1) (.int .i64 s1) (.int .i8 z1) (.int .i32 m2) (.int .i64 s2) (.int .i8 z2) (.int .i8 lo) (.int .i8 hi) K S P O Z WA BA nW cW nB cB w) (hg0:g0 < w.heap.size) (hr:Kit.Rd w w.heap.size A (I8s zs)) :
  Calls Tryz.prog 88 #[.agg #[.int .i64 H,.int .i64 W,.int .i64 C,.slice A n c],.func (.func 89) #[] #[.pointer (some ⟨g0,0,none⟩)]] w (MadeE w H W C n (rowL F n)):=by
 have HN:=hid hn
 have HZ:=hid hz
 have HF:=hid hF
 have HR:=hid hr
 have HNB:=hid hnb
 have HND:=hid hN
 have hal:Below w.heap.size w ((w.alloc (.cells #[.int .i64 H,.int .i64 W,.int .i64 C,.slice A n c] 27)).alloc (.cells #[.int .i64 0,.int .i64 0,.int .i64 0,.slice none 0 0] 27)):=((Below.refl _ _).alloc (le_refl _) _).alloc (by simp) _
 have tb0:BoxAt w.heap.size H W C A n c ((w.alloc (.cells #[.int .i64 H,.int .i64 W,.int .i64 C,.slice A n c] 27)).alloc (.cells #[.int .i64 0,.int .i64 0,.int .i64 0,.slice none 0 0] 27)):=(zbd H W C A n c 27 w).below (B':=w.heap.size+1) (by omega) ((Below.refl _ _).alloc (by simp) _)
 have fr0:zbm (w.heap.size+1) ((w.alloc (.cells #[.int .i64 H,.int .i64 W,.int .i64 C,.slice A n c] 27)).alloc (.cells #[.int .i64 0,.int .i64 0,.int .i64 0,.slice none 0 0] 27)):=by
  have h:=za5 27 (w.alloc (.cells #[.int .i64 H,.int .i64 W,.int .i64 C,.slice A n c] 27))
  rw [World.size_alloc] at h
  exact h
 have hs0:((w.alloc (.cells #[.int .i64 H,.int .i64 W,.int .i64 C,.slice A n c] 27)).alloc (.cells #[.int .i64 0,.int .i64 0,.int .i64 0,.slice none 0 0] 27)).heap.size=w.heap.size+2:=by simp
 have HAL:=hid hal
 have TB0:=hid tb0
 have FR0:=hid fr0
 have HS0:=hid hs0
 obtain⟨i0,hi0,hi1,hi2,hi3⟩:=zbz info_i8a
 have HI:=hid (And.intro hi0 (And.intro hi1 (And.intro hi2 hi3)))
 clear hn hz hF hr hal tb0 fr0 hs0 hi0 hi1 hi2 hi3 hnb hN
 go_enter Tryz.func88,Tryz.ntmps88
 go_wp2_with (at_make;refine wpList_make_full _ rfl (.tmp 10) (.tmp 10) _ rfl (w.heap.size+2) 39 i0 (.int .i8 0) 1 Tryz.underlying25 HI.out.1 HI.out.2.1 HI.out.2.2.1 .i64 .i64 _ _ n rfl rfl rfl rfl (by rw [HI.out.2.2.2];omega) (by unfold maxLen;omega) (by have:=HS0.out;omega) ?_;(intro w2 hown hg2);(have hb2:Below (w.heap.size+2) ((w.alloc (.cells #[.int .i64 H,.int .i64 W,.int .i64 C,.slice A n c] 27)).alloc (.cells #[.int .i64 0,.int .i64 0,.int .i64 0,.slice none 0 0] 27)) w2:=(Below.refl _ _).grown hg2 (by have:=HS0.out;omega) (fun q hq=>by cases hq));(rw [show (madeCells (Value.int IntKind.i8 0).cells (n * 1)).toList=List.replicate n (.int .i8 0) by rw [Nat.mul_one];exact toList_madeCells_one _ _] at hown);(rw [← madeA_zero F n] at hown);(simp only [World.size_alloc] at hown);(have HOWN:=hid hown);(have TB:=hid (TB0.out.below (by omega) hb2));(have FR:=hid (FR0.out.below (by omega) hb2));(have HB0:=hid (HAL.out.trans (hb2.mono (by omega))));(have hs2:w.heap.size+2≤w2.heap.size:=by have:=hb2.size;have:=HS0.out;omega);(obtain⟨t0,t1,t2,t3⟩:=TB.out);clear hown hg2 hb2 HAL TB0 FR0)
 clear t0 t1 t2 t3
 go_loopw [15] (fun u wr=>∃ k:Nat,k≤n∧u=.int .i64 k∧Hid (wr.ownsRow (w.heap.size+2) 39 1 (.slice (some ⟨w.heap.size+1+1,0,none⟩) n n) n (I8s (rowL (madeA F k) n)))∧Hid (Below (w.heap.size+2) w2 wr)) (fun u _=>n - (intOf u).toNat)
 case atStart=>exact⟨0,Nat.zero_le _,rfl,HOWN,hid (Below.refl _ _)⟩
 case round =>
  obtain⟨k,hk,rfl,HO,HB⟩:=hrel
  clear HOWN
  by_cases hlt:k < n
  ·have hk0:(0:Int)≤(k:Int):=by omega
   have hkn:(k:Int) < (n:Int):=by omega
   obtain⟨ba,oa,rfl,hba,hca⟩:=zav HR.out (j:=0) (by have:=HN.out;omega)
   have hbw:=HB0.out.trans (HB.out.mono (show w.heap.size≤w.heap.size+2 by omega))
   have hcx:=(hbw.cell (p:=⟨ba,oa+k,none⟩) hba).trans (hca k (by have:=HN.out;omega))
   obtain⟨xl,xu⟩:=HZ.out k
   have hf:=HF.out k
   generalize zs.getD k 0=x at hcx xl xu hf
   obtain⟨R,hR⟩:∃ R,F k=R:=⟨_,rfl⟩
   rw [hR] at hf
   have HFX:=hid hR
   have HRR:=hid hf.symm
   have HBW:=hid hbw
   have hsz:w.heap.size+1+1 < wr.heap.size:=Kit.zao HO.out
   clear hR hf hca hbw
   have TNW:=hid (HND.out.below hg0 HBW.out)
   go_wp2_with (go_at_call 89;(refine (ofc_to x xl xu x0 x1 x2 K S P O Z Y WA BA nW cW nB cB m1 s1 z1 m2 s2 z2 lo hi HNB.out R HRR.out g0 wr TNW.out).mono ?_);rintro e w3 ⟨rfl,hb⟩;(have ho3:=Kit.own_below HO.out hb);(have ks:w3.cell? ⟨w.heap.size+1+1,k,none⟩=some (.int .i8 (madeA F k k)):=(ho3.cellAt k (by omega)).trans (i8_at _ hlt));(have fs:w3.frozen? ⟨w.heap.size+1+1,k,none⟩=false:=ho3.frozenAt k);(have hst:=(ho3.stored k (.int .i8 R)).1);(rw [madeA_set F R HFX.out] at hst);(have HST:=hid hst);(have HB3:=hid (HB.out.trans (hb.mono (by omega))));clear hst hb ho3)
   go_roundw
   case rel=>exact⟨k+1,by omega,by go_num,hid HST.out,hid (HB3.out.setCell (p:=⟨w.heap.size+1+1,k,none⟩) (by show w.heap.size+2≤w.heap.size+1+1;omega) _)⟩
   case measure=>simp [intOf];omega
  ·obtain rfl:k=n:=by omega
   have hfin:=HO.out
   rw [madeA_all] at hfin
   have HFI:=hid hfin
   obtain⟨t0,t1,t2,t3⟩:=TB.out.below (by omega) HB.out
   obtain⟨⟨z0,z1',z2',z3⟩,z4,z5,z6,z7⟩:=FR.out.below (show w.heap.size+1 < w.heap.size+2 by omega) HB.out
   have HBW9:=hid (HB0.out.trans (HB.out.mono (by omega)))
   clear hfin HO HB
   go_wp2_with fail
   refine bodyPost_ret (Kit.za6 rfl _ _ (w.heap.size+1) 0 [.int .i64 H,.int .i64 W,.int .i64 C,.slice (some ⟨w.heap.size+1+1,0,none⟩) k k] _ rfl (zan (by go_cell) (by go_cell) (by go_cell) (by go_cell)) Tryz.underlying27 rfl (by kernel_rfl)) rfl ?_
   refine⟨_,rfl,Kit.zah (za3 HFI.out ?_) ?_,?_⟩
   any_goals (first | omega | (simp;done) | (simp;omega))
   exact (((HBW9.out.setCell (p:=⟨w.heap.size+1,0,none⟩) (by simp) _).setCell (p:=⟨w.heap.size+1,1,none⟩) (by simp) _).setCell (p:=⟨w.heap.size+1,2,none⟩) (by simp) _).setCell (p:=⟨w.heap.size+1,3,none⟩) (by simp) _
end CAct
end
section
namespace CTensor
open Go Go.ChangeShapes Go.WideShapes Go.ChangeAt Go.RowKit
open Plain CSat CShape
def zau (B:Nat) (H W C:Int) (wd:World):Prop :=
 wd.cell? ⟨B,0,none⟩=some (.int .i64 H)∧wd.cell? ⟨B,1,none⟩=some (.int .i64 W)∧wd.cell? ⟨B,2,none⟩=some (.int .i64 C)
theorem zau.below {B B':Nat} {H W C:Int} {w w':World} (h:zau B H W C w) (hB:B < B') (hb:Below B' w w'):zau B H W C w' :=
 ⟨(hb.cell (p:=⟨B,0,none⟩) hB).trans h.1,(hb.cell (p:=⟨B,1,none⟩) hB).trans h.2.1,(hb.cell (p:=⟨B,2,none⟩) hB).trans h.2.2⟩
theorem zau.new (H W C:Int) (T:TypeId) (w:World):zau w.heap.size H W C (w.alloc (.cells #[.int .i64 H,.int .i64 W,.int .i64 C] T)) :=
 ⟨Kit.zaf _ _ _ _,Kit.zaf _ _ _ _,Kit.zaf _ _ _ _⟩
theorem zau.stores {B B2:Nat} {H W C:Int} {w:World} (h:zau B H W C w) (hne:B≠B2) (a b d e:Value) :
  zau B H W C ((((w.setCell ⟨B2,0,none⟩ a).setCell ⟨B2,1,none⟩ b).setCell ⟨B2,2,none⟩ d).setCell ⟨B2,3,none⟩ e):=by
 have k:∀ i j (v:Value) (wd:World),(wd.setCell ⟨B2,j,none⟩ v).cell? ⟨B,i,none⟩=wd.cell? ⟨B,i,none⟩:=fun i j v wd=>World.cell?_setCell_other _ _ _ _ (fun e=>hne (congrArg Addr.block e).symm)
 unfold zau
 simp only [k]
 exact h
theorem fill_no (H W C x:Int) (hs:zad H W C=false) (w:World) :
  Calls Tryz.prog 120 #[.agg #[.int .i64 H,.int .i64 W,.int .i64 C],.int .i8 x] w fun e w'=>e=.returned (.tuple #[.agg #[.int .i64 0,.int .i64 0,.int .i64 0,.slice none 0 0],.int .i64 5])∧Below w.heap.size w w':=by
 have HS:=hid hs
 clear hs
 go_enter Tryz.func120,Tryz.ntmps120
 go_wp2_with (go_at_call 24;((with_reducible refine (CShape.zac H W C false HS.out _).mono ?_);(rintro e w1 ⟨rfl,hb⟩;obtain⟨hc,hf⟩:=Kit.bcell hb;have hz:w.heap.size+2≤w1.heap.size:=(by have:=hb.size;simp at this;omega);have HB:Hid (Below w.heap.size w w1):=hid (Below.trans (((Below.refl _ _).alloc (le_refl _) _).alloc (by simp) _) (hb.mono (by simp;omega))))))
 refine bodyPost_ret (Kit.zaa rfl _ _ (w.heap.size+1) 0 [.int .i64 0,.int .i64 0,.int .i64 0,.slice none 0 0] _ rfl (zan (by go_cell) (by go_cell) (by go_cell) (by go_cell)) Tryz.underlying27 rfl (by kernel_rfl)) rfl ?_
 exact⟨rfl,((((HB.out.setCell (p:=⟨w.heap.size+1,0,none⟩) (by simp) _).setCell (p:=⟨w.heap.size+1,1,none⟩) (by simp) _).setCell (p:=⟨w.heap.size+1,2,none⟩) (by simp) _).setCell (p:=⟨w.heap.size+1,3,none⟩) (by simp) _)⟩
theorem fill_yes (H W C x:Int) (n:Nat) (hs:zad H W C=true) (hn:H * W * C=(n:Int)) (w:World) :
  Calls Tryz.prog 120 #[.agg #[.int .i64 H,.int .i64 W,.int .i64 C],.int .i8 x] w (Made w H W C n (List.replicate n x) (.int .i64 0)):=by
 have hm:zay H W C=(n:Int):=by rw [zaw hs];exact hn
 have hs2:=hs
 simp only [zad,decide_eq_true_eq] at hs2
 obtain⟨g1,g2,g3,g4,g5,g6,g7⟩:=hs2
 have hpr:=prod_bd g1 g2 g3 g4 g5 g6
 have h1:1≤n:=by omega
 have hl:n≤1000000:=by omega
 have HS:=hid hs
 have HM:=hid hm
 clear hs hn hm hpr g1 g2 g3 g4 g5 g6 g7
 go_enter Tryz.func120,Tryz.ntmps120
 go_wp2_with (go_at_call 24;((with_reducible refine (CShape.zac H W C true HS.out _).mono ?_);(rintro e w1 ⟨rfl,hb⟩)))
 have HB:Hid (Below w.heap.size w w1):=hid (Below.trans (((Below.refl _ _).alloc (le_refl _) _).alloc (by simp) _) (hb.mono (by simp;omega)))
 have hz:w.heap.size+2≤w1.heap.size:=by have:=hb.size;simp at this;omega
 have hbox:zau w.heap.size H W C w1.drew :=
  ((zau.new H W C 24 w).below (lt_succ_self _) ((Below.refl _ _).alloc (by simp) (.cells #[.int .i64 0,.int .i64 0,.int .i64 0,.slice none 0 0] 27))).below (by simp;omega) hb.drew
 have HFR:Hid (zbm (w.heap.size+1) w1.drew):=hid ((zbm.new 27 (w.alloc (.cells #[.int .i64 H,.int .i64 W,.int .i64 C] 24)) (w.heap.size+1) (by simp)).below (by simp) hb.drew)
 replace HB:=hid HB.out.drew
 have hz:w.heap.size+2≤w1.drew.heap.size:=hz
 clear hb
 refine wp_region_held_drew (S:=zau w.heap.size H W C) (by kernel_rfl) hbox (fun hHeld=>?_)
 clear hbox
 generalize w1.drew=W1 at HFR HB hz hHeld ⊢
 refine Tk.y 0 (v:=?_) rfl ?_ ?_
 rotate_left
 ·intro wS hSw
  obtain⟨s1,s2,s3⟩:=hSw
  first | (go_simp;done) | (go_simp;with_reducible rfl)
 try simp only [Tk.put]
 refine Tk.y 1 (v:=?_) rfl ?_ ?_
 rotate_left
 ·intro wS hSw
  obtain⟨s1,s2,s3⟩:=hSw
  first | (go_simp;done) | (go_simp;with_reducible rfl)
 try simp only [Tk.put]
 refine Tk.y 3 (v:=?_) rfl ?_ ?_
 rotate_left
 ·intro wS hSw
  obtain⟨s1,s2,s3⟩:=hSw
  first | (go_simp;done) | (go_simp;with_reducible rfl)
 try simp only [Tk.put]
 refine wpAnyH_ready (rs:=[2,4]) (by kernel_rfl) (by simp) ?_
 refine Tk.c rfl (fun K hK=>?_) ?_
 ·go_simp
  refine hK.out _ _ ?_ (fun hHeld=>?_)
  ·exact (hHeld.below (by omega) ((Below.refl _ _).alloc (le_refl _) _))
  clear hK K
  try simp only [Tk.put]
  replace HFR:=hid (HFR.out.below (B':=W1.heap.size) (by omega) ((Below.refl _ _).alloc (le_refl _) (.cells #[.int .i8 x] 39)))
  replace HB:=hid (HB.out.alloc HB.out.size (.cells #[.int .i8 x] 39))
  have HX:=hid (Kit.Rd.new W1 [.int .i8 x] 39 (lt_succ_self _))
  have hzx:w.heap.size+2≤W1.heap.size:=hz
  replace hz:W1.heap.size+1≤(W1.alloc (.cells #[.int .i8 x] 39)).heap.size:=by simp
  generalize W1.alloc (.cells #[.int .i8 x] 39)=W2 at *
  refine Tk.s 4 rfl (fun K hK=>?_)
  go_simp
  go_at_call 25
  refine (zbk H W C n HM.out _).mono ?_
  rintro e W3 ⟨rfl,hb⟩
  replace HX:=hid (HX.out.below (hb.mono (by omega)))
  have hS1:=hHeld.below (B':=_) (by omega) hb
  replace HFR:=hid (HFR.out.below (B':=_) (by omega) hb)
  replace HB:=hid (HB.out.trans (hb.mono (by omega)))
  replace hz:=Nat.le_trans hz hb.size
  clear hHeld
  clear hb
  dsimp only
  refine hK.out _ _ ?_ (fun hHeld=>?_)
  ·exact hS1
  clear hK K
  try simp only [Tk.put]
  refine Tk.s 5 rfl (fun K hK=>?_)
  go_simp
  go_at_call 136
  refine (repeat_to _ x 1 n h1 hl W3 (B:=(W1.heap.size+1)) (by omega) HX.out).mono ?_
  rintro e w5 ⟨v5,rfl,ho5,hb⟩
  obtain⟨A2,c2,rfl,_,_,_⟩:=Kit.zam ho5
  have HO:=hid (Kit.zah ho5 (show w.heap.size+2≤W3.heap.size by omega))
  have hS1:=hHeld.below (B':=_) (by omega) hb
  replace HFR:=hid (HFR.out.below (B':=_) (by omega) hb)
  replace HB:=hid (HB.out.trans (hb.mono (by omega)))
  replace hz:=Nat.le_trans hz hb.size
  clear hHeld
  clear hb ho5
  obtain⟨⟨z0,z1,z2,z3⟩,z4,z5,z6,z7⟩:=HFR.out
  dsimp only
  refine hK.out _ _ ?_ (fun hHeld=>?_)
  ·exact hS1
  clear hK K
  try simp only [Tk.put]
  refine Tk.x 6 rfl ?_
  try simp only [Tk.put]
  refine Tk.s 7 rfl (fun K hK=>?_)
  go_simp
  refine hK.out _ _ ?_ (fun hHeld=>?_)
  ·exact hHeld.stores (by omega) _ _ _ _
  clear hK K
  try simp only [Tk.put]
  refine Tk.x 8 rfl ?_
  try simp only [Tk.put]
  refine wpAnyH_done (by kernel_rfl) ?_ _
  go_wp2_with fail
  refine bodyPost_ret (Kit.zaa rfl _ _ (w.heap.size+1) 0 [.int .i64 H,.int .i64 W,.int .i64 C,.slice A2 n c2] _ rfl (zan (by go_cell) (by go_cell) (by go_cell) (by go_cell)) Tryz.underlying27 rfl (by kernel_rfl)) rfl ?_
  refine⟨_,rfl,Kit.zah (zat (zat (zat (zat HO.out _ _ ?_) _ _ ?_) _ _ ?_) _ _ ?_) ?_,?_⟩
  any_goals (first | omega | (simp;done) | (simp;omega))
  exact ((((HB.out.setCell (p:=⟨w.heap.size+1,0,none⟩) (by simp) _).setCell (p:=⟨w.heap.size+1,1,none⟩) (by simp) _).setCell (p:=⟨w.heap.size+1,2,none⟩) (by simp) _).setCell (p:=⟨w.heap.size+1,3,none⟩) (by simp) _)
 refine Tk.c rfl (fun K hK=>?_) ?_
 ·go_simp
  go_at_call 25
  refine (zbk H W C n HM.out _).mono ?_
  rintro e W2 ⟨rfl,hb⟩
  have hS1:=hHeld.below (B':=_) (by omega) hb
  replace HFR:=hid (HFR.out.below (B':=_) (by omega) hb)
  replace HB:=hid (HB.out.trans (hb.mono (by omega)))
  replace hz:=Nat.le_trans hz hb.size
  clear hHeld
  clear hb
  dsimp only
  refine hK.out _ _ ?_ (fun hHeld=>?_)
  ·exact hS1
  clear hK K
  try simp only [Tk.put]
  refine Tk.s 2 rfl (fun K hK=>?_)
  go_simp
  refine hK.out _ _ ?_ (fun hHeld=>?_)
  ·exact (hHeld.below (by omega) ((Below.refl _ _).alloc (le_refl _) _))
  clear hK K
  try simp only [Tk.put]
  replace HFR:=hid (HFR.out.below (B':=W2.heap.size) (by omega) ((Below.refl _ _).alloc (le_refl _) (.cells #[.int .i8 x] 39)))
  replace HB:=hid (HB.out.alloc HB.out.size (.cells #[.int .i8 x] 39))
  have HX:=hid (Kit.Rd.new W2 [.int .i8 x] 39 (lt_succ_self _))
  have hzx:w.heap.size+2≤W2.heap.size:=hz
  replace hz:W2.heap.size+1≤(W2.alloc (.cells #[.int .i8 x] 39)).heap.size:=by simp
  generalize W2.alloc (.cells #[.int .i8 x] 39)=W3 at *
  refine Tk.s 5 rfl (fun K hK=>?_)
  go_simp
  go_at_call 136
  refine (repeat_to _ x 1 n h1 hl W3 (B:=(W2.heap.size+1)) (by omega) HX.out).mono ?_
  rintro e w5 ⟨v5,rfl,ho5,hb⟩
  obtain⟨A2,c2,rfl,_,_,_⟩:=Kit.zam ho5
  have HO:=hid (Kit.zah ho5 (show w.heap.size+2≤W3.heap.size by omega))
  have hS1:=hHeld.below (B':=_) (by omega) hb
  replace HFR:=hid (HFR.out.below (B':=_) (by omega) hb)
  replace HB:=hid (HB.out.trans (hb.mono (by omega)))
  replace hz:=Nat.le_trans hz hb.size
  clear hHeld
  clear hb ho5
  obtain⟨⟨z0,z1,z2,z3⟩,z4,z5,z6,z7⟩:=HFR.out
  dsimp only
  refine hK.out _ _ ?_ (fun hHeld=>?_)
  ·exact hS1
  clear hK K
  try simp only [Tk.put]
  refine Tk.x 6 rfl ?_
  try simp only [Tk.put]
  refine Tk.s 7 rfl (fun K hK=>?_)
  go_simp
  refine hK.out _ _ ?_ (fun hHeld=>?_)
  ·exact hHeld.stores (by omega) _ _ _ _
  clear hK K
  try simp only [Tk.put]
  refine Tk.x 8 rfl ?_
  try simp only [Tk.put]
  refine wpAnyH_done (by kernel_rfl) ?_ _
  go_wp2_with fail
  refine bodyPost_ret (Kit.zaa rfl _ _ (w.heap.size+1) 0 [.int .i64 H,.int .i64 W,.int .i64 C,.slice A2 n c2] _ rfl (zan (by go_cell) (by go_cell) (by go_cell) (by go_cell)) Tryz.underlying27 rfl (by kernel_rfl)) rfl ?_
  refine⟨_,rfl,Kit.zah (zat (zat (zat (zat HO.out _ _ ?_) _ _ ?_) _ _ ?_) _ _ ?_) ?_,?_⟩
  any_goals (first | omega | (simp;done) | (simp;omega))
  exact ((((HB.out.setCell (p:=⟨w.heap.size+1,0,none⟩) (by simp) _).setCell (p:=⟨w.heap.size+1,1,none⟩) (by simp) _).setCell (p:=⟨w.heap.size+1,2,none⟩) (by simp) _).setCell (p:=⟨w.heap.size+1,3,none⟩) (by simp) _)
 exact AllReadyH.nil
end CTensor
end
end Go.Proofs.YtahekhpeomcfjaaGreatDoor
