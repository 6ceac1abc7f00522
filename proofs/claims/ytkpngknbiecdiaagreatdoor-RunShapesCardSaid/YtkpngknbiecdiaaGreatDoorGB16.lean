/- Texts of this seat, one behind the other: LaneReach. -/
import Derived.Test.YtkpngknbiecdiaaGreatDoorGB15
section
namespace Go.Proofs.YtkpngknbiecdiaaGreatDoor.CLane
open Go Go.ChangeShapes Go.WideShapes Go.ChangeAt Go.RowKit
open Plain CSat CShape CTensor CConv FloatNum CFour CWheel
set_option linter.unusedVariables false
def ReachM (g0:Nat) (H W C:Int) (A:Option Addr) (n c:Nat) (x0 x1 x2 x8 x11 x12 x13 x14 x15 x16 x17 x18:Value) (K S P O Z:Int) (WA BA:Option Addr) (nW cW nB cB:Nat) (zs:List Int) (ok:Nat→Prop) (M:Nat) (v1 v2:Value) (rows:List (List Int)) (ps:List Int) (w wr:World):Prop :=
 BoxAt g0 H W C A n c wr∧NodeAt (g0+1) x0 x1 x2 x8 x11 x12 x13 x14 x15 x16 x17 x18 K S P O Z WA BA nW cW nB cB wr∧Two (g0+2) (.slice none 0 0) (.slice none 0 0) wr∧Two (g0+3) v1 v2 wr∧Kit.Rd wr g0 A (I8s zs)∧LanesAt (g0+4) ok M v1 v2 rows ps wr∧Below g0 w wr
theorem LanesAt.sizes {B0:Nat} {ok:Nat→Prop} {M:Nat} {v1 v2:Value} {rows:List (List Int)} {ps:List Int} {w:World} (h:LanesAt B0 ok M v1 v2 rows ps w):∃ A1 c1 A2 c2,v1=.slice A1 rows.length c1∧v2=.slice A2 ps.length c2:=by
 obtain⟨vs,h⟩:=h
 obtain⟨A1,c1,e1, -, -, -⟩:=Kit.own_rd h.2.1
 obtain⟨A2,c2,e2, -, -, -⟩:=Kit.own_rd h.2.2.1
 exact⟨A1,c1,A2,c2,e1,e2⟩
theorem one_la {B0:Nat} {ok:Nat→Prop} {M:Nat} {v1 v2:Value} {rows:List (List Int)} {ps:List Int} {w:World} (h:LanesAt B0 ok M v1 v2 rows ps w):(#[v1,v2].all (·.oneCell'))=true:=by
 obtain⟨A1,c1,A2,c2,rfl,rfl⟩:=h.sizes
 exact one_sl _ _ _ _ _ _
theorem ReachM.next {g0:Nat} {H W C:Int} {A:Option Addr} {n c:Nat} {x0 x1 x2 x8 x11 x12 x13 x14 x15 x16 x17 x18:Value} {K S P O Z:Int} {WA BA:Option Addr} {nW cW nB cB:Nat} {zs:List Int} {ok:Nat→Prop} {M:Nat} {v1 v2 u1 u2:Value} {rows rows':List (List Int)} {ps ps':List Int} {w wr w1:World}
  (h:ReachM g0 H W C A n c x0 x1 x2 x8 x11 x12 x13 x14 x15 x16 x17 x18 K S P O Z WA BA nW cW nB cB zs ok M v1 v2 rows ps w wr) (hlt:g0+3 < g0+4) (hok:¬ ok (g0+3)) (hla:LanesAt (g0+4) ok M u1 u2 rows' ps' w1) (hb:Below (g0+4) wr w1):ReachM g0 H W C A n c x0 x1 x2 x8 x11 x12 x13 x14 x15 x16 x17 x18 K S P O Z WA BA nW cW nB cB zs ok M u1 u2 rows' ps' w (CFour.set2 (g0+3) u1 u2 w1):=by
 obtain⟨a,b,d,e,f,g,i⟩:=h
 obtain⟨vs,hl⟩:=hla
 have k1:∀ (p q:Nat),p < g0+3→(CFour.set2 (g0+3) u1 u2 w1).cell? ⟨p,q,none⟩=w1.cell? ⟨p,q,none⟩:=fun p q hp=>by
  show ((w1.setCell ⟨g0+3,0,none⟩ u1).setCell ⟨g0+3,1,none⟩ u2).cell? ⟨p,q,none⟩=_
  rw [World.cell?_setCell_other _ _ _ _ (fun e=>by have:=congrArg Addr.block e;simp at this;omega),World.cell?_setCell_other _ _ _ _ (fun e=>by have:=congrArg Addr.block e;simp at this;omega)]
 have a1:=a.below (B':=g0+4) (by omega) hb
 have b1:=b.below (B':=g0+4) (by omega) hb
 have d1:=d.below hb (by omega)
 have hs:Below (g0+3) w1 (CFour.set2 (g0+3) u1 u2 w1):=below_set2 (Below.refl _ _) (Nat.le_refl _) u1 u2
 refine⟨a1.below (B':=g0+3) (by omega) hs,b1.below (B':=g0+3) (by omega) hs,d1.below hs (by omega),(e.below hb hlt).set2 u1 u2,f.below ((hb.mono (by omega)).trans (hs.mono (by omega))),⟨vs,(hl.set (p:=⟨g0+3,0,none⟩) hok u1).set (p:=⟨g0+3,1,none⟩) hok u2⟩,(i.trans (hb.mono (by omega))).trans (hs.mono (by omega))⟩
theorem rowsTo_no {zs:List Int} {Z H W C top:Int} {d pp Wn M i:Nat} (h:¬ (0≤top+(i:Int)∧top+(i:Int) < H)):rowsTo zs Z H W C top d pp Wn M (i+1)=rowsTo zs Z H W C top d pp Wn M i:=by
 show rowsTo zs Z H W C top d pp Wn M i ++ (if _ then _ else _)=_
 rw [if_neg h,List.append_nil]
theorem psTo_no {H top:Int} {d i:Nat} (h:¬ (0≤top+(i:Int)∧top+(i:Int) < H)):psTo H top d (i+1)=psTo H top d i:=by
 show psTo H top d i ++ (if _ then _ else _)=_
 rw [if_neg h,List.append_nil]
theorem LanesAt.sets {B0:Nat} {ok:Nat→Prop} {M:Nat} {v1 v2:Value} {rows:List (List Int)} {ps:List Int} {w:World} (h:LanesAt B0 ok M v1 v2 rows ps w) {g:Nat} (hg:¬ ok g) (a b:Value):LanesAt B0 ok M v1 v2 rows ps (CFour.set2 g a b w):=by
 obtain⟨vs,h⟩:=h
 exact⟨vs,(h.set (p:=⟨g,0,none⟩) hg a).set (p:=⟨g,1,none⟩) hg b⟩
theorem LanesAt.under {B0:Nat} {ok:Nat→Prop} {M:Nat} {v1 v2:Value} {rows:List (List Int)} {ps:List Int} {w w':World} (h:LanesAt B0 ok M v1 v2 rows ps w) (hb:Below w.heap.size w w'):LanesAt B0 ok M v1 v2 rows ps w':=by
 obtain⟨vs,h⟩:=h
 exact⟨vs,h.below hb⟩
theorem inB_row {H W C y:Int} (h:¬ (0≤y∧y < H)):inB H W C y 0 0=false:=by
 unfold inB
 rw [Bool.and_eq_false_iff]
 exact .inr (decide_eq_false (fun h9=>h ⟨h9.1,h9.2.1⟩))
theorem rowsTo_le (zs:List Int) (Z H W C top:Int) (d pp Wn M:Nat) (hd:d≤1024):∀ k,(rowsTo zs Z H W C top d pp Wn M k).length≤k * 1024
 | 0=>by simp [rowsTo]
 | k+1=>by
   rw [len_if]
   have:=rowsTo_le zs Z H W C top d pp Wn M hd k
   have h2:(if 0≤top+(k:Int)∧top+(k:Int) < H then d else 0)≤1024:=by split <;> omega
   have h3:(k+1) * 1024=k * 1024+1024:=Nat.succ_mul k 1024
   rw [h3]
   exact Nat.add_le_add this h2
set_option maxRecDepth 100000 in
set_option maxHeartbeats 8000000 in
theorem reached_to (H W C:Int) (A:Option Addr) (zs:List Int) (n c:Nat) (hn:zs.length=n) (hz:I8b zs) (ht:tensB H W C n=true) (x0 x1 x2 x8 x11 x12 x13 x14 x15 x16 x17 x18:Value) (K S P O Z:Int) (WA BA:Option Addr) (nW cW nB cB:Nat) (z1 : -128≤Z) (z2:Z≤127) (top:Int) (t1 : -1000≤top) (t2:top≤1000)
  (d pp Wn M:Nat) (hd:C=(d:Int)) (hP:P=(pp:Int)) (hW:W=(Wn:Int)) (hM:M=Wn+2 * pp) (p2:pp≤4) (w:World)
  (hr:Kit.Rd w w.heap.size A (I8s zs)) :
  Calls Tryz.prog 81 #[.agg #[.int .i64 H,.int .i64 W,.int .i64 C,.slice A n c],.agg #[x0,x1,x2,.int .i64 K,.int .i64 S,.int .i64 P,.int .i64 O,.int .i8 Z,x8,.slice WA nW cW,.slice BA nB cB,x11,x12,x13,x14,x15,x16,x17,x18],.int .i64 top] w fun e w'=>∃ v1 v2,e=.returned (.agg #[v1,v2])∧LanesAt (w.heap.size+4) (fun g=>(w.heap.size+4)≤g) M v1 v2 (rowsTo zs Z H W C top d pp Wn M 3) (psTo H top d 3) w'∧Below w.heap.size w w':=by
 have hs:shapeB H W C=true:=by simp only [tensB,Bool.and_eq_true] at ht;exact ht.1
 obtain⟨g1,g2,g3,g4,g5,g6,g7⟩:=shapeB_yes hs
 have hd1:1≤d∧d≤1024:=by omega
 have HR:=Lib.hid hr
 have HT:=Lib.hid ht
 have HZ:=Lib.hid hz
 have HN:=Lib.hid hn
 have HD:=Lib.hid hd
 have HP:=Lib.hid hP
 have HW:=Lib.hid hW
 have HM:=Lib.hid hM
 clear hs hr hz hn hd hP hW hM ht g7
 go_enter Tryz.func81,Tryz.ntmps81
 go_upto_region 2 with fail
 have hm0:ReachM w.heap.size H W C A n c x0 x1 x2 x8 x11 x12 x13 x14 x15 x16 x17 x18 K S P O Z WA BA nW cW nB cB zs (fun g=>(w.heap.size+4)≤g) M (.slice none 0 0) (.slice none 0 0) (rowsTo zs Z H W C top d pp Wn M 0) (psTo H top d 0) w ((((w.alloc (.cells #[.int .i64 H,.int .i64 W,.int .i64 C,.slice A n c] 32)).alloc (.cells #[x0,x1,x2,.int .i64 K,.int .i64 S,.int .i64 P,.int .i64 O,.int .i8 Z,x8,.slice WA nW cW,.slice BA nB cB,x11,x12,x13,x14,x15,x16,x17,x18] 28)).alloc (.cells #[.slice none 0 0,.slice none 0 0] 108)).alloc (.cells #[.slice none 0 0,.slice none 0 0] 108)):=by
  have hT:BoxAt w.heap.size H W C A n c ((((w.alloc (.cells #[.int .i64 H,.int .i64 W,.int .i64 C,.slice A n c] 32)).alloc (.cells #[x0,x1,x2,.int .i64 K,.int .i64 S,.int .i64 P,.int .i64 O,.int .i8 Z,x8,.slice WA nW cW,.slice BA nB cB,x11,x12,x13,x14,x15,x16,x17,x18] 28)).alloc (.cells #[.slice none 0 0,.slice none 0 0] 108)).alloc (.cells #[.slice none 0 0,.slice none 0 0] 108)):=⟨by go_cell,by go_cell,by go_cell,by go_cell⟩
  have hR:Two (w.heap.size+2) (.slice none 0 0) (.slice none 0 0) ((((w.alloc (.cells #[.int .i64 H,.int .i64 W,.int .i64 C,.slice A n c] 32)).alloc (.cells #[x0,x1,x2,.int .i64 K,.int .i64 S,.int .i64 P,.int .i64 O,.int .i8 Z,x8,.slice WA nW cW,.slice BA nB cB,x11,x12,x13,x14,x15,x16,x17,x18] 28)).alloc (.cells #[.slice none 0 0,.slice none 0 0] 108)).alloc (.cells #[.slice none 0 0,.slice none 0 0] 108)):=⟨by go_cell,by go_cell,fun i hi=>by rcases i with _ | _ | i <;> first | (exact absurd hi (by omega)) | go_cell,by first | (simp;done) | (simp;omega)⟩
  have hL:Two (w.heap.size+3) (.slice none 0 0) (.slice none 0 0) ((((w.alloc (.cells #[.int .i64 H,.int .i64 W,.int .i64 C,.slice A n c] 32)).alloc (.cells #[x0,x1,x2,.int .i64 K,.int .i64 S,.int .i64 P,.int .i64 O,.int .i8 Z,x8,.slice WA nW cW,.slice BA nB cB,x11,x12,x13,x14,x15,x16,x17,x18] 28)).alloc (.cells #[.slice none 0 0,.slice none 0 0] 108)).alloc (.cells #[.slice none 0 0,.slice none 0 0] 108)):=⟨by go_cell,by go_cell,fun i hi=>by rcases i with _ | _ | i <;> first | (exact absurd hi (by omega)) | go_cell,by first | (simp;done) | (simp;omega)⟩
  have hN:NodeAt (w.heap.size+1) x0 x1 x2 x8 x11 x12 x13 x14 x15 x16 x17 x18 K S P O Z WA BA nW cW nB cB ((((w.alloc (.cells #[.int .i64 H,.int .i64 W,.int .i64 C,.slice A n c] 32)).alloc (.cells #[x0,x1,x2,.int .i64 K,.int .i64 S,.int .i64 P,.int .i64 O,.int .i8 Z,x8,.slice WA nW cW,.slice BA nB cB,x11,x12,x13,x14,x15,x16,x17,x18] 28)).alloc (.cells #[.slice none 0 0,.slice none 0 0] 108)).alloc (.cells #[.slice none 0 0,.slice none 0 0] 108)):=by
   have h9:=(NodeAt.new x0 x1 x2 x8 x11 x12 x13 x14 x15 x16 x17 x18 K S P O Z WA BA nW cW nB cB 28 (w.alloc (.cells #[.int .i64 H,.int .i64 W,.int .i64 C,.slice A n c] 32))).below (B':=w.heap.size+2) (by simp) (((Below.refl _ _).alloc (by simp) (.cells #[.slice none 0 0,.slice none 0 0] 108)).alloc (by simp) (.cells #[.slice none 0 0,.slice none 0 0] 108))
   simpa using h9
  have hB:Below w.heap.size w ((((w.alloc (.cells #[.int .i64 H,.int .i64 W,.int .i64 C,.slice A n c] 32)).alloc (.cells #[x0,x1,x2,.int .i64 K,.int .i64 S,.int .i64 P,.int .i64 O,.int .i8 Z,x8,.slice WA nW cW,.slice BA nB cB,x11,x12,x13,x14,x15,x16,x17,x18] 28)).alloc (.cells #[.slice none 0 0,.slice none 0 0] 108)).alloc (.cells #[.slice none 0 0,.slice none 0 0] 108)):=((((Below.refl _ _).alloc (Nat.le_refl _) _).alloc (by simp) _).alloc (by simp;omega) _).alloc (by simp;omega) _
  exact⟨hT,hN,hR,hL,HR.out.below hB,⟨[],LanesV.start _ _ _ _⟩,hB⟩
 have HM0:=Lib.hid hm0
 clear hm0
 generalize hW0:((((w.alloc (.cells #[.int .i64 H,.int .i64 W,.int .i64 C,.slice A n c] 32)).alloc (.cells #[x0,x1,x2,.int .i64 K,.int .i64 S,.int .i64 P,.int .i64 O,.int .i8 Z,x8,.slice WA nW cW,.slice BA nB cB,x11,x12,x13,x14,x15,x16,x17,x18] 28)).alloc (.cells #[.slice none 0 0,.slice none 0 0] 108)).alloc (.cells #[.slice none 0 0,.slice none 0 0] 108))=w0 at HM0 ⊢
 clear hW0
 go_upto_region 3 with fail
 go_loopw [9] (fun u wr=>∃ (i:Nat) (v1 v2:Value),i≤3∧u=.int .i64 i∧Hid (ReachM w.heap.size H W C A n c x0 x1 x2 x8 x11 x12 x13 x14 x15 x16 x17 x18 K S P O Z WA BA nW cW nB cB zs (fun g=>(w.heap.size+4)≤g) M v1 v2 (rowsTo zs Z H W C top d pp Wn M i) (psTo H top d i) w wr)) (fun u _=>3 - (intOf u).toNat)
 case atStart=>exact⟨0,_,_,by omega,rfl,HM0⟩
 case round =>
  clear HM0
  obtain⟨i,v1,v2,hi,rfl,HMM⟩:=hrel
  obtain⟨A1,c1,A2,c2,rfl,rfl⟩:=HMM.out.2.2.2.2.2.1.sizes
  obtain⟨t0,t1',t2',t3⟩:=HMM.out.1
  obtain⟨l0,l1, -,hsz⟩:=HMM.out.2.2.2.1
  have hsz:w.heap.size+4≤wr.heap.size:=hsz
  have hl1:(rowsTo zs Z H W C top d pp Wn M i).length≤100000:=Nat.le_trans (rowsTo_le zs Z H W C top d pp Wn M hd1.2 i) (by omega)
  have hl2:(psTo H top d i).length≤100000:=by rw [← len_to zs Z H W C top d pp Wn M i];exact hl1
  by_cases hlt:i < 3
  ·have hii:(i:Int) < 3:=by omega
   obtain⟨y,hy⟩:∃ y,top+(i:Int)=y:=⟨_,rfl⟩
   have e1:IntKind.i64.wrap (top+(i:Int))=y:=by rw [hy];exact IntWalk.i64_in _ (by omega)
   have e2:IntKind.i64.wrap ((i:Int) * 3)=((i * 3:Nat):Int):=by rw [IntWalk.i64_in _ (by omega)];omega
   have hpd:i * 3 * d≤9216:=Nat.le_trans (Nat.mul_le_mul (show i * 3≤9 by omega) hd1.2) (by omega)
   have e3:IntKind.i64.wrap (((i * 3:Nat):Int) * C)=((i * 3 * d:Nat):Int):=by rw [HD.out, ← Int.natCast_mul];exact IntWalk.i64_in _ (by omega)
   have hp5:i * 3 * d≤100000:=by omega
   have HY:=Lib.hid hy
   clear hy hpd
   obtain⟨pl,hpl⟩:∃ pl,i * 3 * d=pl:=⟨_,rfl⟩
   rw [hpl] at e3 hp5
   generalize hi3:i * 3=i3 at e2 e3
   clear hi3
   have HPL:=Lib.hid hpl
   clear hpl
   by_cases hin:0≤y∧y < H
   ·obtain⟨st,hst⟩:∃ st:Nat,y * W * C=(st:Int):=⟨(y * W * C).toNat,by rw [Int.toNat_of_nonneg (Int.mul_nonneg (Int.mul_nonneg hin.1 (by omega)) (by omega))]⟩
    have HST:=Lib.hid hst
    clear hst
    go_upto_region 6 with (first
     | (refine wpList_load_mid rfl 108 (.tmp 7) rfl (w.heap.size+3) 0 rfl [(.slice A1 (rowsTo zs Z H W C top d pp Wn M i).length c1),(.slice A2 (psTo H top d i).length c2)] _ (Kit.range_2 l0 l1) Tryz.underlying108 rfl (by kernel_rfl) ?_)
     | (refine wpList_load_mid rfl 28 (.tmp 4) rfl (w.heap.size+1) 0 rfl [x0,x1,x2,.int .i64 K,.int .i64 S,.int .i64 P,.int .i64 O,.int .i8 Z,x8,.slice WA nW cW,.slice BA nB cB,x11,x12,x13,x14,x15,x16,x17,x18] _ HMM.out.2.1 Tryz.underlying28 rfl (by kernel_rfl) ?_)
     | (go_at_call 120;refine (with_in (w.heap.size+4) _ _ _ _ H W C A zs n c HN.out HZ.out HT.out x0 x1 x2 x8 x11 x12 x13 x14 x15 x16 x17 x18 K S P O Z WA BA nW cW nB cB z1 z2 y hin.1 hin.2 d pp Wn M st pl HD.out HP.out HW.out HM.out HST.out p2 hp5 hl1 hl2 _ hsz (HMM.out.2.2.2.2.1.more (by omega)) HMM.out.2.2.2.2.2.1).mono ?_;rintro e w1 ⟨u1,u2,rfl,hla1,hb1⟩;clear t0 t1' t2' t3 l0 l1)
     | (refine wpList_store_mid rfl 108 (.tmp 7) (.tmp 24) rfl (w.heap.size+3) 0 #[u1,u2] rfl rfl (HMM.out.2.2.2.1.below hb1 (Nat.lt_succ_self _)).there (by kernel_rfl) (one_la hla1) ?_;change wpList _ _ _ _ _ (CFour.set2 (w.heap.size+3) u1 u2 w1);have HM1:=Lib.hid (HMM.out.next (Nat.lt_succ_self _) (fun h=>absurd h (Nat.not_succ_le_self _)) hla1 hb1);generalize CFour.set2 (w.heap.size+3) u1 u2 w1=w2 at HM1 ⊢))
    go_wp2_with fail
    go_roundw
    case rel =>
     refine⟨i+1,u1,u2,by omega,by go_num,Lib.hid ?_⟩
     have h9:=HM1.out
     unfold rowsTo psTo
     rw [HY.out,if_pos hin,if_pos hin,HST.out,HPL.out]
     exact h9
    case measure=>simp [intOf];omega
   ·have hin2:=inB_row (W:=W) (C:=C) hin
    go_upto_region 6 with (first
     | (refine wpList_load_mid rfl 108 (.tmp 7) rfl (w.heap.size+3) 0 rfl [(.slice A1 (rowsTo zs Z H W C top d pp Wn M i).length c1),(.slice A2 (psTo H top d i).length c2)] _ (Kit.range_2 l0 l1) Tryz.underlying108 rfl (by kernel_rfl) ?_)
     | (refine wpList_load_mid rfl 28 (.tmp 4) rfl (w.heap.size+1) 0 rfl [x0,x1,x2,.int .i64 K,.int .i64 S,.int .i64 P,.int .i64 O,.int .i8 Z,x8,.slice WA nW cW,.slice BA nB cB,x11,x12,x13,x14,x15,x16,x17,x18] _ HMM.out.2.1 Tryz.underlying28 rfl (by kernel_rfl) ?_)
     | (go_at_call 120;refine (with_out A1 A2 _ c1 _ c2 H W C A n c x0 x1 x2 x8 x11 x12 x13 x14 x15 x16 x17 x18 K S P O Z WA BA nW cW nB cB y (pl:Int) hin2 _).mono ?_;rintro e w1 ⟨rfl,hb1'⟩;have hb1:=hb1'.mono hsz;have hla1:=HMM.out.2.2.2.2.2.1;replace hla1:=LanesAt.under hla1 hb1';clear t0 t1' t2' t3 l0 l1)
     | (refine wpList_store_mid rfl 108 (.tmp 7) (.tmp 24) rfl (w.heap.size+3) 0 #[(.slice A1 (rowsTo zs Z H W C top d pp Wn M i).length c1),(.slice A2 (psTo H top d i).length c2)] rfl rfl (HMM.out.2.2.2.1.below hb1 (Nat.lt_succ_self _)).there (by kernel_rfl) (one_la hla1) ?_;change wpList _ _ _ _ _ (CFour.set2 (w.heap.size+3) (.slice A1 (rowsTo zs Z H W C top d pp Wn M i).length c1) (.slice A2 (psTo H top d i).length c2) w1);have HM1:=Lib.hid (HMM.out.next (Nat.lt_succ_self _) (fun h=>absurd h (Nat.not_succ_le_self _)) hla1 hb1);generalize CFour.set2 (w.heap.size+3) (.slice A1 (rowsTo zs Z H W C top d pp Wn M i).length c1) (.slice A2 (psTo H top d i).length c2) w1=w2 at HM1 ⊢))
    go_wp2_with fail
    go_roundw
    case rel =>
     refine⟨i+1,(.slice A1 (rowsTo zs Z H W C top d pp Wn M i).length c1),(.slice A2 (psTo H top d i).length c2),by omega,by go_num,Lib.hid ?_⟩
     have h9:=HM1.out
     rw [rowsTo_no (by rw [HY.out];exact hin),psTo_no (by rw [HY.out];exact hin)]
     exact h9
    case measure=>simp [intOf];omega
  ·obtain rfl:i=3:=by omega
   have hii:¬ (((3:Nat):Int) < 3):=by omega
   clear t0 t1' t2' t3
   go_wp2_with (first
    | (refine wpList_load_mid rfl 108 (.tmp 7) rfl (w.heap.size+3) 0 rfl [(.slice A1 (rowsTo zs Z H W C top d pp Wn M 3).length c1),(.slice A2 (psTo H top d 3).length c2)] _ (Kit.range_2 l0 l1) Tryz.underlying108 rfl (by kernel_rfl) ?_)
    | (refine wpList_store_mid rfl 108 (.tmp 6) (.tmp 26) rfl (w.heap.size+2) 0 #[(.slice A1 (rowsTo zs Z H W C top d pp Wn M 3).length c1),(.slice A2 (psTo H top d 3).length c2)] rfl rfl HMM.out.2.2.1.there (by kernel_rfl) (one_la HMM.out.2.2.2.2.2.1) ?_;change wpList _ _ _ _ _ (CFour.set2 (w.heap.size+2) (.slice A1 (rowsTo zs Z H W C top d pp Wn M 3).length c1) (.slice A2 (psTo H top d 3).length c2) wr);have hR2:=HMM.out.2.2.1.set2 (.slice A1 (rowsTo zs Z H W C top d pp Wn M 3).length c1) (.slice A2 (psTo H top d 3).length c2);have hLA:=HMM.out.2.2.2.2.2.1.sets (g:=w.heap.size+2) (fun h=>absurd h (Nat.not_le_of_lt (by omega))) (.slice A1 (rowsTo zs Z H W C top d pp Wn M 3).length c1) (.slice A2 (psTo H top d 3).length c2);have hB2:=below_set2 HMM.out.2.2.2.2.2.2 (g:=w.heap.size+2) (by omega) (.slice A1 (rowsTo zs Z H W C top d pp Wn M 3).length c1) (.slice A2 (psTo H top d 3).length c2);generalize CFour.set2 (w.heap.size+2) (.slice A1 (rowsTo zs Z H W C top d pp Wn M 3).length c1) (.slice A2 (psTo H top d 3).length c2) wr=w9 at hR2 hLA hB2 ⊢))
   refine bodyPost_ret (Kit.results_c rfl _ _ (w.heap.size+2) 0 [(.slice A1 (rowsTo zs Z H W C top d pp Wn M 3).length c1),(.slice A2 (psTo H top d 3).length c2)] _ rfl (Kit.range_2 hR2.1 hR2.2.1) Tryz.underlying108 rfl (by kernel_rfl)) rfl ?_
   exact⟨_,_,rfl,hLA,hB2⟩
end Go.Proofs.YtkpngknbiecdiaaGreatDoor.CLane
end
