/- -/
import Derived.Test.YtchpdhhpkljdhaaGreatDoorGD12
open Go.Value renaming int→Jj
open Go.IntKind renaming i64→Jq
open Go.Lib (hid)
open Nat (le_refl lt_of_succ_lt lt_succ_self)
set_option linter.unusedVariables false
set_option linter.unusedSimpArgs false
set_option maxRecDepth 100000
set_option maxHeartbeats 16000000
namespace Go.Proofs.YtchpdhhpkljdhaaGreatDoor
namespace CConv
end CConv
namespace CSat
end CSat
namespace CWheel
end CWheel
open Go Go.ChangeShapes Go.WideShapes Go.ChangeAt Go.RowKit
section
namespace CLane
open Plain CSat CShape CTensor CConv FloatNum CFour CWheel
theorem Two.grown {g:Nat} {a b:Value} {w w':World} (h:Two g a b w) {r:Option Nat} (hg:w.grownBy w' r) (hr:r≠some g):Two g a b w' :=
 ⟨hg.cell h.1 (fun e=>hr e.symm),hg.cell h.2.1 (fun e=>hr e.symm),fun i hi=>(World.frozen?_of_block (hg.block g h.2.2.2 (fun e=>hr e.symm))).trans (h.2.2.1 i hi),Nat.lt_of_lt_of_le h.2.2.2 hg.size⟩
def WithM (gS B0:Nat) (H W C:Int) (A:Option Addr) (n c:Nat) (x0 x1 x2 x8 x11 x12 x13 x14 x15 x16 x17 x18:Value) (K S P O Z:Int) (WA BA:Option Addr) (nW cW nB cB:Nat) (zs:List Int) (w:World) (v1 v2:Value) (wr:World):Prop :=
 Two gS v1 v2 wr∧BoxAt (gS+1) H W C A n c wr∧zae (gS+2) x0 x1 x2 x8 x11 x12 x13 x14 x15 x16 x17 x18 K S P O Z WA BA nW cW nB cB wr∧Two (gS+3) (.slice none 0 0) (.slice none 0 0) wr∧Kit.Rd wr B0 A (I8s zs)∧Below B0 w wr
section
variable {gS B0:Nat} {H W C:Int} {A:Option Addr} {n c:Nat} {x0 x1 x2 x8 x11 x12 x13 x14 x15 x16 x17 x18:Value} {K S P O Z:Int} {WA BA:Option Addr} {nW cW nB cB:Nat} {zs:List Int} {w wr wr':World} {v1 v2:Value}
theorem WithM.grown (h:WithM gS B0 H W C A n c x0 x1 x2 x8 x11 x12 x13 x14 x15 x16 x17 x18 K S P O Z WA BA nW cW nB cB zs w v1 v2 wr) {r:Option Nat} (hg:wr.grownBy wr' r) (hB:B0≤gS) (h0:r≠some gS) (h1:r≠some (gS+1)) (h2:r≠some (gS+2)) (h3:r≠some (gS+3)) (hb:∀ g,r=some g→B0≤g):WithM gS B0 H W C A n c x0 x1 x2 x8 x11 x12 x13 x14 x15 x16 x17 x18 K S P O Z WA BA nW cW nB cB zs w v1 v2 wr':=by
 obtain⟨a,b,d,e,f,i⟩:=h
 have k1:∀ {p:Addr} {v:Value},p.block=gS+1→wr.cell? p=some v→wr'.cell? p=some v:=fun hp hc=>hg.cell hc (by rw [hp];exact fun e=>h1 e.symm)
 refine⟨Two.grown a hg h0,⟨k1 rfl b.1,k1 rfl b.2.1,k1 rfl b.2.2.1,k1 rfl b.2.2.2⟩,fun j v hj=>hg.cell (d j v hj) (fun e=>h2 e.symm),Two.grown e hg h3,f.keep fun p hp=>?_,i.grown hg (by have:=a.2.2.2;omega) hb⟩
 have hlt:p.block < wr.heap.size:=by have:=a.2.2.2;omega
 exact World.cell?_of_block (hg.block p.block hlt (fun e=>by have:=hb _ e.symm;omega))
theorem WithM.below (h:WithM gS B0 H W C A n c x0 x1 x2 x8 x11 x12 x13 x14 x15 x16 x17 x18 K S P O Z WA BA nW cW nB cB zs w v1 v2 wr) {B:Nat} (hb:Below B wr wr') (h0:gS+3 < B) (hB:B0≤gS):WithM gS B0 H W C A n c x0 x1 x2 x8 x11 x12 x13 x14 x15 x16 x17 x18 K S P O Z WA BA nW cW nB cB zs w v1 v2 wr' :=
 ⟨h.1.below hb Zb3,h.2.1.below (B':=B) Zb3 hb,h.2.2.1.below (B':=B) Zb3 hb,h.2.2.2.1.below hb h0,h.2.2.2.2.1.below (hb.mono Zb3),h.2.2.2.2.2.trans (hb.mono Zb3)⟩
theorem WithM.set0 (h:WithM gS B0 H W C A n c x0 x1 x2 x8 x11 x12 x13 x14 x15 x16 x17 x18 K S P O Z WA BA nW cW nB cB zs w v1 v2 wr) (hB:B0≤gS) (u:Value):WithM gS B0 H W C A n c x0 x1 x2 x8 x11 x12 x13 x14 x15 x16 x17 x18 K S P O Z WA BA nW cW nB cB zs w u v2 (wr.setCell ⟨gS,0,none⟩ u):=by
 obtain⟨a,b,d,e,f,i⟩:=h
 have hs:Below gS wr (wr.setCell ⟨gS,0,none⟩ u):=(Below.refl _ _).setCell (p:=⟨gS,0,none⟩) (le_refl _) _
 have k1:∀ (g o:Nat),g≠gS→(wr.setCell ⟨gS,0,none⟩ u).cell? ⟨g,o,none⟩=wr.cell? ⟨g,o,none⟩:=fun g o hg=>World.cell?_setCell_other _ _ _ _ (fun e=>hg (congrArg Addr.block e).symm)
 refine⟨⟨?_,?_,fun j hj=>?_,by simp;exact a.2.2.2⟩,⟨(k1 _ _ Zb3).trans b.1,(k1 _ _ Zb3).trans b.2.1,(k1 _ _ Zb3).trans b.2.2.1,(k1 _ _ Zb3).trans b.2.2.2⟩,fun j v hj=>(k1 _ _ Zb3).trans (d j v hj),
  ⟨(k1 _ _ Zb3).trans e.1,(k1 _ _ Zb3).trans e.2.1,fun j hj=>?_,by simp;exact e.2.2.2⟩,f.setCell hB _,i.setCell (p:=⟨gS,0,none⟩) hB _⟩
 ·exact World.cell?_setCell_same' _ _ _ (by rw [a.1];rfl)
 ·rw [World.cell?_setCell_other _ _ _ _ (by intro q;cases q)];exact a.2.1
 ·rw [World.frozen?_setCell];exact a.2.2.1 j hj
 ·rw [World.frozen?_setCell];exact e.2.2.1 j hj
theorem WithM.set1 (h:WithM gS B0 H W C A n c x0 x1 x2 x8 x11 x12 x13 x14 x15 x16 x17 x18 K S P O Z WA BA nW cW nB cB zs w v1 v2 wr) (hB:B0≤gS) (u:Value):WithM gS B0 H W C A n c x0 x1 x2 x8 x11 x12 x13 x14 x15 x16 x17 x18 K S P O Z WA BA nW cW nB cB zs w v1 u (wr.setCell ⟨gS,1,none⟩ u):=by
 obtain⟨a,b,d,e,f,i⟩:=h
 have k1:∀ (g o:Nat),g≠gS→(wr.setCell ⟨gS,1,none⟩ u).cell? ⟨g,o,none⟩=wr.cell? ⟨g,o,none⟩:=fun g o hg=>World.cell?_setCell_other _ _ _ _ (fun e=>hg (congrArg Addr.block e).symm)
 refine⟨⟨?_,?_,fun j hj=>?_,by simp;exact a.2.2.2⟩,⟨(k1 _ _ Zb3).trans b.1,(k1 _ _ Zb3).trans b.2.1,(k1 _ _ Zb3).trans b.2.2.1,(k1 _ _ Zb3).trans b.2.2.2⟩,fun j v hj=>(k1 _ _ Zb3).trans (d j v hj),
  ⟨(k1 _ _ Zb3).trans e.1,(k1 _ _ Zb3).trans e.2.1,fun j hj=>?_,by simp;exact e.2.2.2⟩,f.setCell hB _,i.setCell (p:=⟨gS,1,none⟩) hB _⟩
 ·rw [World.cell?_setCell_other _ _ _ _ (by intro q;cases q)];exact a.1
 ·exact World.cell?_setCell_same' _ _ _ (by rw [a.2.1];rfl)
 ·rw [World.frozen?_setCell];exact a.2.2.1 j hj
 ·rw [World.frozen?_setCell];exact e.2.2.1 j hj
end
def OkF (B0 gS g:Nat):Prop:=B0≤g∧(g < gS∨gS+4≤g)
theorem OkF.ne {B0 gS g:Nat} (h:OkF B0 gS g):g≠gS∧g≠gS+1∧g≠gS+2∧g≠gS+3∧B0≤g:=by unfold OkF at h;omega
theorem OkF.of {B0 gS g:Nat} (hB:B0≤gS) (h:gS+4≤g):OkF B0 gS g:=⟨by omega,.inr h⟩
theorem nums_congr2 {F G:Nat→Int} {n:Nat} (h:∀ i,i < n→F i=G i):nums F n=nums G n:=by
 unfold nums
 exact List.map_congr_left (fun i hi=>h i (by simpa using hi))
theorem info_sl:(Tryz.prog.info? 112).map (fun i=>(i.zero,i.size,i.bytes))=some (some (.slice none 0 0),1,24):=by kernel_rfl
theorem info_i16:(Tryz.prog.info? 157).map (fun i=>(i.zero,i.size,i.bytes))=some (some (.int .i16 0),1,2):=by kernel_rfl
theorem info_int:(Tryz.prog.info? 3).map (fun i=>(i.zero,i.size,i.bytes))=some (some (Jj Jq 0),1,8):=by kernel_rfl
theorem one_sl (A1 A2:Option Addr) (n1 c1 n2 c2:Nat):(#[Value.slice A1 n1 c1,.slice A2 n2 c2].all (·.oneCell'))=true :=
 all_oneCell_toArray (cs:=[Value.slice A1 n1 c1,.slice A2 n2 c2]) (by intro v hv;simp at hv;rcases hv with rfl | rfl <;> rfl)
theorem jump_ret9 {n:Nat} {J:Act→World→Prop} {Q:Exit→Act→World→Prop} {a:Act} {w:World} (h:Q .ret a w):Exit.jump n J Q .ret a w:=h
theorem one_s1 (A1:Option Addr) (n1 c1:Nat):∀ u∈[Value.slice A1 n1 c1],u.oneCell'=true:=by intro v hv;simp at hv;subst hv;rfl
theorem with_out (A1 A2:Option Addr) (n1 c1 n2 c2:Nat) (H W C:Int) (A:Option Addr) (n c:Nat) (x0 x1 x2 x8 x11 x12 x13 x14 x15 x16 x17 x18:Value) (K S P O Z:Int) (WA BA:Option Addr) (nW cW nB cB:Nat) (h p:Int) (hi:inB H W C h 0 0=false) (w:World) :
  Calls Tryz.prog 117 #[.agg #[.slice A1 n1 c1,.slice A2 n2 c2],.agg #[Jj Jq H,Jj Jq W,Jj Jq C,.slice A n c],.agg #[x0,x1,x2,Jj Jq K,Jj Jq S,Jj Jq P,Jj Jq O,.int .i8 Z,x8,.slice WA nW cW,.slice BA nB cB,x11,x12,x13,x14,x15,x16,x17,x18],Jj Jq h,Jj Jq p] w fun e w'=>e=.returned (.agg #[.slice A1 n1 c1,.slice A2 n2 c2])∧Below w.heap.size w w':=by
 have HI:=hid hi
 clear hi
 go_enter Tryz.func117,Tryz.ntmps117
 go_wp2
 refine Kit.zce 0 rfl ?_
 go_upto_region 1 with fail
 have hL:Two w.heap.size (.slice A1 n1 c1) (.slice A2 n2 c2) ((((w.alloc (.cells #[.slice A1 n1 c1,.slice A2 n2 c2] 106)).alloc (.cells #[Jj Jq H,Jj Jq W,Jj Jq C,.slice A n c] 32)).alloc (.cells #[x0,x1,x2,Jj Jq K,Jj Jq S,Jj Jq P,Jj Jq O,.int .i8 Z,x8,.slice WA nW cW,.slice BA nB cB,x11,x12,x13,x14,x15,x16,x17,x18] 28)).alloc (.cells #[.slice none 0 0,.slice none 0 0] 106)):=⟨by go_cell,by go_cell,fun i hi=>by rcases i with _ | _ | i <;> first | (exact absurd hi Zb3) | go_cell,by first | (simp;done) | (simp;omega)⟩
 have hT:BoxAt (w.heap.size+1) H W C A n c ((((w.alloc (.cells #[.slice A1 n1 c1,.slice A2 n2 c2] 106)).alloc (.cells #[Jj Jq H,Jj Jq W,Jj Jq C,.slice A n c] 32)).alloc (.cells #[x0,x1,x2,Jj Jq K,Jj Jq S,Jj Jq P,Jj Jq O,.int .i8 Z,x8,.slice WA nW cW,.slice BA nB cB,x11,x12,x13,x14,x15,x16,x17,x18] 28)).alloc (.cells #[.slice none 0 0,.slice none 0 0] 106)):=⟨by go_cell,by go_cell,by go_cell,by go_cell⟩
 have hR:Two (w.heap.size+3) (.slice none 0 0) (.slice none 0 0) ((((w.alloc (.cells #[.slice A1 n1 c1,.slice A2 n2 c2] 106)).alloc (.cells #[Jj Jq H,Jj Jq W,Jj Jq C,.slice A n c] 32)).alloc (.cells #[x0,x1,x2,Jj Jq K,Jj Jq S,Jj Jq P,Jj Jq O,.int .i8 Z,x8,.slice WA nW cW,.slice BA nB cB,x11,x12,x13,x14,x15,x16,x17,x18] 28)).alloc (.cells #[.slice none 0 0,.slice none 0 0] 106)):=⟨by go_cell,by go_cell,fun i hi=>by rcases i with _ | _ | i <;> first | (exact absurd hi Zb3) | go_cell,by first | (simp;done) | (simp;omega)⟩
 have hB:Below w.heap.size w ((((w.alloc (.cells #[.slice A1 n1 c1,.slice A2 n2 c2] 106)).alloc (.cells #[Jj Jq H,Jj Jq W,Jj Jq C,.slice A n c] 32)).alloc (.cells #[x0,x1,x2,Jj Jq K,Jj Jq S,Jj Jq P,Jj Jq O,.int .i8 Z,x8,.slice WA nW cW,.slice BA nB cB,x11,x12,x13,x14,x15,x16,x17,x18] 28)).alloc (.cells #[.slice none 0 0,.slice none 0 0] 106)):=((((Below.refl _ _).alloc (le_refl _) _).alloc Zb7 _).alloc Zba _).alloc Zba _
 generalize hW0:((((w.alloc (.cells #[.slice A1 n1 c1,.slice A2 n2 c2] 106)).alloc (.cells #[Jj Jq H,Jj Jq W,Jj Jq C,.slice A n c] 32)).alloc (.cells #[x0,x1,x2,Jj Jq K,Jj Jq S,Jj Jq P,Jj Jq O,.int .i8 Z,x8,.slice WA nW cW,.slice BA nB cB,x11,x12,x13,x14,x15,x16,x17,x18] 28)).alloc (.cells #[.slice none 0 0,.slice none 0 0] 106))=w0 at hL hT hR hB ⊢
 clear hW0
 have HL:=hid hL
 have HR:=hid hR
 have HB:=hid hB
 obtain⟨t0,t1,t2,t3⟩:=hT
 clear hL hR hB
 go_wp2_with (first
  | (go_at_call 130;refine (index_no H W C h 0 0 HI.out _).mono ?_;rintro e w1 ⟨rfl,hb⟩;replace HL:=hid (HL.out.below hb (by have:=HR.out.2.2.2;omega));replace HR:=hid (HR.out.below hb HR.out.2.2.2);replace HB:=hid (HB.out.trans (hb.mono HB.out.size));clear hb t0 t1 t2 t3))
 go_step3
 refine⟨rfl,?_⟩
 obtain⟨l0,l1,l2,l3⟩:=HL.out
 go_wp2_with (first
  | (refine wpList_load_mid rfl 106 (.tmp 5) rfl w.heap.size 0 rfl [.slice A1 n1 c1,.slice A2 n2 c2] _ (Kit.zc1 l0 l1) Tryz.underlying106 rfl Zb5 ?_)
  | (refine wpList_store_mid rfl 106 (.tmp 10) (.tmp 85) rfl (w.heap.size+3) 0 #[.slice A1 n1 c1,.slice A2 n2 c2] rfl rfl HR.out.there Zb5 (one_sl _ _ _ _ _ _) ?_;change wpList _ _ _ _ _ (CFour.set2 (w.heap.size+3) (.slice A1 n1 c1) (.slice A2 n2 c2) w1);have hR2:=HR.out.set2 (.slice A1 n1 c1) (.slice A2 n2 c2);have hB2:=zcq HB.out (g:=w.heap.size+3) Zb3 (.slice A1 n1 c1) (.slice A2 n2 c2);generalize CFour.set2 (w.heap.size+3) (.slice A1 n1 c1) (.slice A2 n2 c2) w1=w5 at hR2 hB2 ⊢;clear l0 l1 l2 l3))
 rw [Exit.noGoto_ret]
 refine bodyPost_ret (Kit.zbi rfl _ _ (w.heap.size+3) 0 [.slice A1 n1 c1,.slice A2 n2 c2] _ rfl (Kit.zc1 hR2.1 hR2.2.1) Tryz.underlying106 rfl Zb5) rfl ?_
 exact⟨rfl,hB2⟩
theorem with_in (B0:Nat) (v1 v2:Value) (rows:List (List Int)) (ps:List Int) (H W C:Int) (A:Option Addr) (zs:List Int) (n c:Nat) (hn:zs.length=n) (hz:I8b zs) (ht:tensB H W C n=true) (x0 x1 x2 x8 x11 x12 x13 x14 x15 x16 x17 x18:Value) (K S P O Z:Int) (WA BA:Option Addr) (nW cW nB cB:Nat) (z1 : -128≤Z) (z2:Z≤127) (h:Int) (h0:0≤h) (h1:h < H)
  (d pp Wn M st pl:Nat) (hd:C=(d:Int)) (hP:P=(pp:Int)) (hW:W=(Wn:Int)) (hM:M=Wn+2 * pp) (hst:h * W * C=(st:Int)) (p2:pp≤4) (hpl:pl≤100000) (hrl:rows.length≤100000) (hpsl:ps.length≤100000) (w:World) (hB0:B0≤w.heap.size)
  (hr:Kit.Rd w B0 A (I8s zs)) (hl:zbc B0 (fun g=>B0≤g) M v1 v2 rows ps w) :
  Calls Tryz.prog 117 #[.agg #[v1,v2],.agg #[Jj Jq H,Jj Jq W,Jj Jq C,.slice A n c],.agg #[x0,x1,x2,Jj Jq K,Jj Jq S,Jj Jq P,Jj Jq O,.int .i8 Z,x8,.slice WA nW cW,.slice BA nB cB,x11,x12,x13,x14,x15,x16,x17,x18],Jj Jq h,Jj Jq (pl:Int)] w fun e w'=>∃ u1 u2,e=.returned (.agg #[u1,u2])∧zbc B0 (fun g=>B0≤g) M u1 u2 (rows ++ zbr zs Z st d pp Wn M d) (ps ++ zcj pl d) w'∧Below B0 w w':=by
 refine Z7u ?_;intro hs hm
 obtain⟨g1,g2,g3,g4,g5,g6,g7⟩:=zac hs
 have hix:(h * W+0) * C+0=(st:Int):=by rw [Int.add_zero,Int.add_zero];exact hst
 obtain⟨vs,hlv⟩:=hl
 have hlv:=hlv.weaken (ok':=(OkF B0 w.heap.size)) (fun g hg h=>⟨h,.inl hg⟩)
 obtain⟨A1,c1,rfl, -, -, -⟩:=Kit.zaj hlv.2.1
 obtain⟨A2,c2,rfl, -, -, -⟩:=Kit.zaj hlv.2.2.1
 have HS:=hid hs
 have HMM:=hid hm
 have HIX:=hid hix
 have HLV:=hid hlv
 have HR:=hid hr
 have HZ:=hid hz
 have HN:=hid hn
 have HST:=hid hst
 have HD:=hid hd
 have HP:=hid hP
 have HW:=hid hW
 have HM:=hid hM
 have hMb:M≤24:=by omega
 have hdn:1≤d∧d≤1024:=by omega
 obtain⟨pq,hpq⟩:∃ pq,2 * pp=pq:=⟨_,rfl⟩
 have hm1:IntKind.i64.wrap (2 * P)=(pq:Int):=by rw [IntWalk.i64_in _ Zb3];omega
 have hm2:IntKind.i64.wrap (W+(pq:Int))=(M:Int):=by rw [IntWalk.i64_in _ Zb3];omega
 clear hs hm hix hlv hr hz hn hst hd hP hW hM ht g7
 obtain⟨i6,ha0,ha1,ha2,ha3⟩:=info_parts info_i16
 obtain⟨is,hb0,hb1,hb2,hb3⟩:=info_parts info_sl
 obtain⟨ii,hc0,hc1,hc2,hc3⟩:=info_parts info_int
 go_enter Tryz.func117,Tryz.ntmps117
 go_wp2
 refine Kit.zce 0 rfl ?_
 go_upto_region 1 with fail
 have hL:Two w.heap.size (.slice A1 rows.length c1) (.slice A2 ps.length c2) ((((w.alloc (.cells #[.slice A1 rows.length c1,.slice A2 ps.length c2] 106)).alloc (.cells #[Jj Jq H,Jj Jq W,Jj Jq C,.slice A n c] 32)).alloc (.cells #[x0,x1,x2,Jj Jq K,Jj Jq S,Jj Jq P,Jj Jq O,.int .i8 Z,x8,.slice WA nW cW,.slice BA nB cB,x11,x12,x13,x14,x15,x16,x17,x18] 28)).alloc (.cells #[.slice none 0 0,.slice none 0 0] 106)):=⟨by go_cell,by go_cell,fun i hi=>by rcases i with _ | _ | i <;> first | (exact absurd hi Zb3) | go_cell,by first | (simp;done) | (simp;omega)⟩
 have hT:BoxAt (w.heap.size+1) H W C A n c ((((w.alloc (.cells #[.slice A1 rows.length c1,.slice A2 ps.length c2] 106)).alloc (.cells #[Jj Jq H,Jj Jq W,Jj Jq C,.slice A n c] 32)).alloc (.cells #[x0,x1,x2,Jj Jq K,Jj Jq S,Jj Jq P,Jj Jq O,.int .i8 Z,x8,.slice WA nW cW,.slice BA nB cB,x11,x12,x13,x14,x15,x16,x17,x18] 28)).alloc (.cells #[.slice none 0 0,.slice none 0 0] 106)):=⟨by go_cell,by go_cell,by go_cell,by go_cell⟩
 have hN:zae (w.heap.size+2) x0 x1 x2 x8 x11 x12 x13 x14 x15 x16 x17 x18 K S P O Z WA BA nW cW nB cB ((((w.alloc (.cells #[.slice A1 rows.length c1,.slice A2 ps.length c2] 106)).alloc (.cells #[Jj Jq H,Jj Jq W,Jj Jq C,.slice A n c] 32)).alloc (.cells #[x0,x1,x2,Jj Jq K,Jj Jq S,Jj Jq P,Jj Jq O,.int .i8 Z,x8,.slice WA nW cW,.slice BA nB cB,x11,x12,x13,x14,x15,x16,x17,x18] 28)).alloc (.cells #[.slice none 0 0,.slice none 0 0] 106)):=by
  have h9:=(zae.new x0 x1 x2 x8 x11 x12 x13 x14 x15 x16 x17 x18 K S P O Z WA BA nW cW nB cB 28 ((w.alloc (.cells #[.slice A1 rows.length c1,.slice A2 ps.length c2] 106)).alloc (.cells #[Jj Jq H,Jj Jq W,Jj Jq C,.slice A n c] 32))).below (B':=w.heap.size+3) Zb7 ((Below.refl _ _).alloc Zb7 (.cells #[.slice none 0 0,.slice none 0 0] 106))
  simpa using h9
 have hR:Two (w.heap.size+3) (.slice none 0 0) (.slice none 0 0) ((((w.alloc (.cells #[.slice A1 rows.length c1,.slice A2 ps.length c2] 106)).alloc (.cells #[Jj Jq H,Jj Jq W,Jj Jq C,.slice A n c] 32)).alloc (.cells #[x0,x1,x2,Jj Jq K,Jj Jq S,Jj Jq P,Jj Jq O,.int .i8 Z,x8,.slice WA nW cW,.slice BA nB cB,x11,x12,x13,x14,x15,x16,x17,x18] 28)).alloc (.cells #[.slice none 0 0,.slice none 0 0] 106)):=⟨by go_cell,by go_cell,fun i hi=>by rcases i with _ | _ | i <;> first | (exact absurd hi Zb3) | go_cell,by first | (simp;done) | (simp;omega)⟩
 have hB:Below w.heap.size w ((((w.alloc (.cells #[.slice A1 rows.length c1,.slice A2 ps.length c2] 106)).alloc (.cells #[Jj Jq H,Jj Jq W,Jj Jq C,.slice A n c] 32)).alloc (.cells #[x0,x1,x2,Jj Jq K,Jj Jq S,Jj Jq P,Jj Jq O,.int .i8 Z,x8,.slice WA nW cW,.slice BA nB cB,x11,x12,x13,x14,x15,x16,x17,x18] 28)).alloc (.cells #[.slice none 0 0,.slice none 0 0] 106)):=((((Below.refl _ _).alloc (le_refl _) _).alloc Zb7 _).alloc Zba _).alloc Zba _
 have hWM:WithM w.heap.size B0 H W C A n c x0 x1 x2 x8 x11 x12 x13 x14 x15 x16 x17 x18 K S P O Z WA BA nW cW nB cB zs w (.slice A1 rows.length c1) (.slice A2 ps.length c2) ((((w.alloc (.cells #[.slice A1 rows.length c1,.slice A2 ps.length c2] 106)).alloc (.cells #[Jj Jq H,Jj Jq W,Jj Jq C,.slice A n c] 32)).alloc (.cells #[x0,x1,x2,Jj Jq K,Jj Jq S,Jj Jq P,Jj Jq O,.int .i8 Z,x8,.slice WA nW cW,.slice BA nB cB,x11,x12,x13,x14,x15,x16,x17,x18] 28)).alloc (.cells #[.slice none 0 0,.slice none 0 0] 106)):=⟨hL,hT,hN,hR,HR.out.below (hB.mono hB0),hB.mono hB0⟩
 have HWM:=hid hWM
 replace HLV:=hid (HLV.out.below hB)
 obtain⟨t0,t1,t2,t3⟩:=hT
 have hsz:=hR.2.2.2
 clear hL hN hR hB hWM
 generalize hW0:((((w.alloc (.cells #[.slice A1 rows.length c1,.slice A2 ps.length c2] 106)).alloc (.cells #[Jj Jq H,Jj Jq W,Jj Jq C,.slice A n c] 32)).alloc (.cells #[x0,x1,x2,Jj Jq K,Jj Jq S,Jj Jq P,Jj Jq O,.int .i8 Z,x8,.slice WA nW cW,.slice BA nB cB,x11,x12,x13,x14,x15,x16,x17,x18] 28)).alloc (.cells #[.slice none 0 0,.slice none 0 0] 106))=w0 at HWM HLV t0 t1 t2 t3 hsz ⊢
 clear hW0
 go_upto_region 4 with (go_at_call 130;refine (index_yes H W C h 0 0 _ HS.out h0 h1 Zb3 Zb3 Zb3 Zb3 HIX.out _).mono ?_;rintro e w1 ⟨rfl,hb⟩;replace HWM:=hid (HWM.out.below hb hsz hB0);replace HLV:=hid (HLV.out.below hb);replace hsz:=Nat.lt_of_lt_of_le hsz hb.size;clear hb t0 t1 t2 t3;obtain⟨t0,t1,t2,t3⟩:=HWM.out.2.1)
 have HLV0:Hid (zbw B0 (OkF B0 w.heap.size) M (.slice A1 rows.length c1) (.slice A2 ps.length c2) vs (rows ++ zbr zs Z st d pp Wn M 0) (ps ++ zcj pl 0) w1):=hid (by rw [show zbr zs Z st d pp Wn M 0=[] from rfl,show zcj pl 0=[] from rfl,List.append_nil,List.append_nil];exact HLV.out)
 clear HLV t0 t1 t2 t3 HR
 go_loopw [28] (fun u wr=>∃ (k:Nat) (v1 v2:Value) (vs:List Value),k≤d∧u=Jj Jq k∧Hid (WithM w.heap.size B0 H W C A n c x0 x1 x2 x8 x11 x12 x13 x14 x15 x16 x17 x18 K S P O Z WA BA nW cW nB cB zs w v1 v2 wr)∧Hid (zbw B0 (OkF B0 w.heap.size) M v1 v2 vs (rows ++ zbr zs Z st d pp Wn M k) (ps ++ zcj pl k) wr)∧w.heap.size+3 < wr.heap.size) (fun u _=>d - (intOf u).toNat)
 case atStart=>exact⟨0,_,_,vs,Nat.zero_le _,rfl,HWM,HLV0,hsz⟩
 case round =>
  clear HWM HLV0 hsz
  obtain⟨k,v1,v2,vs,hk,rfl,HWM,HLV,hsz⟩:=hrel
  by_cases hlt:k < d
  ·have hki:(k:Int) < C:=by have:=HD.out;omega
   refine Z93 ?_;intro hk0
   obtain⟨R,hR⟩:∃ R,rows ++ zbr zs Z st d pp Wn M k=R:=⟨_,rfl⟩
   obtain⟨Q,hQ⟩:∃ Q,ps ++ zcj pl k=Q:=⟨_,rfl⟩
   rw [hR,hQ] at HLV
   have hRl:R.length≤101024:=by rw [← hR,List.length_append,zcx];omega
   have hQl:Q.length≤101024:=by rw [← hQ,List.length_append,lanePs_len];omega
   have HRR:=hid hR
   have HQQ:=hid hQ
   obtain⟨A1,c1,rfl, -, -, -⟩:=Kit.zaj HLV.out.2.1
   obtain⟨A2,c2,rfl, -, -, -⟩:=Kit.zaj HLV.out.2.2.1
   obtain⟨t0,t1,t2,t3⟩:=HWM.out.2.1
   have n5:=HWM.out.2.2.1.at 5 _ rfl
   obtain⟨wo,rfl⟩:∃ wo,wo=wr:=⟨_,rfl⟩
   clear hR hQ
   go_upto_region 7 with (at_make;refine wpList_make_full _ rfl (.tmp 37) (.tmp 37) _ rfl wo.heap.size 157 i6 (.int .i16 0) 1 Tryz.underlying112 ha0 ha1 ha2 .i64 .i64 _ _ M rfl rfl rfl rfl (by rw [ha3];omega) (by unfold maxLen;omega) (le_refl _) ?_;intro w2 hown hg2)
   have hgw:Below wo.heap.size wo w2:=(Below.refl wo.heap.size wo).grown hg2 (le_refl _) (fun q hq=>by cases hq)
   rw [show (madeCells (Value.int IntKind.i16 0).cells (M * 1)).toList=I16w (nums (fun q=>if q < pp+0 then laneF zs Z st d pp Wn k q else 0) M) by
    rw [Nat.mul_one];show (madeCells #[Value.int .i16 0] M).toList=_;rw [toList_madeCells_one]
    apply List.ext_getElem
    ·simp [I16w,nums]
    ·intro q h1 h2
     simp only [List.getElem_replicate,I16w,nums,List.getElem_map,List.getElem_range]
     congr 1
     split
     ·unfold laneF;rw [if_neg Zb3]
     ·rfl] at hown
   have HLT:Hid (∀ g,(Value.slice A1 R.length c1).ownBlock=some g∨(Value.slice A2 Q.length c2).ownBlock=some g→g≠wo.heap.size):=hid (fun g h=>Nat.ne_of_lt (h.elim (fun e=>zcc HLV.out.2.1 e) (fun e=>zcc HLV.out.2.2.1 e)))
   have hgz:w.heap.size+4≤wo.heap.size:=hsz
   have hgr:wo.heap.size < w2.heap.size:=Kit.zbd hown
   have HOW:=hid hown
   have HGW:=hid hgw
   obtain⟨t0,t1,t2,t3⟩:=(HWM.out.below hgw hsz hB0).2.1
   clear hown hg2 hgw n5
   go_upto_region 8 with fail
   clear t0 t1 t2 t3
   go_loopw [42] (fun u wr=>∃ x:Nat,x≤Wn∧u=Jj Jq x∧Hid (wr.ownsRow wo.heap.size 157 1 (.slice (some ⟨wo.heap.size,0,none⟩) M M) M (I16w (nums (fun q=>if q < pp+x then laneF zs Z st d pp Wn k q else 0) M)))∧Hid (Below wo.heap.size wo wr)) (fun u _=>Wn - (intOf u).toNat)
   case atStart=>exact⟨0,Nat.zero_le _,rfl,HOW,HGW⟩
   case round =>
    clear HOW HGW hgr
    obtain⟨x,hx,rfl,HOW,HGW⟩:=hrel
    have hWM:=HWM.out.below HGW.out hsz hB0
    obtain⟨t0,t1,t2,t3⟩:=hWM.2.1
    have hsz2:=hWM.2.2.2.1.2.2.2
    have n5:=hWM.2.2.1.at 5 _ rfl
    have n7:=hWM.2.2.1.at 7 _ rfl
    have hrd:=hWM.2.2.2.2.1
    by_cases hltx:x < Wn
    ·have hxi:(x:Int) < W:=by have:=HW.out;omega
     have hx0:(0:Int)≤(x:Int):=by omega
     obtain⟨i1,hi1⟩:∃ i1,pp+x=i1:=⟨_,rfl⟩
     obtain⟨xd,hxd⟩:∃ xd,x * d=xd:=⟨_,rfl⟩
     obtain⟨ix,hix⟩:∃ ix,st+xd+k=ix:=⟨_,rfl⟩
     obtain⟨-, -, -,b4,b5⟩:=at_bd HS.out h0 h1 hx0 hxi (c:=(k:Int)) hk0 hki
     rw [← HMM.out] at b4 b5
     have hixe:(h * W+(x:Int)) * C+(k:Int)=(ix:Int):=by
      rw [Int.add_mul,HST.out,HD.out, ← hix, ← hxd];simp
     rw [hixe] at b4
     have hxdb:xd≤1024:=by omega
     have hn1:n≤1024:=by omega
     have e1:IntKind.i64.wrap (P+(x:Int))=(i1:Int):=by rw [HP.out,IntWalk.i64_in _ Zb3];omega
     have e2:IntKind.i64.wrap ((x:Int) * C)=(xd:Int):=by rw [HD.out, ← Int.natCast_mul,hxd];exact IntWalk.i64_in _ Zb3
     have e3:IntKind.i64.wrap ((st:Int)+(xd:Int))=((st+xd:Nat):Int):=by rw [IntWalk.i64_in _ Zb3];simp
     have e4:IntKind.i64.wrap (((st+xd:Nat):Int)+(k:Int))=(ix:Int):=by rw [IntWalk.i64_in _ Zb3];omega
     generalize hsx:st+xd=sx at e3 e4
     have s1:(0:Int)≤(ix:Int):=by omega
     have s2:(ix:Int) < (n:Int):=by omega
     have s3:(0:Int)≤(i1:Int):=by omega
     have s4:(i1:Int) < (M:Int):=by have h1:=HM.out;omega
     have hiM:i1 < M:=by omega
     obtain⟨bz,oz,rfl,hbz,hcz⟩:=zax hrd (j:=ix) Zbe
     have hcx:=hcz ix Zbe
     obtain⟨y1,y2⟩:=HZ.out ix
     have hval:laneF zs Z st d pp Wn k i1=zs.getD ix 0 - Z:=by
      unfold laneF
      rw [if_pos Zb3,show st+(i1 - pp) * d+k=ix by rw [show i1 - pp=x by omega,hxd];exact hix]
     obtain⟨u,hu⟩:∃ u,zs.getD ix 0=u:=⟨_,rfl⟩
     rw [hu] at hcx y1 y2 hval
     obtain⟨z,hz⟩:∃ z,u - Z=z:=⟨_,rfl⟩
     rw [hz] at hval
     have f1:IntKind.i16.wrap u=u:=IntWalk.i16_in _ Zb3
     have f2:IntKind.i16.wrap Z=Z:=IntWalk.i16_in _ Zb3
     have f3:IntKind.i16.wrap (u - Z)=z:=by rw [hz];exact IntWalk.i16_in _ Zb3
     have hfr:wr.frozen? ⟨wo.heap.size,i1,none⟩=false:=HOW.out.frozenAt i1
     have hcl:∃ v,wr.cell? ⟨wo.heap.size,i1,none⟩=some v:=⟨_,(HOW.out.cellAt i1 Zb3).trans (List.getElem?_eq_getElem (by simp [I16w,nums];exact hiM))⟩
     obtain⟨vold,hcl⟩:=hcl
     have hst2:=((Kit.own_below HOW.out (Below.refl wr.heap.size wr).drew).stored i1 (.int .i16 z)).1
     have hset:(I16w (nums (fun q=>if q < pp+x then laneF zs Z st d pp Wn k q else 0) M)).set i1 (.int .i16 z)=I16w (nums (fun q=>if q < pp+(x+1) then laneF zs Z st d pp Wn k q else 0) M):=by
      apply List.ext_getElem?
      intro q
      rw [List.getElem?_set]
      rcases Nat.lt_or_ge q M with hq | hq
      ·have e9:∀ F:Nat→Int,(I16w (nums F M))[q]?=some (.int .i16 (F q)):=fun F=>by rw [List.getElem?_map,nums_at F hq];rfl
       rw [e9,e9]
       by_cases e:i1=q
       ·subst e
        rw [if_pos rfl,if_pos (by simp [I16w,nums];exact hiM),if_pos Zb3,hval]
       ·rw [if_neg e]
        have:(q < pp+x)=(q < pp+(x+1)):=by simp only [eq_iff_iff];omega
        simp only [this]
      ·rw [if_neg Zb3,List.getElem?_eq_none (by simp [I16w,nums];omega),List.getElem?_eq_none (by simp [I16w,nums];omega)]
     rw [hset] at hst2
     have HOW2:=hid hst2
     have HGW2:=hid (HGW.out.drew.setCell (p:=⟨wo.heap.size,i1,none⟩) (le_refl _) (.int .i16 z))
     have t1':wr.drew.cell? ⟨w.heap.size+1,1,none⟩=some (Jj Jq W):=t1
     have t2':wr.drew.cell? ⟨w.heap.size+1,2,none⟩=some (Jj Jq C):=t2
     have t3':wr.drew.cell? ⟨w.heap.size+1,3,none⟩=some (.slice (some ⟨bz,oz,none⟩) n c):=t3
     have n5':wr.drew.cell? ⟨w.heap.size+2,5,none⟩=some (Jj Jq P):=n5
     have n7':wr.drew.cell? ⟨w.heap.size+2,7,none⟩=some (.int .i8 Z):=n7
     have hcx':wr.drew.cell? ⟨bz,oz+ix,none⟩=some (.int .i8 u):=hcx
     have hcl':wr.drew.cell? ⟨wo.heap.size,i1,none⟩=some vold:=hcl
     have hfr':wr.drew.frozen? ⟨wo.heap.size,i1,none⟩=false:=hfr
     clear hWM t0 t1 t2 t3 n5 n7 hrd hcz hcx hcl hfr hst2 hset hval hu hz hi1 hxd hix hixe hsx b4 b5 HOW HGW y1 y2
     go_wp2_with fail
     refine wp_region_still_tail 24 Zb5 Zb5 ?_
     rw [show ({ wr with drawn:=wr.drawn+1 } : World)=wr.drew from rfl]
     generalize wr.drew=Wd at t1' t2' t3' n5' n7' hcx' hcl' hfr' HOW2 HGW2 ⊢
     simp only [List.take_succ_cons,List.take_zero,List.drop_succ_cons,List.drop_zero]
     repeat still_step
     refine wpStill_nil ?_
     go_wp2_with fail
     go_roundw
     case rel=>exact⟨x+1,by omega,by go_num,HOW2,HGW2⟩
     case measure=>simp [intOf];omega
    ·obtain rfl:x=Wn:=by omega
     have hxn:¬ (x:Int) < W:=by have:=HW.out;omega
     have hfull:nums (fun q=>if q < pp+x then laneF zs Z st d pp x k q else 0) M=laneRow zs Z st d pp x M k:=nums_congr2 fun q hq=>by
      by_cases hq2:q < pp+x
      ·simp only [if_pos hq2]
      ·simp only [if_neg hq2];unfold laneF;rw [if_neg Zb3]
     rw [hfull] at HOW
     have hLW:=HLV.out.below HGW.out
     have hrow:Kit.Rd wr (wo.heap.size+1) (some ⟨wo.heap.size,0,none⟩) (I16w (laneRow zs Z st d pp x M k)):=by
      obtain⟨A9,c9,e9, -, -,h9⟩:=Kit.zaj HOW.out
      injection e9 with e9
      subst e9
      exact fun j u hu=>by
       obtain⟨ad,e, -,hc9⟩:=h9 j u hu
       cases e
       exact⟨_,rfl,lt_succ_self _,hc9⟩
     have hgr:wo.heap.size < wr.heap.size:=Kit.zbd HOW.out
     have hal:=(Below.refl wr.heap.size wr).alloc (le_refl _) (.cells #[.slice (some ⟨wo.heap.size,0,none⟩) M M] 112)
     have hLA:=hLW.below hal
     have hWA:=hWM.below hal hsz2 hB0
     have hrowA:=hrow.below (hal.mono Zb3)
     have hszA:wr.heap.size < (wr.alloc (.cells #[.slice (some ⟨wo.heap.size,0,none⟩) M M] 112)).heap.size:=by simp
     have HLA:=hid hLA
     have HWA:=hid hWA
     have HROW:=hid hrowA
     obtain⟨⟨l0,l1,l2,l3⟩, -⟩:=hWM
     clear hLW hrow hal hLA hWA hrowA t0 t1 t2 t3 n5 n7 hrd hfull HOW
     go_upto_region 13 with (at_builtin;refine Kit.zbb _ rfl (.tmp 71) (.tmp 73) _ rfl B0 112 is (.slice none 0 0) 1 24 Tryz.underlying103 hb0 hb1 hb2 hb3 rfl Zbc _ R.length vs rfl HLA.out.2.1 _ _ 1 1 [.slice (some ⟨wo.heap.size,0,none⟩) M M] rfl rfl (Kit.Rd.new _ _ _ (lt_succ_self _)) ?_ ?_ ?_ ?_ ?_;(exact one_s1 _ _ _);(unfold maxLen;omega);(omega);(omega);intro u1 w5 hown5 hg5 hat5;have hwm5:=HWA.out.grown hg5 hB0 (fun e=>(OkF.ne (HLA.out.2.2.2.1 _ e).1).1 rfl) (fun e=>(OkF.ne (HLA.out.2.2.2.1 _ e).1).2.1 rfl) (fun e=>(OkF.ne (HLA.out.2.2.2.1 _ e).1).2.2.1 rfl) (fun e=>(OkF.ne (HLA.out.2.2.2.1 _ e).1).2.2.2.1 rfl) (fun g e=>(HLA.out.2.2.2.1 _ e).1.1);have hlv5:=HLA.out.push1 (row:=laneRow zs Z st d pp x M k) (gr:=wo.heap.size) (nums_len _ _) (OkF.of hB0 hgz) Zb3 (fun e=>HLT.out _ (.inl e) rfl) (fun e=>HLT.out _ (.inr e) rfl) HROW.out hown5 hg5 hat5 (OkF.of hB0 Zb3);have HWM5:=hid hwm5;have HLV5:=hid hlv5;have hsz5:=hwm5.2.2.2.1.2.2.2;obtain⟨A1n,c1n,rfl, -, -, -⟩:=Kit.zaj hown5;obtain⟨⟨m0,m1,m2,m3⟩, -⟩:=hwm5;have mf:=m2 0 Zb3;clear hown5 hg5 hat5 hlv5 l0 l1 l2 l3 m2)
     have hw6:=hid (HWM5.out.set0 hB0 (.slice A1n (R.length+1) c1n))
     have hl6:=hid (HLV5.out.set (p:=⟨w.heap.size,0,none⟩) (fun h=>(OkF.ne h).1 rfl) (.slice A1n (R.length+1) c1n))
     have hsz6:w.heap.size+3 < (w5.setCell ⟨w.heap.size,0,none⟩ (.slice A1n (R.length+1) c1n)).heap.size:=by simpa using hsz5
     clear HWM5 HLV5 HLA HWA HROW m0 m1 m3 mf
     generalize w5.setCell ⟨w.heap.size,0,none⟩ (.slice A1n (R.length+1) c1n)=w6 at hw6 hl6 hsz6 ⊢
     have e5:IntKind.i64.wrap ((pl:Int)+(k:Int))=((pl+k:Nat):Int):=by rw [IntWalk.i64_in _ Zb3];simp
     obtain⟨pk,hpk⟩:∃ pk,pl+k=pk:=⟨_,rfl⟩
     rw [hpk] at e5
     have HPK:=hid hpk
     have hal:=(Below.refl w6.heap.size w6).alloc (le_refl _) (.cells #[Jj Jq (pk:Int)] 3)
     have HLA:=hid (hl6.out.below hal)
     have HWA:=hid (hw6.out.below hal hsz6 hB0)
     have hszA:w6.heap.size < (w6.alloc (.cells #[Jj Jq (pk:Int)] 3)).heap.size:=by simp
     obtain⟨⟨l0,l1,l2,l3⟩, -⟩:=hw6.out
     clear hal hpk
     go_wp2_with (at_builtin;refine Kit.zbb _ rfl (.tmp 77) (.tmp 81) _ rfl B0 3 ii (Jj Jq 0) 1 8 Tryz.underlying104 hc0 hc1 hc2 hc3 rfl Zbc _ Q.length (I64v Q) rfl HLA.out.2.2.1 _ _ 1 1 [Jj Jq (pk:Int)] rfl rfl (Kit.Rd.new _ _ _ (lt_succ_self _)) ?_ ?_ ?_ ?_ ?_;(exact Kit.za5 .i64 [(pk:Int)]);(unfold maxLen;omega);(omega);(omega);intro u2 w7 hown7 hg7 hat7;have hwm7:=HWA.out.grown hg7 hB0 (fun e=>(OkF.ne (HLA.out.2.2.2.2.1 _ e)).1 rfl) (fun e=>(OkF.ne (HLA.out.2.2.2.2.1 _ e)).2.1 rfl) (fun e=>(OkF.ne (HLA.out.2.2.2.2.1 _ e)).2.2.1 rfl) (fun e=>(OkF.ne (HLA.out.2.2.2.2.1 _ e)).2.2.2.1 rfl) (fun g e=>(HLA.out.2.2.2.2.1 _ e).1);have hlv7:=HLA.out.push2 (p:=(pk:Int)) hown7 hg7 hat7 (OkF.of hB0 Zb3);have HWM7:=hid hwm7;have HLV7:=hid hlv7;have hsz7:=hwm7.2.2.2.1.2.2.2;obtain⟨A2n,c2n,rfl, -, -, -⟩:=Kit.zaj hown7;obtain⟨⟨m0,m1,m2,m3⟩, -⟩:=hwm7;have mf:=m2 1 Zb3;clear hown7 hg7 hat7 hlv7 l0 l1 l2 l3 m2)
     have hw8:=hid (HWM7.out.set1 hB0 (.slice A2n (Q.length+1) c2n))
     have hl8:=hid (HLV7.out.set (p:=⟨w.heap.size,1,none⟩) (fun h=>(OkF.ne h).1 rfl) (.slice A2n (Q.length+1) c2n))
     have hsz8:w.heap.size+3 < (w7.setCell ⟨w.heap.size,1,none⟩ (.slice A2n (Q.length+1) c2n)).heap.size:=by simpa using hsz7
     rw [show R ++ [laneRow zs Z st d pp x M k]=rows ++ zbr zs Z st d pp x M (k+1) by rw [← HRR.out,List.append_assoc, ← laneRows_succ],show Q ++ [(pk:Int)]=ps ++ zcj pl (k+1) by rw [← HQQ.out, ← HPK.out,List.append_assoc, ← lanePs_succ]] at hl8
     clear HWM7 HLV7 HLA HWA m0 m1 m3 mf
     go_roundw
     case rel=>exact⟨k+1,_,_,_,by omega,by go_num,hw8,hl8,hsz8⟩
     case measure=>simp [intOf];omega
  ·obtain rfl:k=d:=by omega
   have hkn:¬ (k:Int) < C:=by have:=HD.out;omega
   obtain⟨R,hR⟩:∃ R,rows ++ zbr zs Z st k pp Wn M k=R:=⟨_,rfl⟩
   obtain⟨Q,hQ⟩:∃ Q,ps ++ zcj pl k=Q:=⟨_,rfl⟩
   rw [hR,hQ] at HLV
   have HRR:=hid hR
   have HQQ:=hid hQ
   clear hR hQ
   obtain⟨A1,c1,rfl, -, -, -⟩:=Kit.zaj HLV.out.2.1
   obtain⟨A2,c2,rfl, -, -, -⟩:=Kit.zaj HLV.out.2.2.1
   obtain⟨⟨l0,l1,l2,l3⟩, -⟩:=HWM.out
   go_wp2
   go_step3
   go_wp2_with (first
    | (refine wpList_load_mid rfl 106 (.tmp 5) rfl w.heap.size 0 rfl [.slice A1 R.length c1,.slice A2 Q.length c2] _ (Kit.zc1 l0 l1) Tryz.underlying106 rfl Zb5 ?_)
    | (refine wpList_store_mid rfl 106 (.tmp 10) (.tmp 85) rfl (w.heap.size+3) 0 #[.slice A1 R.length c1,.slice A2 Q.length c2] rfl rfl HWM.out.2.2.2.1.there Zb5 (one_sl _ _ _ _ _ _) ?_;change wpList _ _ _ _ _ (CFour.set2 (w.heap.size+3) (.slice A1 R.length c1) (.slice A2 Q.length c2) wr);have hR2:=HWM.out.2.2.2.1.set2 (.slice A1 R.length c1) (.slice A2 Q.length c2);have hB2:=zcq HWM.out.2.2.2.2.2 (g:=w.heap.size+3) Zb3 (.slice A1 R.length c1) (.slice A2 Q.length c2);have hL2:zbw B0 (OkF B0 w.heap.size) M (.slice A1 R.length c1) (.slice A2 Q.length c2) vs R Q (CFour.set2 (w.heap.size+3) (.slice A1 R.length c1) (.slice A2 Q.length c2) wr):=(HLV.out.set (p:=⟨w.heap.size+3,0,none⟩) (fun h=>(OkF.ne h).2.2.2.1 rfl) _).set (p:=⟨w.heap.size+3,1,none⟩) (fun h=>(OkF.ne h).2.2.2.1 rfl) _;generalize CFour.set2 (w.heap.size+3) (.slice A1 R.length c1) (.slice A2 Q.length c2) wr=w9 at hR2 hB2 hL2 ⊢;clear l0 l1 l2 l3))
   refine jump_ret9 ?_
   refine bodyPost_ret (Kit.zbi rfl _ _ (w.heap.size+3) 0 [.slice A1 R.length c1,.slice A2 Q.length c2] _ rfl (Kit.zc1 hR2.1 hR2.2.1) Tryz.underlying106 rfl Zb5) rfl ?_
   obtain rfl:=HRR.out
   obtain rfl:=HQQ.out
   exact⟨_,_,rfl,⟨vs,hL2.weaken (fun g _ h=>h.1)⟩,hB2⟩
end CLane
end
end Go.Proofs.YtchpdhhpkljdhaaGreatDoor
