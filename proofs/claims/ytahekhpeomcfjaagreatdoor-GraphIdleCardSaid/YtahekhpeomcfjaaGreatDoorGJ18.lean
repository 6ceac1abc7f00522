/- -/
import Derived.Test.YtahekhpeomcfjaaGreatDoorGJ15
open Go.Lib (hid)
open Nat (le_refl lt_of_succ_lt lt_succ_self)
set_option linter.unusedVariables false
set_option linter.unusedSimpArgs false
set_option maxRecDepth 100000
set_option maxHeartbeats 16000000
namespace Go.Proofs.YtahekhpeomcfjaaGreatDoor
namespace CConv
end CConv
namespace CFix
end CFix
namespace CSat
end CSat
namespace CShape
end CShape
namespace CTensor
end CTensor
namespace CWheel
end CWheel
open Go Go.ChangeShapes Go.WideShapes Go.ChangeAt Go.RowKit Go.Deep
section
namespace CLane
open Go Go.ChangeShapes Go.WideShapes Go.ChangeAt Go.RowKit
open Plain CSat CShape CTensor CConv FloatNum CFour CWheel
abbrev I16w (zs:List Int):List Value:=zs.map (.int .i16)
theorem rd_block {w w':World} {g:Nat} {xs:List Value} (h:Kit.Rd w (g+1) (some ⟨g,0,none⟩) xs) (hb:w'.heap[g]?=w.heap[g]?):Kit.Rd w' (g+1) (some ⟨g,0,none⟩) xs:=fun j u hu=>by
 obtain⟨ad,e,hlt,hc⟩:=h j u hu
 refine⟨ad,e,hlt,?_⟩
 cases e
 have:((⟨g,0,none⟩:Addr).add j).block=g:=Kit.add_block _ _
 have hb':w'.heap[((⟨g,0,none⟩:Addr).add j).block]?=w.heap[((⟨g,0,none⟩:Addr).add j).block]?:=by rw [this];exact hb
 exact (World.cell?_of_block hb').trans hc
theorem grown_setCell (w:World) (p:Addr) (v:Value):w.grownBy (w.setCell p v) (some p.block) :=
 ⟨rfl,rfl,rfl,by simp,fun k _ hk=>Below.heap_setCell _ _ _ k (fun e=>hk (by rw [e]))⟩
def zbi (B0:Nat) (ok:Nat→Prop) (M:Nat) (v1 v2:Value) (vs:List Value) (rows:List (List Int)) (ps:List Int) (w:World):Prop :=
 vs.length=rows.length∧w.ownsRow B0 184 1 v1 rows.length vs∧w.ownsRow B0 3 1 v2 ps.length (I64v ps) ∧
 (∀ g,v1.ownBlock=some g→ok g∧v2.ownBlock≠some g)∧(∀ g,v2.ownBlock=some g→ok g) ∧
 ∀ (i:Nat) (row:List Int),rows[i]?=some row→∃ g,vs[i]?=some (.slice (some ⟨g,0,none⟩) M M)∧row.length=M∧ok g∧g < w.heap.size∧v1.ownBlock≠some g∧v2.ownBlock≠some g∧Kit.Rd w (g+1) (some ⟨g,0,none⟩) (I16w row)
def zar (B0:Nat) (ok:Nat→Prop) (M:Nat) (v1 v2:Value) (rows:List (List Int)) (ps:List Int) (w:World):Prop:=∃ vs,zbi B0 ok M v1 v2 vs rows ps w
section
variable {B0:Nat} {ok:Nat→Prop} {M:Nat} {v1 v2:Value} {vs:List Value} {rows:List (List Int)} {ps:List Int} {w w':World}
theorem zbi.start (B0:Nat) (ok:Nat→Prop) (M:Nat) (w:World):zbi B0 ok M (.slice none 0 0) (.slice none 0 0) [] [] [] w:=by
 refine⟨rfl,own_nil _ _ _ _,own_nil _ _ _ _,fun g h=>?_,fun g h=>?_,fun i row h=>?_⟩
 ·exact absurd h (by simp [Value.ownBlock])
 ·exact absurd h (by simp [Value.ownBlock])
 ·simp at h
theorem zbi.grown (h:zbi B0 ok M v1 v2 vs rows ps w) {r:Option Nat} (hg:w.grownBy w' r) (h1:∀ g,r=some g→v1.ownBlock≠some g∧v2.ownBlock≠some g∧¬ (∃ (i:Nat),vs[i]?=some (.slice (some ⟨g,0,none⟩) M M))):zbi B0 ok M v1 v2 vs rows ps w':=by
 obtain⟨a,b,c,d,e,f⟩:=h
 have ne:∀ v:Value,(∀ g,r=some g→v.ownBlock≠some g)→v.ownBlock=none∨v.ownBlock≠r:=fun v hv=>by
  cases hr:r with
  | none=>cases hb:v.ownBlock with
    | none=>exact .inl rfl
    | some g=>exact .inr (by simp)
  | some g=>exact .inr (hv g hr)
 refine⟨a,b.kept hg (ne v1 fun g hr=>(h1 g hr).1),c.kept hg (ne v2 fun g hr=>(h1 g hr).2.1),d,e,fun i row hi=>?_⟩
 obtain⟨g,f1,f2,f3,f4,f5,f6,f7⟩:=f i row hi
 exact⟨g,f1,f2,f3,Nat.lt_of_lt_of_le f4 hg.size,f5,f6,rd_block f7 (hg.block g f4 (fun e=>(h1 g e.symm).2.2 ⟨i,f1⟩))⟩
theorem zbi.below (h:zbi B0 ok M v1 v2 vs rows ps w) (hb:Below w.heap.size w w'):zbi B0 ok M v1 v2 vs rows ps w' :=
 h.grown (r:=none) ⟨hb.os,hb.tape,hb.output,hb.size,fun k hk _=>hb.block k hk⟩ (fun g e=>by cases e)
theorem zbi.set (h:zbi B0 ok M v1 v2 vs rows ps w) {p:Addr} (hp:¬ ok p.block) (v:Value):zbi B0 ok M v1 v2 vs rows ps (w.setCell p v):=by
 refine h.grown (grown_setCell w p v) (fun g e=>?_)
 obtain rfl:p.block=g:=Option.some.inj e
 refine⟨fun e1=>hp (h.2.2.2.1 _ e1).1,fun e2=>hp (h.2.2.2.2.1 _ e2),fun⟨i,hi⟩=>?_⟩
 have hlt:i < rows.length:=by rw [← h.1];exact (List.getElem?_eq_some_iff.1 hi).1
 obtain⟨g',f1,_,f3,_⟩:=h.2.2.2.2.2 i _ (List.getElem?_eq_getElem hlt)
 rw [hi] at f1
 simp at f1
 exact hp (f1 ▸ f3)
theorem zb1 {e:TypeId} {size n:Nat} {v:Value} {xs:List Value} (h:w.ownsRow B0 e size v n xs) {g:Nat} (hg:v.ownBlock=some g):g < w.heap.size:=by
 rcases h.2 with ⟨rfl,_⟩ | ⟨g',cap,cur,rfl,_,hh,_⟩
 ·cases hg
 ·obtain rfl:g'=g:=Option.some.inj hg
  rcases Nat.lt_or_ge g' w.heap.size with h | h
  ·exact h
  ·rw [Array.getElem?_eq_none h] at hh;cases hh
theorem zbi.push1 (h:zbi B0 ok M v1 v2 vs rows ps w) {v1':Value} {gr:Nat} {row:List Int} (hl:row.length=M) (hok:ok gr) (hlt:gr < w.heap.size) (n1:v1.ownBlock≠some gr) (n2:v2.ownBlock≠some gr) (hrd:Kit.Rd w (gr+1) (some ⟨gr,0,none⟩) (I16w row))
  (ho:w'.ownsRow B0 184 1 v1' (rows.length+1) (vs ++ [.slice (some ⟨gr,0,none⟩) M M])) (hg:w.grownBy w' v1.ownBlock) (hat:v1'.ownBlock=v1.ownBlock∨v1'.ownBlock=some w.heap.size) (hos:ok w.heap.size) :
  zbi B0 ok M v1' v2 (vs ++ [.slice (some ⟨gr,0,none⟩) M M]) (rows ++ [row]) ps w':=by
 obtain⟨a,b,c,d,e,f⟩:=h
 have hv2:∀ g,v2.ownBlock=some g→g < w.heap.size:=fun g hg2=>zb1 c hg2
 have hv2n:v2.ownBlock=none∨v2.ownBlock≠v1.ownBlock:=by
  cases hb:v1.ownBlock with
  | none=>cases hb2:v2.ownBlock with
    | none=>exact .inl rfl
    | some g=>exact .inr (by simp)
  | some g=>exact .inr (d g hb).2
 have hne:∀ g,g < w.heap.size→v1.ownBlock≠some g→v1'.ownBlock≠some g:=fun g hlt2 h1 e1=>by
  rcases hat with h2 | h2
  ·exact h1 (h2 ▸ e1)
  ·rw [h2] at e1;have:=Option.some.inj e1;omega
 refine⟨by simp [a],by simpa using ho,c.kept hg hv2n,fun g hg1=>?_,e,fun i r hi=>?_⟩
 ·rcases hat with h2 | h2
  ·rw [h2] at hg1;exact d g hg1
  ·rw [h2] at hg1
   obtain rfl:w.heap.size=g:=Option.some.inj hg1
   exact⟨hos,fun e2=>absurd (hv2 _ e2) (Nat.lt_irrefl _)⟩
 ·rcases Nat.lt_or_ge i rows.length with hi2 | hi2
  ·rw [List.getElem?_append_left hi2] at hi
   obtain⟨g,f1,f2,f3,f4,f5,f6,f7⟩:=f i r hi
   exact⟨g,by rw [List.getElem?_append_left (by omega)];exact f1,f2,f3,Nat.lt_of_lt_of_le f4 hg.size,hne g f4 f5,f6,rd_block f7 (hg.block g f4 (fun e=>f5 e.symm))⟩
  ·rw [List.getElem?_append_right hi2] at hi
   have hi3:i - rows.length=0:=by
    rcases Nat.lt_or_ge (i - rows.length) 1 with h8 | h8
    ·omega
    ·rw [List.getElem?_eq_none (by simpa using h8)] at hi;cases hi
   rw [hi3] at hi
   obtain rfl:row=r:=by simpa using hi
   exact⟨gr,by rw [List.getElem?_append_right (by omega),show i - vs.length=0 by omega];rfl,hl,hok,Nat.lt_of_lt_of_le hlt hg.size,hne gr hlt n1,n2,rd_block hrd (hg.block gr hlt (fun e=>n1 e.symm))⟩
theorem zbi.push2 (h:zbi B0 ok M v1 v2 vs rows ps w) {v2':Value} {p:Int}
  (ho:w'.ownsRow B0 3 1 v2' (ps.length+1) (I64v ps ++ [.int .i64 p])) (hg:w.grownBy w' v2.ownBlock) (hat:v2'.ownBlock=v2.ownBlock∨v2'.ownBlock=some w.heap.size) (hos:ok w.heap.size) :
  zbi B0 ok M v1 v2' vs rows (ps ++ [p]) w':=by
 obtain⟨a,b,c,d,e,f⟩:=h
 have hv1:∀ g,v1.ownBlock=some g→g < w.heap.size:=fun g hg2=>zb1 b hg2
 have hv1n:v1.ownBlock=none∨v1.ownBlock≠v2.ownBlock:=by
  cases hb:v1.ownBlock with
  | none=>exact .inl rfl
  | some g=>exact .inr (fun e2=>(d g hb).2 e2.symm)
 have hne:∀ g,g < w.heap.size→v2.ownBlock≠some g→v2'.ownBlock≠some g:=fun g hlt2 h1 e1=>by
  rcases hat with h2 | h2
  ·exact h1 (h2 ▸ e1)
  ·rw [h2] at e1;have:=Option.some.inj e1;omega
 refine⟨a,b.kept hg hv1n,?_,fun g hg1=>⟨(d g hg1).1,hne g (hv1 g hg1) (d g hg1).2⟩,fun g hg1=>?_,fun i r hi=>?_⟩
 ·have e9:I64v (ps ++ [p])=I64v ps ++ [.int .i64 p]:=by show (ps ++ [p]).map _=_;rw [List.map_append];rfl
  rw [e9,List.length_append];exact ho
 ·rcases hat with h2 | h2
  ·rw [h2] at hg1;exact e g hg1
  ·rw [h2] at hg1
   obtain rfl:w.heap.size=g:=Option.some.inj hg1
   exact hos
 ·obtain⟨g,f1,f2,f3,f4,f5,f6,f7⟩:=f i r hi
  exact⟨g,f1,f2,f3,Nat.lt_of_lt_of_le f4 hg.size,f5,hne g f4 f6,rd_block f7 (hg.block g f4 (fun e=>f6 e.symm))⟩
theorem zbi.rowsAt (h:zbi B0 ok M v1 v2 vs rows ps w) (hM:M≤maxLen):∃ A c,v1=.slice A rows.length c∧rows.length≤c∧c≤maxLen∧Kit.zbr w w.heap.size .i16 A rows:=by
 obtain⟨a,b,c,d,e,f⟩:=h
 obtain⟨A,cp,rfl,h1,h2,h3⟩:=Kit.zam b
 refine⟨A,cp,rfl,h1,h2,vs,a,h3,fun i row hi=>?_⟩
 obtain⟨g,f1,f2,f3,f4,_,_,f7⟩:=f i row hi
 exact⟨_,M,M,f2,f1,le_refl _,hM,f7.more f4⟩
theorem zbi.weaken (h:zbi B0 ok M v1 v2 vs rows ps w) {ok':Nat→Prop} (hk:∀ g,g < w.heap.size→ok g→ok' g):zbi B0 ok' M v1 v2 vs rows ps w:=by
 obtain⟨a,b,c,d,e,f⟩:=h
 refine⟨a,b,c,fun g hg=>⟨hk g (zb1 b hg) (d g hg).1,(d g hg).2⟩,fun g hg=>hk g (zb1 c hg) (e g hg),fun i row hi=>?_⟩
 obtain⟨g,f1,f2,f3,f4,f5,f6,f7⟩:=f i row hi
 exact⟨g,f1,f2,hk g f4 f3,f4,f5,f6,f7⟩
end
end CLane
end
section
namespace CJoin
open Plain CSat CFix CShape CTensor CConv
theorem one_to (x y:Int) (hx1 : -128≤x) (hx2:x≤127) (hy1 : -128≤y) (hy2:y≤127) (x0 x1 x2:Value) (K S P O Z Y:Int) (WA BA:Option Addr) (nW cW nB cB:Nat) (m1 s1 z1 m2 s2 z2 lo hi:Int) (hnb:NBd Z Y m1 z1 m2 z2 lo hi) (R:Int) (hR:oneZ x y Z Y m1 s1 z1 m2 s2 lo hi=R) (w:World) :
  Calls Tryz.prog 87 #[.int .i8 x,.int .i8 y,.agg #[x0,x1,x2,.int .i64 K,.int .i64 S,.int .i64 P,.int .i64 O,.int .i8 Z,.int .i8 Y,.slice WA nW cW,.slice BA nB cB,.int .i32 m1,.int .i64 s1,.int .i8 z1,.int .i32 m2,.int .i64 s2,.int .i8 z2,.int .i8 lo,.int .i8 hi]] w fun e w'=>e=.returned (.int .i8 R)∧Below w.heap.size w w':=by
 obtain⟨⟨hZ1,hZ2⟩,⟨hY1,hY2⟩,⟨hm3,hm1⟩,⟨hz1,hz2⟩,⟨hm4,hm2⟩,⟨hz3,hz4⟩,⟨hl1,hl2⟩,⟨hh1,hh2⟩⟩:=hnb
 cases hh:(za0 m1 s1 && za0 m2 s2)
 ·unfold oneZ at hR
  rw [hh,if_neg (by decide)] at hR
  subst hR
  have HH:=hid hh
  clear hh
  go_enter Tryz.func87,Tryz.ntmps87
  go_wp2_with (first
  | (go_at_call 85
     have hal:Below w.heap.size w (w.alloc (.cells #[x0,x1,x2,.int .i64 K,.int .i64 S,.int .i64 P,.int .i64 O,.int .i8 Z,.int .i8 Y,.slice WA nW cW,.slice BA nB cB,.int .i32 m1,.int .i64 s1,.int .i8 z1,.int .i32 m2,.int .i64 s2,.int .i8 z2,.int .i8 lo,.int .i8 hi] 44)):=(Below.refl _ _).alloc (by first | exact le_refl _ | (simp;done) | (simp;omega)) _
     refine (scales_to x0 x1 x2 K S P O Z Y WA BA nW cW nB cB m1 s1 z1 m2 s2 z2 lo hi _).mono ?_
     rintro e w1 ⟨rfl,hb⟩
     have hh:Below w.heap.size w w1:=hal.trans (hb.mono hal.size)
     have qTN:=(zai.new x0 x1 x2 (.int .i8 Y) (.int .i32 m1) (.int .i64 s1) (.int .i8 z1) (.int .i32 m2) (.int .i64 s2) (.int .i8 z2) (.int .i8 lo) (.int .i8 hi) K S P O Z WA BA nW cW nB cB 44) w
     try simp only [World.size_alloc] at qTN
     have TN:=hid (qTN.below (by first | (simp;done) | (simp;omega)) hb)
     have yTN:w.heap.size < w1.heap.size:=by have:=hb.size;simp at this;omega
     clear qTN
     have HBW:Hid (Below w.heap.size w w1):=hid hh
     rw [HH.out]
     clear hb hh hal)
  | (refine wpList_load_mid rfl 44 (.tmp 5) rfl (w.heap.size) 0 rfl [x0,x1,x2,.int .i64 K,.int .i64 S,.int .i64 P,.int .i64 O,.int .i8 Z,.int .i8 Y,.slice WA nW cW,.slice BA nB cB,.int .i32 m1,.int .i64 s1,.int .i8 z1,.int .i32 m2,.int .i64 s2,.int .i8 z2,.int .i8 lo,.int .i8 hi] _ (zai.new x0 x1 x2 (.int .i8 Y) (.int .i32 m1) (.int .i64 s1) (.int .i8 z1) (.int .i32 m2) (.int .i64 s2) (.int .i8 z2) (.int .i8 lo) (.int .i8 hi) K S P O Z WA BA nW cW nB cB 44 w) Tryz.underlying44 rfl (by kernel_rfl) ?_))
  go_ret
  exact⟨rfl,HBW.out⟩
 ·obtain⟨hr1,hr2⟩:za0 m1 s1=true∧za0 m2 s2=true:=by simpa using hh
  obtain⟨b1,b2⟩:=round_term hx1 hx2 hZ1 hZ2 hm1 hr1
  obtain⟨b3,b4⟩:=round_term hy1 hy2 hY1 hY2 hm2 hr2
  unfold oneZ at hR
  rw [hh,if_pos rfl] at hR
  obtain⟨t1,ht1⟩:∃ t1,zby ((x - Z) * m1) s1.toNat=t1:=⟨_,rfl⟩
  obtain⟨t2,ht2⟩:∃ t2,zby ((y - Y) * m2) s2.toNat=t2:=⟨_,rfl⟩
  rw [ht1] at b1 b2 hR
  rw [ht2] at b3 b4 hR
  have w1:IntKind.i64.wrap (t1+t2)=t1+t2:=IntWalk.i64_in _ (by omega)
  have w2:IntKind.i64.wrap (t1+t2+z1)=t1+t2+z1:=IntWalk.i64_in _ (by omega)
  have w3:IntKind.i64.wrap z1=z1:=IntWalk.i64_in _ (by omega)
  have HH:=hid hh
  have HR1:=hid hr1
  have HR2:=hid hr2
  have HT1:=hid ht1
  have HT2:=hid ht2
  have HC:=hid hR
  clear hh hr1 hr2 ht1 ht2 hR
  go_enter Tryz.func87,Tryz.ntmps87
  go_wp2_with (first
  | (go_at_call 85
     have hal:Below w.heap.size w (w.alloc (.cells #[x0,x1,x2,.int .i64 K,.int .i64 S,.int .i64 P,.int .i64 O,.int .i8 Z,.int .i8 Y,.slice WA nW cW,.slice BA nB cB,.int .i32 m1,.int .i64 s1,.int .i8 z1,.int .i32 m2,.int .i64 s2,.int .i8 z2,.int .i8 lo,.int .i8 hi] 44)):=(Below.refl _ _).alloc (by first | exact le_refl _ | (simp;done) | (simp;omega)) _
     refine (scales_to x0 x1 x2 K S P O Z Y WA BA nW cW nB cB m1 s1 z1 m2 s2 z2 lo hi _).mono ?_
     rintro e w1 ⟨rfl,hb⟩
     have hh:Below w.heap.size w w1:=hal.trans (hb.mono hal.size)
     have qTN:=(zai.new x0 x1 x2 (.int .i8 Y) (.int .i32 m1) (.int .i64 s1) (.int .i8 z1) (.int .i32 m2) (.int .i64 s2) (.int .i8 z2) (.int .i8 lo) (.int .i8 hi) K S P O Z WA BA nW cW nB cB 44) w
     try simp only [World.size_alloc] at qTN
     have TN:=hid (qTN.below (by first | (simp;done) | (simp;omega)) hb)
     have yTN:w.heap.size < w1.heap.size:=by have:=hb.size;simp at this;omega
     clear qTN
     have HBW:Hid (Below w.heap.size w w1):=hid hh
     rw [HH.out]
     clear hb hh hal)
  | (refine wpList_load_mid rfl 44 (.tmp 5) rfl (w.heap.size) 0 rfl [x0,x1,x2,.int .i64 K,.int .i64 S,.int .i64 P,.int .i64 O,.int .i8 Z,.int .i8 Y,.slice WA nW cW,.slice BA nB cB,.int .i32 m1,.int .i64 s1,.int .i8 z1,.int .i32 m2,.int .i64 s2,.int .i8 z2,.int .i8 lo,.int .i8 hi] _ (zai.new x0 x1 x2 (.int .i8 Y) (.int .i32 m1) (.int .i64 s1) (.int .i8 z1) (.int .i32 m2) (.int .i64 s2) (.int .i8 z2) (.int .i8 lo) (.int .i8 hi) K S P O Z WA BA nW cW nB cB 44 w) Tryz.underlying44 rfl (by kernel_rfl) ?_))
  refine wp_region_held_drew (S:=fun w'=>zai w.heap.size x0 x1 x2 (.int .i8 Y) (.int .i32 m1) (.int .i64 s1) (.int .i8 z1) (.int .i32 m2) (.int .i64 s2) (.int .i8 z2) (.int .i8 lo) (.int .i8 hi) K S P O Z WA BA nW cW nB cB w') (by kernel_rfl) TN.out (fun hHeld=>?_)
  replace HBW:Hid (Below w.heap.size w w1.drew):=hid HBW.out.drew
  clear TN
  replace yTN:w.heap.size < w1.drew.heap.size:=yTN
  generalize w1.drew=W1 at HBW yTN hHeld ⊢
  refine Tk.x 0 rfl ?_
  try simp only [Tk.put]
  refine Tk.x 1 rfl ?_
  try simp only [Tk.put]
  refine Tk.y 2 (v:=?_) rfl ?_ ?_
  rotate_left
  ·intro wS hSw
   have q7:=hSw.at 7 _ rfl
   clear hSw
   first | (go_simp;done) | (go_simp;with_reducible rfl)
  try simp only [Tk.put]
  refine Tk.x 3 rfl ?_
  try simp only [Tk.put]
  refine Tk.y 4 (v:=?_) rfl ?_ ?_
  rotate_left
  ·intro wS hSw
   have q11:=hSw.at 11 _ rfl;have q12:=hSw.at 12 _ rfl;have q13:=hSw.at 13 _ rfl
   clear hSw
   first | (go_simp;done) | (go_simp;with_reducible rfl)
  try simp only [Tk.put]
  refine Tk.x 6 rfl ?_
  try simp only [Tk.put]
  refine Tk.x 7 rfl ?_
  try simp only [Tk.put]
  refine Tk.y 8 (v:=?_) rfl ?_ ?_
  rotate_left
  ·intro wS hSw
   have q8:=hSw.at 8 _ rfl
   clear hSw
   first | (go_simp;done) | (go_simp;with_reducible rfl)
  try simp only [Tk.put]
  refine Tk.x 9 rfl ?_
  try simp only [Tk.put]
  refine Tk.y 10 (v:=?_) rfl ?_ ?_
  rotate_left
  ·intro wS hSw
   have q14:=hSw.at 14 _ rfl;have q15:=hSw.at 15 _ rfl;have q16:=hSw.at 16 _ rfl
   clear hSw
   first | (go_simp;done) | (go_simp;with_reducible rfl)
  try simp only [Tk.put]
  refine Tk.x 13 rfl ?_
  try simp only [Tk.put]
  refine Tk.x 14 rfl ?_
  try simp only [Tk.put]
  refine Tk.y 15 (v:=?_) rfl ?_ ?_
  rotate_left
  ·intro wS hSw
   have q13:=hSw.at 13 _ rfl
   clear hSw
   first | (go_simp;done) | (go_simp;with_reducible rfl)
  try simp only [Tk.put]
  refine Tk.x 16 rfl ?_
  try simp only [Tk.put]
  refine Tk.x 18 rfl ?_
  try simp only [Tk.put]
  refine Tk.y 19 (v:=?_) rfl ?_ ?_
  rotate_left
  ·intro wS hSw
   have q17:=hSw.at 17 _ rfl
   clear hSw
   first | (go_simp;done) | (go_simp;with_reducible rfl)
  try simp only [Tk.put]
  refine Tk.x 20 rfl ?_
  try simp only [Tk.put]
  refine Tk.y 21 (v:=?_) rfl ?_ ?_
  rotate_left
  ·intro wS hSw
   have q18:=hSw.at 18 _ rfl
   clear hSw
   first | (go_simp;done) | (go_simp;with_reducible rfl)
  try simp only [Tk.put]
  refine Tk.s 5 rfl (fun Kq hK=>?_)
  go_simp
  go_at_call 118
  refine (scaled_to x Z m1 s1 z1 t1 hx1 hx2 hZ1 hZ2 hm1 HR1.out HT1.out _).mono ?_
  rintro e W2 ⟨rfl,hb1⟩
  have hS1:zai w.heap.size x0 x1 x2 (.int .i8 Y) (.int .i32 m1) (.int .i64 s1) (.int .i8 z1) (.int .i32 m2) (.int .i64 s2) (.int .i8 z2) (.int .i8 lo) (.int .i8 hi) K S P O Z WA BA nW cW nB cB W2:=hHeld.below yTN hb1
  replace HBW:=hid (HBW.out.trans (hb1.mono HBW.out.size))
  replace yTN:=Nat.lt_of_lt_of_le yTN hb1.size
  clear hHeld hb1
  dsimp only
  refine hK.out _ _ ?_ (fun hHeld=>?_)
  ·exact hS1
  clear hK Kq
  try simp only [Tk.put]
  refine Tk.s 11 rfl (fun Kq hK=>?_)
  go_simp
  go_at_call 118
  refine (scaled_to y Y m2 s2 z2 t2 hy1 hy2 hY1 hY2 hm2 HR2.out HT2.out _).mono ?_
  rintro e W3 ⟨rfl,hb1⟩
  have hS1:zai w.heap.size x0 x1 x2 (.int .i8 Y) (.int .i32 m1) (.int .i64 s1) (.int .i8 z1) (.int .i32 m2) (.int .i64 s2) (.int .i8 z2) (.int .i8 lo) (.int .i8 hi) K S P O Z WA BA nW cW nB cB W3:=hHeld.below yTN hb1
  replace HBW:=hid (HBW.out.trans (hb1.mono HBW.out.size))
  replace yTN:=Nat.lt_of_lt_of_le yTN hb1.size
  clear hHeld hb1
  dsimp only
  refine hK.out _ _ ?_ (fun hHeld=>?_)
  ·exact hS1
  clear hK Kq
  try simp only [Tk.put]
  refine Tk.x 12 rfl ?_
  try simp only [Tk.put]
  refine Tk.x 17 rfl ?_
  try simp only [Tk.put]
  refine Tk.s 22 rfl (fun Kq hK=>?_)
  go_simp
  go_at_call 117
  refine (jclamp_to _ lo hi R HC.out hl1 hl2 hh1 hh2 _).mono ?_
  rintro e W4 ⟨rfl,rfl⟩
  dsimp only
  refine hK.out _ _ ?_ (fun hHeld=>?_)
  ·exact hHeld
  clear hK Kq
  try simp only [Tk.put]
  refine Tk.x 23 rfl ?_
  try simp only [Tk.put]
  refine wpAnyH_done (by kernel_rfl) ?_ _
  go_wp2_with fail
  go_ret
  exact⟨rfl,HBW.out⟩
end CJoin
end
end Go.Proofs.YtahekhpeomcfjaaGreatDoor
