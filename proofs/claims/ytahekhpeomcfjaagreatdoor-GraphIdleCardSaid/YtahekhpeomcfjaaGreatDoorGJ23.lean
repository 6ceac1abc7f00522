/- -/
import Derived.Test.YtahekhpeomcfjaaGreatDoorGJ22
open Go.Lib (hid)
open Nat (le_refl lt_of_succ_lt lt_succ_self)
set_option linter.unusedVariables false
set_option linter.unusedSimpArgs false
set_option maxRecDepth 100000
set_option maxHeartbeats 16000000
namespace Go.Proofs.YtahekhpeomcfjaaGreatDoor
namespace CSat
end CSat
namespace CShape
end CShape
namespace CTensor
end CTensor
open Go Go.ChangeShapes Go.WideShapes Go.ChangeAt Go.RowKit
section
namespace CPad
open Plain CSat CShape CTensor
theorem wpList_copy_row {P:Program} {w:World} {ops:Array Oper} {rest:List Oper} {o:Oper} {a:Act} {Q:Exit→Act→World→Prop} (hgd:o.guard=none) (d s:Operand) (dT sT:TypeId)
  (ho:o.op=.call { callee:=.builtin .copy,args:=#[d,s],argTypes:=#[dT,sT] }) (elem:TypeId) (hu:P.underlying dT=some (.slice elem)) (hsz:(P.info? elem).map (·.size)=some 1)
  (g off dLen dCap:Nat) (ad:Addr) (sLen sCap:Nat) (hd:a.eval d=.slice (some ⟨g,off,none⟩) dLen dCap) (hs:a.eval s=.slice (some ad) sLen sCap)
  (cur:List Value) (t:TypeId) (hg:w.heap[g]?=some (.cells cur.toArray t (0,0))) (cs:List Value) (hn:cs.length=Nat.min sLen dLen)
  (hsrc:∀ j v,cs[j]?=some v→w.cell? (ad.add j)=some v) (hfit:off+cs.length≤cur.length) (h1:∀ v∈cs,v.oneCell'=true)
  (h:∀ w',Hid (w'.heap[g]?=some (.cells (splice cur off cs).toArray t (0,0)))→w.grownBy w' (some g)→wpList P ops Q rest (a.put o.dst (goInt cs.length)) w') :
  wpList P ops Q (o :: rest) a w:=by
 refine wpList_copy_own hgd d s dT sT ho elem hu hsz g off dLen dCap ad sLen sCap hd hs cur.toArray t hg cs hn hsrc (by simpa using hfit) h1 ?_
 exact h _ (show _=_ by simpa [splice] using setRow_heap w g _ _ t _ hg) ⟨rfl,rfl,rfl,by simp [World.setRow],fun k _ hk=>setRow_other w g k _ (fun e=>hk (by rw [e]))⟩
theorem cell_grown {w w':World} {g:Nat} (hg:w.grownBy w' (some g)) {b o:Nat} {v:Value} (hb:b≠g) (h:w.cell? ⟨b,o,none⟩=some v):w'.cell? ⟨b,o,none⟩=some v :=
 hg.cell h (fun e=>hb (by injection e))
theorem zck {w w':World} {g:Nat} (hg:w.grownBy w' (some g)) {b o:Nat} (hl:b < w.heap.size) (hb:b≠g):w'.frozen? ⟨b,o,none⟩=w.frozen? ⟨b,o,none⟩ :=
 World.frozen?_of_block (hg.block b hl (fun e=>hb (by injection e)))
theorem rd_own {w:World} {base:Nat} {e:TypeId} {g n cap:Nat} {xs:List Value} (h:w.ownsRow base e 1 (.slice (some ⟨g,0,none⟩) n cap) n xs):∀ j v,xs[j]?=some v→w.cell? ((⟨g,0,none⟩:Addr).add j)=some v:=by
 intro j v hj
 have hl:xs.length=n:=by simpa using h.1
 have hjl:j < n:=by
  rcases Nat.lt_or_ge j xs.length with h1 | h1
  ·omega
  ·rw [List.getElem?_eq_none h1] at hj;cases hj
 have e:(⟨g,0,none⟩:Addr).add j=⟨g,j,none⟩:=by
  unfold Addr.add;split
  ·rename_i h;subst h;rfl
  ·simp
 rw [e,h.cellAt j (by omega)]
 exact hj
theorem own_other {w:World} {base:Nat} {e:TypeId} {g n cap:Nat} {xs:List Value} (h:w.ownsRow base e 1 (.slice (some ⟨g,0,none⟩) n cap) n xs) {w':World} {r:Nat} (hg:w.grownBy w' (some r)) (hr:g≠r):w'.ownsRow base e 1 (.slice (some ⟨g,0,none⟩) n cap) n xs :=
 h.kept hg (.inr (fun e=>hr (by injection e)))
def zcp (w:World) (U V C:Int) (g2 c2 m g6:Nat) (wr:World):Prop :=
 zau w.heap.size U V C wr∧zbm (w.heap.size+1) wr∧BoxAt g6 U V C (some ⟨g2,0,none⟩) m c2 wr∧Below w.heap.size w wr∧g6+2≤wr.heap.size
theorem zcp.below {w:World} {U V C:Int} {g2 c2 m g6 B':Nat} {w1 w2:World} (h:zcp w U V C g2 c2 m g6 w1) (h6:w.heap.size+2≤g6) (hB:g6 < B') (hb:Below B' w1 w2):zcp w U V C g2 c2 m g6 w2:=by
 obtain⟨a1,a2,a3,a4,a5⟩:=h
 exact⟨a1.below (by omega) hb,a2.below (by omega) hb,a3.below hB hb,a4.trans (hb.mono (by omega)),Nat.le_trans a5 hb.size⟩
theorem zcp.grown {w:World} {U V C:Int} {g2 c2 m g6:Nat} {w1 w2:World} (h:zcp w U V C g2 c2 m g6 w1) (h2:w.heap.size+2≤g2) (h6:g2 < g6) (hg:w1.grownBy w2 (some g2)):zcp w U V C g2 c2 m g6 w2:=by
 obtain⟨⟨a1,a2,a3⟩,⟨⟨b1,b2,b3,b4⟩,b5,b6,b7,b8⟩,⟨d1,d2,d3,d4⟩,a4,a5⟩:=h
 have hl:w.heap.size+1 < w1.heap.size:=by omega
 have k1:w.heap.size≠g2:=by omega
 have k2:w.heap.size+1≠g2:=by omega
 have k3:g6≠g2:=by omega
 exact⟨⟨cell_grown hg k1 a1,cell_grown hg k1 a2,cell_grown hg k1 a3⟩,⟨⟨cell_grown hg k2 b1,cell_grown hg k2 b2,cell_grown hg k2 b3,cell_grown hg k2 b4⟩,(zck hg hl k2).trans b5,(zck hg hl k2).trans b6,(zck hg hl k2).trans b7,(zck hg hl k2).trans b8⟩,
  ⟨cell_grown hg k3 d1,cell_grown hg k3 d2,cell_grown hg k3 d3,cell_grown hg k3 d4⟩,a4.grown hg (by omega) (fun k hk=>by injection hk;omega),Nat.le_trans a5 hg.size⟩
def zb5 (g L:Nat) (F:Nat→Int) (q i:Nat) (wr:World):Prop :=
 ∃ ys:List Int,ys.length=L∧(∀ j,j < i→ys[j]?=some (F (q+j)))∧wr.ownsRow g 39 1 (.slice (some ⟨g,0,none⟩) L L) L (I8s ys)
theorem zb5.below {g L:Nat} {F:Nat→Int} {q i:Nat} {w1 w2:World} (h:zb5 g L F q i w1) (hb:Below w1.heap.size w1 w2):zb5 g L F q i w2:=by
 obtain⟨ys,a1,a2,a3⟩:=h
 exact⟨ys,a1,a2,Kit.own_below a3 hb⟩
theorem zb5.other {g L:Nat} {F:Nat→Int} {q i r:Nat} {w1 w2:World} (h:zb5 g L F q i w1) (hg:w1.grownBy w2 (some r)) (hr:g≠r):zb5 g L F q i w2:=by
 obtain⟨ys,a1,a2,a3⟩:=h
 exact⟨ys,a1,a2,own_other a3 hg hr⟩
theorem zb5.any {g L:Nat} {F:Nat→Int} {q i:Nat} {w1:World} (h:zb5 g L F q i w1) (F':Nat→Int) (q':Nat):zb5 g L F' q' 0 w1:=by
 obtain⟨ys,a1,a2,a3⟩:=h
 exact⟨ys,a1,fun j hj=>absurd hj (Nat.not_lt_zero _),a3⟩
theorem zb5.cell {g L:Nat} {F:Nat→Int} {q i:Nat} {w1:World} (h:zb5 g L F q i w1) (j:Nat) (hj:j < L):(∃ y:Int,w1.cell? ⟨g,j,none⟩=some (.int .i8 y))∧w1.frozen? ⟨g,j,none⟩=false:=by
 obtain⟨ys,a1,a2,a3⟩:=h
 refine⟨⟨ys[j]'(by omega),?_⟩,a3.frozenAt j⟩
 rw [a3.cellAt j (by omega)]
 simp [I8s,List.getElem?_eq_getElem (show j < ys.length by omega)]
theorem zb5.set {g L:Nat} {F:Nat→Int} {q i:Nat} {w1:World} (h:zb5 g L F q i w1) (hi:i < L) (x:Int) (hx:F (q+i)=x):zb5 g L F q (i+1) (w1.setCell ⟨g,i,none⟩ (.int .i8 x)):=by
 obtain⟨ys,a1,a2,a3⟩:=h
 obtain⟨b1,b2⟩:=line_set a1 a2 hi hx
 have:=(a3.stored i (.int .i8 x)).1
 rw [I8s_set] at this
 exact⟨_,b1,b2,this⟩
theorem line_new (w:World) (L:Nat) (hL:L≤1024) (F:Nat→Int) (q:Nat):zb5 w.heap.size L F q 0 (w.alloc (.cells (madeCells #[.int .i8 0] L) 39)):=by
 refine⟨List.replicate L 0,by simp,fun j hj=>absurd hj (Nat.not_lt_zero _),?_⟩
 have h:=World.ownsRow_lit (base:=w.heap.size) (e:=39) (size:=1) w (madeCells #[.int .i8 0] L) L (le_refl _) (by unfold maxLen;omega) (by rw [size_madeCells];simp)
 have e:(madeCells #[Value.int .i8 0] L).toList=I8s (List.replicate L 0):=by rw [toList_madeCells_one];simp [I8s]
 rw [e] at h
 exact h
theorem setCell_grown (w:World) (g j:Nat) (u:Value):w.grownBy (w.setCell ⟨g,j,none⟩ u) (some g):=⟨rfl,rfl,rfl,by simp,fun k _ hk=>heap_setCell_other w ⟨g,j,none⟩ k u (fun e=>hk (by simp [e]))⟩
theorem build_no (U V C:Int) (hs:zad U V C=false) (f:Value) (w:World) :
  Calls Tryz.prog 92 #[.agg #[.int .i64 U,.int .i64 V,.int .i64 C],f] w fun e w'=>e=.returned (.tuple #[.agg #[.int .i64 0,.int .i64 0,.int .i64 0,.slice none 0 0],.int .i64 5])∧Below w.heap.size w w':=by
 have HS:=hid hs
 clear hs
 go_enter Tryz.func92,Tryz.ntmps92
 go_wp2_with (go_at_call 120;((refine (fill_no U V C 0 HS.out _).mono ?_);(rintro e w1 ⟨rfl,hb⟩;obtain⟨hc,hf⟩:=Kit.bcell hb;have hz:w.heap.size+2≤w1.heap.size:=(by have:=hb.size;simp at this;omega);have hz1:w.heap.size+1 < w1.heap.size:=(by omega);have HB:Hid (Below w.heap.size w w1):=hid (Below.trans (((Below.refl _ _).alloc (le_refl _) _).alloc (by simp) _) (hb.mono (by simp;omega)));clear hb)))
 refine bodyPost_ret (Kit.zaa rfl _ _ (w.heap.size+1) 0 [.int .i64 0,.int .i64 0,.int .i64 0,.slice none 0 0] _ rfl (zan (by go_cell) (by go_cell) (by go_cell) (by go_cell)) Tryz.underlying27 rfl (by kernel_rfl)) rfl ?_
 exact⟨rfl,((((HB.out.setCell (p:=⟨w.heap.size+1,0,none⟩) (by simp) _).setCell (p:=⟨w.heap.size+1,1,none⟩) (by simp) _).setCell (p:=⟨w.heap.size+1,2,none⟩) (by simp) _).setCell (p:=⟨w.heap.size+1,3,none⟩) (by simp) _).alloc (by simp;omega) _⟩
theorem build_yes (U V H W C:Int) (A:Option Addr) (zs:List Int) (n c:Nat) (hn:zs.length=n) (hc:n≤c) (ht:tensB H W C n=true) (hs:zad U V C=true) (a b d:Nat) (hU:U=(a:Int)) (hV:V=(b:Int)) (hC:C=(d:Int)) (m:Nat) (hm:a * b * d=m)
  (p q z:Int) (F:Nat→Int) (hF:∀ i j k:Nat,i < a→j < b→k < d→pixZ zs H W C (IntKind.i64.wrap ((i:Int) - p)) (IntKind.i64.wrap ((j:Int) - q)) (k:Int) z=F ((i * b+j) * d+k))
  {B Bz:Nat} (w:World) (hM:MovedAt B H W C A n c p q z w) (hB:B+4≤w.heap.size) (hBz:Bz≤w.heap.size) (hr:Kit.Rd w Bz A (I8s zs)) :
  Calls Tryz.prog 92 #[.agg #[.int .i64 U,.int .i64 V,.int .i64 C],movedF B] w (Made w U V C m (rowL F m) (.int .i64 0)):=by
 obtain⟨s1,s2,s3,s4,s5,s6,s7⟩:=zab hs
 have hmI:U * V * C=(m:Int):=by rw [hU,hV,hC, ← hm];simp
 have hpos:=(prod_bd s1 s2 s3 s4 s5 s6).1
 have hm2:m≤1024:=by omega
 have hm1:0 < m:=by omega
 obtain⟨L,hL⟩:∃ L,b * d=L:=⟨_,rfl⟩
 have haL:a * L=m:=by rw [← hL, ← Nat.mul_assoc];exact hm
 have hVC:V * C=(L:Int):=by rw [hV,hC, ← hL];simp
 have hL1:L≤1024:=by
  have:1≤a:=by omega
  have:=Nat.mul_le_mul_right L this
  omega
 have hL0:0 < L:=by
  rcases Nat.eq_zero_or_pos L with h | h
  ·rw [h] at haL;omega
  ·exact h
 have hLI:(L:Int)≤1024:=by omega
 have hmk:=run_make_row' (P:=Tryz.prog) 25 39 (.int .i8 0) 1 Tryz.underlying25 info_i8 rfl .i64 .i64 L (by omega) (by omega)
 have hsz:(Tryz.prog.info? 39).map (·.size)=some 1:=by kernel_rfl
 have HSZ:=hid hsz
 have HS:=hid hs
 have HMI:=hid hmI
 have HU:=hid hU
 have HV:=hid hV
 have HCd:=hid hC
 have HaL:=hid haL
 have HL:=hid hL
 have HF:=hid hF
 have HN:=hid hn
 have HT:=hid ht
 have HR:=hid hr
 have HM:=hid hM
 have hd1:1≤d:=by omega
 clear hsz hs hmI hU hV hC haL hL hF hn ht hr hM hpos hm s7
 unfold movedF
 go_enter Tryz.func92,Tryz.ntmps92
 go_wp2_with (go_at_call 120;(refine (fill_yes U V C 0 m HS.out HMI.out _).mono ?_);(rintro e w1 ⟨v1,rfl,ho1,hb⟩;obtain⟨g2,c2,rfl,hc2,hcm,hgb,hgs⟩:=own_nonempty ho1 hm1;obtain⟨hcc,hff⟩:=Kit.bcell hb;have HO:=hid ho1;have hz:w.heap.size+2≤w1.heap.size:=(by have:=hb.size;simp at this;omega);have hz1:w.heap.size+1 < w1.heap.size:=(by omega);have hz0:w.heap.size < w1.heap.size:=(by omega);have HB:=hid hb;clear hb ho1))
 clear hcc hff
 rw [World.size_alloc,World.size_alloc] at hgb
 have hO0:=HO.out
 rw [World.size_alloc,World.size_alloc] at hO0
 have HO:Hid (((w1.alloc (.cells #[.int .i64 U,.int .i64 V,.int .i64 C,.slice (some ⟨g2,0,none⟩) m c2] 27)).alloc (.cells (madeCells #[.int .i8 0] L) 39)).ownsRow (w.heap.size+2) 39 1 (.slice (some ⟨g2,0,none⟩) m c2) m (dataL F m 0)):=by
  rw [dataL_zero]
  exact hid ((hO0.alloc _).alloc _)
 clear hO0
 have HLN:Hid (zb5 (w1.heap.size+1) L F 0 0 ((w1.alloc (.cells #[.int .i64 U,.int .i64 V,.int .i64 C,.slice (some ⟨g2,0,none⟩) m c2] 27)).alloc (.cells (madeCells #[.int .i8 0] L) 39))):=by
  have:=line_new (w1.alloc (.cells #[.int .i64 U,.int .i64 V,.int .i64 C,.slice (some ⟨g2,0,none⟩) m c2] 27)) L hL1 F 0
  rw [World.size_alloc] at this
  exact hid this
 have HW:Hid (zcp w U V C g2 c2 m w1.heap.size ((w1.alloc (.cells #[.int .i64 U,.int .i64 V,.int .i64 C,.slice (some ⟨g2,0,none⟩) m c2] 27)).alloc (.cells (madeCells #[.int .i8 0] L) 39))):=by
  have hb:=HB.out
  have e2:((w.alloc (.cells #[.int .i64 U,.int .i64 V,.int .i64 C] 24)).alloc (.cells #[.int .i64 0,.int .i64 0,.int .i64 0,.slice none 0 0] 27)).heap.size=w.heap.size+2:=by simp
  have hb9:Below w1.heap.size w1 ((w1.alloc (.cells #[.int .i64 U,.int .i64 V,.int .i64 C,.slice (some ⟨g2,0,none⟩) m c2] 27)).alloc (.cells (madeCells #[.int .i8 0] L) 39)):=((Below.refl _ _).alloc (le_refl _) _).alloc (by simp) _
  have hS:=((((zau.new U V C 24 w).below (lt_succ_self _) ((Below.refl _ _).alloc (by simp) (.cells #[.int .i64 0,.int .i64 0,.int .i64 0,.slice none 0 0] 27))).below (B':=w.heap.size+2) (by omega) (by rw [e2] at hb;exact hb))).below hz0 hb9
  have hFr:=((zbm.new 27 (w.alloc (.cells #[.int .i64 U,.int .i64 V,.int .i64 C] 24)) (w.heap.size+1) (by simp)).below (B':=w.heap.size+2) (by omega) (by rw [e2] at hb;exact hb)).below hz1 hb9
  have hBx:=(BoxAt.new U V C (some ⟨g2,0,none⟩) m c2 27 w1).below (lt_succ_self _) ((Below.refl _ _).alloc (by simp) (.cells (madeCells #[.int .i8 0] L) 39))
  exact hid ⟨hS,hFr,hBx,((((Below.refl _ _).alloc (le_refl _) _).alloc (by simp) _).trans (hb.mono (by simp;omega))).trans (hb9.mono (by omega)),by simp⟩
 generalize (w1.alloc (.cells #[.int .i64 U,.int .i64 V,.int .i64 C,.slice (some ⟨g2,0,none⟩) m c2] 27)).alloc (.cells (madeCells #[.int .i8 0] L) 39)=Wm at HO HLN HW ⊢
 clear HB
 generalize w1.heap.size=g6 at HO HLN HW hz hz1 hz0 hgs ⊢
 go_loopw [28] (fun x wr=>∃ (i q0:Nat),i≤a∧x=.int .i64 i∧Hid (zcp w U V C g2 c2 m g6 wr)∧Hid (wr.ownsRow (w.heap.size+2) 39 1 (.slice (some ⟨g2,0,none⟩) m c2) m (dataL F m (i * L)))∧Hid (zb5 (g6+1) L F q0 0 wr)) (fun x _=>a - (intOf x).toNat)
 case atStart=>exact⟨0,0,Nat.zero_le _,rfl,HW,by rw [Nat.zero_mul];exact HO,HLN⟩
 case round =>
  obtain⟨i,q0,hi,rfl,hW0,hO0,hL0'⟩:=hrel
  clear HW HO HLN
  obtain⟨⟨a1,a2,a3⟩,⟨⟨z0,z1,z2,z3⟩,z4,z5,z6,z7⟩,⟨b0,b1,b2,b3⟩,hbw,hsz⟩:=hW0.out
  have HBW:=hid hbw
  clear hbw
  by_cases hlt:i < a
  ·have hiI:(i:Int) < U:=by have:=HU.out;omega
   have hi0:(0:Int)≤(i:Int):=by omega
   have hiI2:(i:Int)≤16:=by omega
   obtain⟨o,ho⟩:∃ o,i * L=o:=⟨_,rfl⟩
   have hoI:(i:Int) * (L:Int)=(o:Int):=by rw [← ho];simp
   have hom:o+L≤m:=by
    have:=Nat.mul_le_mul_right L hlt
    rw [Nat.succ_mul,HaL.out,ho] at this
    exact this
   rw [ho] at hO0
   have HOI:=hid hoI
   have HOO:=hid ho
   replace hL0':=hid (hL0'.out.any F o)
   clear hoI ho
   go_wp2_with fail
   go_loopw [33] (fun x wr=>∃ (j:Nat),j≤L∧x=.int .i64 j∧Hid (zcp w U V C g2 c2 m g6 wr)∧Hid (wr.ownsRow (w.heap.size+2) 39 1 (.slice (some ⟨g2,0,none⟩) m c2) m (dataL F m o))∧Hid (zb5 (g6+1) L F o j wr)) (fun x _=>L - (intOf x).toNat)
   case atStart=>exact⟨0,Nat.zero_le _,rfl,hW0,hO0,hL0'⟩
   case round =>
    obtain⟨j,hj,rfl,hW1,hO1,hL1'⟩:=hrel
    clear hW0 hO0 hL0' a1 a2 a3 z0 z1 z2 z3 z4 z5 z6 z7 b0 b1 b2 b3 hsz HBW
    obtain⟨hSh, -,⟨b0,b1,b2,b3⟩,hbw,hsz⟩:=hW1.out
    have HBW:=hid hbw
    clear hbw
    by_cases hltj:j < L
    ·have hjI:(j:Int) < (L:Int):=by omega
     have hj0:(0:Int)≤(j:Int):=by omega
     obtain⟨y,hy⟩:∃ y,j / d=y:=⟨_,rfl⟩
     obtain⟨k,hk⟩:∃ k,j % d=k:=⟨_,rfl⟩
     have hkd:k < d:=by rw [← hk];exact Nat.mod_lt _ hd1
     have hyb:y < b:=by rw [← hy];exact Nat.div_lt_of_lt_mul (by rw [Nat.mul_comm,HL.out];exact hltj)
     have hjy:y * d+k=j:=by rw [← hy, ← hk,Nat.mul_comm];exact Nat.div_add_mod j d
     obtain⟨x,hx⟩:∃ x,F (o+j)=x:=⟨_,rfl⟩
     have hF1:pixZ zs H W C (IntKind.i64.wrap ((i:Int) - p)) (IntKind.i64.wrap ((y:Int) - q)) (k:Int) z=x:=by
      rw [HF.out i y k hlt hyb hkd, ← hx, ← HOO.out, ← HL.out,Nat.add_mul,Nat.mul_assoc,Nat.add_assoc,hjy]
     have HX:=hid hF1
     have HXX:=hid hx
     have hqt:((j:Int)).tdiv C=(y:Int):=by rw [HCd.out,Int.tdiv_eq_ediv_of_nonneg hj0, ← hy];rfl
     have hrt:((j:Int)).tmod C=(k:Int):=by rw [HCd.out,Int.tmod_eq_emod_of_nonneg hj0, ← hk];rfl
     have hwy:IntKind.i64.wrap (y:Int)=(y:Int):=IntWalk.i64_in _ (by have:=HV.out;omega)
     have hwk:IntKind.i64.wrap (k:Int)=(k:Int):=IntWalk.i64_in _ (by have:=HCd.out;omega)
     have hC0:¬ C=0:=by omega
     have hkC:(k:Int) < C:=by have:=HCd.out;omega
     have hk0:(0:Int)≤(k:Int):=by omega
     have hHWc:n≤c:=hc
     clear hF1 hx hy hk hjy b0 b1 b2 b3
     go_wp2_with fail
     refine wp_region_held_drew (S:=zau w.heap.size U V C) (by kernel_rfl) hSh (fun hHeld=>?_)
     clear hSh
     replace HBW:=hid HBW.out.drew
     have hW2:Hid (zcp w U V C g2 c2 m g6 wr.drew):=hid (hW1.out.below (B':=g6+1) hz (by omega) (Below.refl _ _).drew)
     have hO2:Hid (wr.drew.ownsRow (w.heap.size+2) 39 1 (.slice (some ⟨g2,0,none⟩) m c2) m (dataL F m o)):=hid (Kit.own_below hO1.out (Below.refl _ _).drew)
     have hL2:Hid (zb5 (g6+1) L F o j wr.drew):=hid (hL1'.out.below (Below.refl _ _).drew)
     have hsz:g6+2≤wr.drew.heap.size:=hsz
     clear hW1 hO1 hL1'
     generalize wr.drew=Wa at HBW hW2 hO2 hL2 hsz hHeld ⊢
     refine Tk.x 0 rfl ?_
     try simp only [Tk.put]
     refine Tk.x 1 rfl ?_
     try simp only [Tk.put]
     refine Tk.x 2 rfl ?_
     try simp only [Tk.put]
     refine Tk.x 3 rfl ?_
     try simp only [Tk.put]
     refine Tk.x 4 rfl ?_
     try simp only [Tk.put]
     refine Tk.x 5 rfl ?_
     try simp only [Tk.put]
     refine Tk.y 6 (v:=?_) rfl ?_ ?_
     rotate_left
     ·intro wS hSw
      obtain⟨s1,s2,s3⟩:=hSw
      first | (go_simp;done) | (go_simp;with_reducible rfl)
     try simp only [Tk.put]
     refine Tk.x 7 rfl ?_
     try simp only [Tk.put]
     refine Tk.x 8 rfl ?_
     try simp only [Tk.put]
     refine Tk.x 9 rfl ?_
     try simp only [Tk.put]
     refine Tk.y 10 (v:=?_) rfl ?_ ?_
     rotate_left
     ·intro wS hSw
      obtain⟨s1,s2,s3⟩:=hSw
      first | (go_simp;done) | (go_simp;with_reducible rfl)
     try simp only [Tk.put]
     refine Tk.x 11 rfl ?_
     try simp only [Tk.put]
     refine Tk.s 12 rfl (fun K hK=>?_)
     go_simp
     go_at_call 121
     refine (moved1_to H W C A zs n c HN.out hHWc HT.out (i:Int) (y:Int) (k:Int) p q z _ _ rfl rfl hk0 hkC x HX.out (B:=B) (Bz:=Bz) _ (HM.out.below hB HBW.out) (Nat.le_trans hB HBW.out.size) (Nat.le_trans hBz HBW.out.size) (HR.out.below (HBW.out.mono hBz))).mono ?_
     rintro e Wb ⟨rfl,hb1⟩
     have hS1:=hHeld.below (B':=_) (by omega) hb1
     replace hW2:=hid (hW2.out.below hz (by omega) hb1)
     replace hO2:=hid (Kit.own_below hO2.out hb1)
     replace hL2:=hid (hL2.out.below hb1)
     replace hsz:=Nat.le_trans hsz hb1.size
     obtain⟨⟨y0,hcl⟩,hfz⟩:=hL2.out.cell j hltj
     clear hb1 hHeld HBW
     dsimp only
     refine hK.out _ _ ?_ (fun hHeld=>?_)
     ·exact hS1
     clear hK K
     try simp only [Tk.put]
     refine Tk.x 13 rfl ?_
     try simp only [Tk.put]
     have hW3:=hid (hW2.out.below (B':=g6+1) hz (by omega) ((Below.refl _ _).setCell (p:=⟨g6+1,j,none⟩) (le_refl _) (.int .i8 x)))
     have hO3:=hid (own_other hO2.out (setCell_grown _ (g6+1) j (.int .i8 x)) (by omega))
     have hL3:=hid (hL2.out.set hltj x HXX.out)
     clear hW2 hO2 hL2
     refine Tk.s 14 rfl (fun K hK=>?_)
     go_simp
     refine hK.out _ _ ?_ (fun hHeld=>?_)
     ·exact hW3.out.1
     clear hK K
     try simp only [Tk.put]
     refine wpAnyH_done (by kernel_rfl) ?_ _
     clear hcl hfz hqt hrt hwy hwk
     go_wp2_with fail
     go_roundw
     case rel=>exact⟨j+1,by omega,by go_num,hW3,hO3,hL3⟩
     case measure=>simp [intOf];omega
    ·obtain rfl:j=L:=by omega
     obtain⟨ys,hy1,hy2,hown⟩:=hL1'.out
     obtain⟨rest,hheap,hgb2, -, -,hrl,hdl⟩:=own_heap hO1.out
     have hfit:o+(I8s ys).length≤(dataL F m o).length:=by rw [hdl];simp [I8s];omega
     have hlen:o+(I8s ys).length≤(dataL F m o ++ rest).length:=by rw [List.length_append];omega
     have hysl:(I8s ys).length=j:=by simp [I8s];exact hy1
     have hspl:splice (dataL F m o ++ rest) o (I8s ys)=dataL F m (o+j) ++ rest:=by rw [splice_front hfit,dataL_splice F ys hy1 hy2 hom]
     have hmn:j=Nat.min j (m - o):=by
      have:Nat.min j (m - o)=min j (m - o):=rfl
      omega
     have HHP:=hid hheap
     have HY1:=hid hysl
     have HLE:=hid hlen
     have HSP:=hid hspl
     have HMN:=hid hmn
     have HOW:=hid hown
     have HRL:=hid hrl
     have HGB:=hid hgb2
     have hoI:(i:Int) * (j:Int)=(o:Int):=HOI.out
     have hoI1:(o:Int)≤1024:=by omega
     have hoI0:(0:Int)≤(o:Int):=by omega
     have hom1:(o:Int)≤(m:Int):=by omega
     have hoc1:(o:Int)≤(c2:Int):=by omega
     have hoc2:¬ c2=o:=by omega
     have hoc3:¬ o=c2:=by omega
     clear hheap hy1 hy2 hown hrl hdl hfit hlen hysl hspl hmn hgb2
     go_wp2_with (
      refine wpList_copy_row rfl (.tmp 57) (.tmp 58) _ _ rfl 39 Tryz.underlying25 HSZ.out g2 o (m - o) (c2 - o) ⟨g6+1,0,none⟩ j j (by first | rfl | simp) (by first | rfl | simp) (dataL F m o ++ rest) 39 HHP.out (I8s ys) (HY1.out.trans HMN.out) (rd_own HOW.out) HLE.out (Kit.zbj .i8 ys) ?_
      intro w5 hg5 hgr5
      have HG5:Hid (w5.heap[g2]?=some (.cells (dataL F m (o+j) ++ rest).toArray 39 (0,0))):=(by have:=hg5.out;rw [HSP.out] at this;exact hid this)
      have hW5:=hid (hW1.out.grown (by omega) hgs hgr5)
      have hL5:=hid (hL1'.out.other hgr5 (by omega))
      rw [HY1.out]
      clear hg5 hgr5)
     go_roundw
     case rel =>
      refine⟨i+1,o,by omega,by go_num,hW5,?_,hid (hL5.out.any F o)⟩
      have e:(i+1) * j=o+j:=by rw [Nat.succ_mul,HOO.out]
      rw [e]
      exact hid (own_of_heap HG5.out HGB.out hc2 hcm (by have h1:=HRL.out;rw [List.length_append,dataL_len F (by omega)] at h1 ⊢;exact h1) (dataL_len F hom))
     case measure=>simp [intOf];omega
  ·obtain rfl:i=a:=by omega
   have hiI:¬ (i:Int) < U:=by have:=HU.out;omega
   rw [HaL.out,dataL_all] at hO0
   have hz6:w.heap.size+1 < g6:=by omega
   have hn1:¬ g6=w.heap.size+1:=by omega
   have hn2:¬ w.heap.size+1=g6:=by omega
   go_wp2_with fail
   refine bodyPost_ret (Kit.zaa rfl _ _ (w.heap.size+1) 0 [.int .i64 U,.int .i64 V,.int .i64 C,.slice (some ⟨g2,0,none⟩) m c2] _ rfl (zan (by go_cell) (by go_cell) (by go_cell) (by go_cell)) Tryz.underlying27 rfl (by kernel_rfl)) rfl ?_
   refine⟨_,rfl,Kit.zah (zat (zat (zat (zat hO0.out _ _ ?_) _ _ ?_) _ _ ?_) _ _ ?_) ?_,?_⟩
   any_goals (first | omega | (simp;done) | (simp;omega))
   exact (((HBW.out.setCell (p:=⟨w.heap.size+1,0,none⟩) (by simp) _).setCell (p:=⟨w.heap.size+1,1,none⟩) (by simp) _).setCell (p:=⟨w.heap.size+1,2,none⟩) (by simp) _).setCell (p:=⟨w.heap.size+1,3,none⟩) (by simp) _
end CPad
end
end Go.Proofs.YtahekhpeomcfjaaGreatDoor
