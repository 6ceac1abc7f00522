/- -/
import Derived.Test.YtfgdfignoakkaaaGreatDoorGBT22
open Go.Lib (hid)
open Nat (le_refl lt_of_succ_lt lt_succ_self)
set_option linter.unusedVariables false
set_option linter.unusedSimpArgs false
set_option maxRecDepth 100000
set_option maxHeartbeats 16000000
namespace Go.Proofs.YtfgdfignoakkaaaGreatDoor
namespace CConv
end CConv
namespace CFix
end CFix
namespace CGraph
end CGraph
namespace CKind
end CKind
namespace CSat
end CSat
namespace CShape
end CShape
namespace CTensor
end CTensor
namespace Kit
end Kit
open Go Go.ChangeShapes Go.WideShapes Go.ChangeAt Go.RowKit Go.Deep
section
namespace CBunM
open Kit Plain CSat CShape CTensor CConv CKind CGraph CBund
def CBox (s b:Nat) (xs:List Value) (w:World):Prop:=w.rangeAt b 0 xs∧w.there b 0 s
theorem CBox.new (xs:List Value) (T:TypeId) (w:World):CBox xs.length w.heap.size xs (w.alloc (.cells xs.toArray T)):=by
 refine⟨fun j v hj=>?_,fun j hj=>?_⟩
 ·rw [Nat.zero_add,Kit.zab]
  simpa using hj
 ·rw [Nat.zero_add]
  constructor
  ·rw [Kit.zab]
   simp [hj]
  ·unfold World.frozen?;rw [heap_alloc_new];rfl
theorem CBox.keep {s b:Nat} {xs:List Value} {w w':World} (h:CBox s b xs w) (hk:Kept b (b+1) w w'):CBox s b xs w' :=
 ⟨fun j v hj=>(hk _ _ (le_refl _) (lt_succ_self _)).1.trans (h.1 j v hj),fun j hj=>⟨by rw [(hk _ _ (le_refl _) (lt_succ_self _)).1];exact (h.2 j hj).1,by rw [(hk _ _ (le_refl _) (lt_succ_self _)).2];exact (h.2 j hj).2⟩⟩
theorem CBox.below {s b B:Nat} {xs:List Value} {w w':World} (h:CBox s b xs w) (hB:b < B) (hb:Below B w w'):CBox s b xs w':=h.keep (Kept.of_below hb hB)
theorem CBox.at {s b:Nat} {xs:List Value} {w:World} (h:CBox s b xs w) (i:Nat) (v:Value) (hi:xs[i]?=some v):w.cell? ⟨b,i,none⟩=some v:=by
 have:=h.1 i v hi
 rwa [Nat.zero_add] at this
theorem uinfo_sz:(Tryz.prog.info? 26).map (·.size)=some 5:=by kernel_rfl
theorem bu_all (x:Bu):x.val.toArray.all (·.oneCell')=true:=by simp [Bu.val,Value.oneCell']
theorem bu_store {ops:Array Oper} {rest:List Oper} {op:Oper} {a:Act} {w:World} {Q:Exit→Act→World→Prop} (hgd:op.guard=none) (x y:Operand) (ho:op.op=.store 26 x y)
  (b:Nat) (us:List Value) (v:Bu) (hx:a.eval x=.pointer (some ⟨b,0,none⟩)) (hy:a.eval y=.agg v.val.toArray) (hb:CBox 5 b us w)
  (h:∀ w',CBox 5 b v.val w'→Below b w w'→(∀ k,k≠b→w'.heap[k]?=w.heap[k]?)→w'.heap.size=w.heap.size→wpList Tryz.prog ops Q rest (a.put op.dst undef) w'):wpList Tryz.prog ops Q (op :: rest) a w:=by
 refine wpList_store_mid hgd 26 x y ho b 0 v.val.toArray hx hy hb.2 uinfo_sz (bu_all v) ?_
 have go:∀ (vs:List Value) (o:Nat) (w:World),Below b w (w.setCells b o vs)∧(∀ k,k≠b→(w.setCells b o vs).heap[k]?=w.heap[k]?)∧(w.setCells b o vs).heap.size=w.heap.size:=by
  intro vs
  induction vs with
  | nil=>intro o w;exact⟨Below.refl _ _,fun _ _=>rfl,rfl⟩
  | cons v vs ih=>intro o w;exact⟨((Below.refl b w).setCell (p:=⟨b,o,none⟩) (le_refl _) v).trans (ih (o+1) _).1,fun k hk=>((ih (o+1) (w.setCell ⟨b,o,none⟩ v)).2.1 k hk).trans (Below.heap_setCell w ⟨b,o,none⟩ v k hk),(ih (o+1) (w.setCell ⟨b,o,none⟩ v)).2.2.trans (by simp [World.setCell])⟩
 exact h _ ⟨World.rangeAt_setCells_same _ _ _ _ hb.2,World.there_setCells hb.2 _ _ _⟩ (go _ _ _).1 (go _ _ _).2.1 (go _ _ _).2.2
theorem bu_load {ops:Array Oper} {rest:List Oper} {op:Oper} {a:Act} {w:World} {Q:Exit→Act→World→Prop} (hgd:op.guard=none) (x:Operand) (ho:op.op=.load 26 x)
  (b:Nat) (u:Bu) (hx:a.eval x=.pointer (some ⟨b,0,none⟩)) (hb:w.rangeAt b 0 u.val)
  (h:wpList Tryz.prog ops Q rest (a.put op.dst (.agg u.val.toArray)) w):wpList Tryz.prog ops Q (op :: rest) a w :=
 wpList_load_mid hgd 26 x ho b 0 hx u.val _ hb Tryz.underlying26 rfl (by kernel_rfl) h
end CBunM
end
section
namespace CSpan
open Go Go.ChangeShapes Go.WideShapes Go.ChangeAt Go.RowKit
open Plain CSat CFix CShape CTensor CConv
def pairV (P Q:Nat→Int):Nat→List Value
 | 0=>[]
 | n+1=>pairV P Q n ++ [.int .i64 (P n),.int .i64 (Q n)]
theorem pairV_len (P Q:Nat→Int) (n:Nat):(pairV P Q n).length=n * 2:=by
 induction n with
 | zero=>rfl
 | succ n ih=>simp only [pairV,List.length_append,ih,List.length_cons,List.length_nil];omega
theorem zbu (P Q:Nat→Int) {n k:Nat} (h:k < n):(pairV P Q n)[k * 2]?=some (.int .i64 (P k))∧(pairV P Q n)[k * 2+1]?=some (.int .i64 (Q k)):=by
 induction n with
 | zero=>omega
 | succ n ih =>
   have hl:=pairV_len P Q n
   by_cases e:k=n
   ·subst e
    simp only [pairV]
    rw [List.getElem?_append_right (by omega),List.getElem?_append_right (by omega),hl,Nat.sub_self,show k * 2+1 - k * 2=1 by omega]
    exact⟨rfl,rfl⟩
   ·obtain⟨h1,h2⟩:=ih (by omega)
    simp only [pairV]
    rw [List.getElem?_append_left (by omega),List.getElem?_append_left (by omega)]
    exact⟨h1,h2⟩
theorem rd_pair {w:World} {B:Nat} {A:Option Addr} {P Q:Nat→Int} {n:Nat} (h:Kit.Rd w B A (pairV P Q n)) (hn:0 < n) :
  ∃ b o,A=some ⟨b,o,none⟩∧b < B∧∀ k,k < n→w.cell? ⟨b,o+k * 2,none⟩=some (.int .i64 (P k))∧w.cell? ⟨b,o+k * 2+1,none⟩=some (.int .i64 (Q k)):=by
 obtain⟨b,o,e,hb,hc⟩:=h.plain (by rw [pairV_len];omega)
 exact⟨b,o,e,hb,fun k hk=>⟨hc _ _ (zbu P Q hk).1,by rw [Nat.add_assoc];exact hc _ _ (zbu P Q hk).2⟩⟩
def holdF (P Q:Nat→Int):Nat→Bool
 | 0=>true
 | k+1=>holdF P Q k && (decide (-2147483648≤P k) && decide (Q k≤2147483647))
theorem holdF_iff (P Q:Nat→Int) (n:Nat):holdF P Q n=true↔∀ k,k < n → -2147483648≤P k∧Q k≤2147483647:=by
 induction n with
 | zero=>simp [holdF]
 | succ n ih =>
   simp only [holdF,Bool.and_eq_true,decide_eq_true_eq,ih]
   constructor
   ·intro h k hk
    by_cases e:k=n
    ·subst e;exact h.2
    ·exact h.1 k (by omega)
   ·intro h
    exact⟨fun k hk=>h k (by omega),h n (by omega)⟩
def loF (P:Nat→Int):Nat→Int
 | 0=>0
 | k+1=>min (if k=0 then P 0 else loF P k) (P k)
def hiF (Q:Nat→Int):Nat→Int
 | 0=>0
 | k+1=>max (if k=0 then Q 0 else hiF Q k) (Q k)
theorem loF_one (P:Nat→Int):loF P 1=P 0:=by simp [loF]
theorem hiF_one (Q:Nat→Int):hiF Q 1=Q 0:=by simp [hiF]
theorem loF_more (P:Nat→Int) {k:Nat} (h:0 < k):loF P (k+1)=min (loF P k) (P k):=by simp only [loF];rw [if_neg (by omega)]
theorem hiF_more (Q:Nat→Int) {k:Nat} (h:0 < k):hiF Q (k+1)=max (hiF Q k) (Q k):=by simp only [hiF];rw [if_neg (by omega)]
end CSpan
end
section
namespace CSpan
open Plain CSat CFix CShape CTensor CConv
theorem chld_to (a m s z lo hi t:Int) (hm1 : -2147483648≤m) (hm2:m≤2147483647) (hz1 : -128≤z) (hz2:z≤127) (hl1 : -128≤lo) (hl2:lo≤127) (hh1 : -128≤hi) (hh2:hi≤127) (ht:heldZ (c32 a) m s z lo hi=t) (w:World) :
  Calls Tryz.prog 188 #[.int .i64 a,.agg #[.int .i32 m,.int .i64 s,.int .i8 z],.int .i8 lo,.int .i8 hi] w fun e w'=>e=.returned (.int .i8 t)∧Below w.heap.size w w':=by
 obtain⟨a1,a2⟩:=c32_bd a
 obtain⟨ma,hma⟩:∃ x,(if a < -2147483648 then -2147483648 else a)=x:=⟨_,rfl⟩
 have hca:(if 2147483647 < ma then 2147483647 else ma)=c32 a:=by rw [← hma,max_ite,min_ite];rfl
 generalize c32 a=ca at *
 have e1:IntKind.i32.wrap ca=ca:=IntWalk.i32_in _ (by omega)
 have c1:=fun (w:World)=>held ca m s z lo hi a1 a2 hm1 hm2 hz1 hz2 hl1 hl2 hh1 hh2 w
 rw [ht] at c1
 have C1:=hid c1
 have hal:Below w.heap.size w (w.alloc (.cells #[.int .i32 m,.int .i64 s,.int .i8 z] 52)):=(Below.refl _ _).alloc (le_refl _) _
 have HAL:=hid hal
 clear ht c1 hal
 go_enter Tryz.func188,Tryz.ntmps188
 go_wp2_with (go_at_call 183;(refine (C1.out _).mono ?_);rintro e w1 ⟨rfl,hb⟩)
 go_ret
 exact⟨rfl,HAL.out.trans (hb.mono HAL.out.size)⟩
def AftAt (g:Nat) (a b m s z:Int) (w:World):Prop :=
 (w.cell? ⟨g,0,none⟩=some (.int .i64 a)∧w.cell? ⟨g,1,none⟩=some (.int .i64 b))∧(w.cell? ⟨g+1,0,none⟩=some (.int .i32 m)∧w.cell? ⟨g+1,1,none⟩=some (.int .i64 s)∧w.cell? ⟨g+1,2,none⟩=some (.int .i8 z))
theorem AftAt.below {g:Nat} {a b m s z:Int} {w w':World} (h:AftAt g a b m s z w) {B:Nat} (hB:g+1 < B) (hb:Below B w w'):AftAt g a b m s z w':=by
 obtain⟨⟨h1,h2⟩,h3,h4,h5⟩:=h
 exact⟨⟨(hb.cell (p:=⟨g,0,none⟩) (by show g < B;omega)).trans h1,(hb.cell (p:=⟨g,1,none⟩) (by show g < B;omega)).trans h2⟩,(hb.cell (p:=⟨g+1,0,none⟩) hB).trans h3,(hb.cell (p:=⟨g+1,1,none⟩) hB).trans h4,(hb.cell (p:=⟨g+1,2,none⟩) hB).trans h5⟩
theorem AftAt.new (a b m s z:Int) (w:World):AftAt w.heap.size a b m s z ((w.alloc (.cells #[.int .i64 a,.int .i64 b] 264)).alloc (.cells #[.int .i32 m,.int .i64 s,.int .i8 z] 52)):=by
 have k0:∀ j,(w.alloc (.cells #[.int .i64 a,.int .i64 b] 264)).cell? ⟨w.heap.size,j,none⟩=(#[.int .i64 a,.int .i64 b]:Array Value)[j]?:=fun j=>Kit.zab _ _ _ _
 have s1:(w.alloc (.cells #[.int .i64 a,.int .i64 b] 264)).heap.size=w.heap.size+1:=by simp
 have k1:∀ j,((w.alloc (.cells #[.int .i64 a,.int .i64 b] 264)).alloc (.cells #[.int .i32 m,.int .i64 s,.int .i8 z] 52)).cell? ⟨w.heap.size+1,j,none⟩=(#[.int .i32 m,.int .i64 s,.int .i8 z]:Array Value)[j]?:=fun j=>by
  rw [← s1];exact Kit.zab _ _ _ _
 exact⟨⟨(World.cell?_alloc_lt _ _ _ (by simp)).trans (k0 0),(World.cell?_alloc_lt _ _ _ (by simp)).trans (k0 1)⟩,k1 0,k1 1,k1 2⟩
theorem cafter_to (a b m s z lo hi:Int) (ha1 : -9223372036854775808≤a) (ha2:a≤9223372036854775807) (hb1 : -9223372036854775808≤b) (hb2:b≤9223372036854775807) (hm1 : -2147483648≤m) (hm2:m≤2147483647) (hz1 : -128≤z) (hz2:z≤127) (hl1 : -128≤lo) (hl2:lo≤127) (hh1 : -128≤hi) (hh2:hi≤127) (w:World) :
  Calls Tryz.prog 178 #[.agg #[.int .i64 a,.int .i64 b],.agg #[.int .i32 m,.int .i64 s,.int .i8 z],.int .i8 lo,.int .i8 hi] w fun e w' =>
   e=.returned (.tuple #[.int .i8 (min (heldZ (c32 a) m s z lo hi) (heldZ (c32 b) m s z lo hi)),.int .i8 (max (heldZ (c32 a) m s z lo hi) (heldZ (c32 b) m s z lo hi))])∧Below w.heap.size w w':=by
 obtain⟨x,hx⟩:∃ x,heldZ (c32 a) m s z lo hi=x:=⟨_,rfl⟩
 obtain⟨y,hy⟩:∃ y,heldZ (c32 b) m s z lo hi=y:=⟨_,rfl⟩
 have k1:=min_ite x y
 have k2:=max_ite x y
 have C1:=hid (fun (w:World)=>chld_to a m s z lo hi x hm1 hm2 hz1 hz2 hl1 hl2 hh1 hh2 hx w)
 have C2:=hid (fun (w:World)=>chld_to b m s z lo hi y hm1 hm2 hz1 hz2 hl1 hl2 hh1 hh2 hy w)
 rw [hx,hy]
 generalize min x y=mn at *
 generalize max x y=mx at *
 have TN:=hid (AftAt.new a b m s z w)
 have HBW:=hid (((Below.refl w.heap.size w).alloc (le_refl _) (.cells #[.int .i64 a,.int .i64 b] 264)).alloc (by simp) (.cells #[.int .i32 m,.int .i64 s,.int .i8 z] 52))
 have yTN:w.heap.size+1 < ((w.alloc (.cells #[.int .i64 a,.int .i64 b] 264)).alloc (.cells #[.int .i32 m,.int .i64 s,.int .i8 z] 52)).heap.size:=by simp
 have HY:=hid yTN
 clear hx hy yTN
 go_enter Tryz.func178,Tryz.ntmps178
 go_upto_region 1 with fail
 generalize (w.alloc (.cells #[.int .i64 a,.int .i64 b] 264)).alloc (.cells #[.int .i32 m,.int .i64 s,.int .i8 z] 52)=W0 at TN HBW HY ⊢
 refine wp_region_held_drew (S:=AftAt w.heap.size a b m s z) (by kernel_rfl) TN.out (fun hHeld=>?_)
 replace HBW:=hid HBW.out.drew
 replace HY:Hid (w.heap.size+1 < W0.drew.heap.size):=hid HY.out
 clear TN
 generalize W0.drew=W1 at HBW HY hHeld ⊢
 refine Tk.x 0 rfl ?_
 try simp only [Tk.put]
 refine Tk.y 1 (v:=?_) rfl ?_ ?_
 rotate_left
 ·intro wS hSw
  obtain⟨⟨q1,q2⟩,q3,q4,q5⟩:=hSw
  first | (go_simp;done) | (go_simp;with_reducible rfl)
 try simp only [Tk.put]
 refine Tk.y 2 (v:=?_) rfl ?_ ?_
 rotate_left
 ·intro wS hSw
  obtain⟨⟨q1,q2⟩,q3,q4,q5⟩:=hSw
  first | (go_simp;done) | (go_simp;with_reducible rfl)
 try simp only [Tk.put]
 refine Tk.x 3 rfl ?_
 try simp only [Tk.put]
 refine Tk.x 4 rfl ?_
 try simp only [Tk.put]
 refine Tk.x 6 rfl ?_
 try simp only [Tk.put]
 refine Tk.y 7 (v:=?_) rfl ?_ ?_
 rotate_left
 ·intro wS hSw
  obtain⟨⟨q1,q2⟩,q3,q4,q5⟩:=hSw
  first | (go_simp;done) | (go_simp;with_reducible rfl)
 try simp only [Tk.put]
 refine Tk.y 8 (v:=?_) rfl ?_ ?_
 rotate_left
 ·intro wS hSw
  obtain⟨⟨q1,q2⟩,q3,q4,q5⟩:=hSw
  first | (go_simp;done) | (go_simp;with_reducible rfl)
 try simp only [Tk.put]
 refine Tk.x 9 rfl ?_
 try simp only [Tk.put]
 refine Tk.x 10 rfl ?_
 try simp only [Tk.put]
 refine Tk.s 5 rfl (fun Kq hK=>?_)
 go_simp
 go_at_call 188
 refine (C1.out _).mono ?_
 rintro e W2 ⟨rfl,hb1⟩
 have hS1:AftAt w.heap.size a b m s z W2:=hHeld.below HY.out hb1
 replace HBW:=hid (HBW.out.trans (hb1.mono HBW.out.size))
 replace HY:=hid (Nat.lt_of_lt_of_le HY.out hb1.size)
 clear hHeld hb1
 dsimp only
 refine hK.out _ _ ?_ (fun hHeld=>?_)
 ·exact hS1
 clear hK Kq
 try simp only [Tk.put]
 refine Tk.s 11 rfl (fun Kq hK=>?_)
 go_simp
 go_at_call 188
 refine (C2.out _).mono ?_
 rintro e W3 ⟨rfl,hb1⟩
 have hS1:AftAt w.heap.size a b m s z W3:=hHeld.below HY.out hb1
 replace HBW:=hid (HBW.out.trans (hb1.mono HBW.out.size))
 replace HY:=hid (Nat.lt_of_lt_of_le HY.out hb1.size)
 clear hHeld hb1
 dsimp only
 refine hK.out _ _ ?_ (fun hHeld=>?_)
 ·exact hS1
 clear hK Kq
 try simp only [Tk.put]
 refine Tk.x 12 rfl ?_
 try simp only [Tk.put]
 refine Tk.x 13 rfl ?_
 try simp only [Tk.put]
 refine wpAnyH_done (by kernel_rfl) ?_ _
 go_wp2_with fail
 refine bodyPost_ret (res_2 rfl _ _ _) rfl ?_
 exact⟨rfl,HBW.out⟩
end CSpan
end
end Go.Proofs.YtfgdfignoakkaaaGreatDoor
