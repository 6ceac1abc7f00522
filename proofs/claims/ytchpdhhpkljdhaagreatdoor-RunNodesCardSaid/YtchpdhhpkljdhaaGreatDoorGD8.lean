/- -/
import Derived.Test.YtchpdhhpkljdhaaGreatDoorGD7
open Go.Value renaming int→Jj
open Go.IntKind renaming i64→Jq
open Go.Lib (hid)
open Nat (le_refl lt_of_succ_lt lt_succ_self)
set_option linter.unusedVariables false
set_option linter.unusedSimpArgs false
set_option maxRecDepth 100000
set_option maxHeartbeats 16000000
namespace Go.Proofs.YtchpdhhpkljdhaaGreatDoor
namespace CConv
end CConv
namespace CSat
end CSat
namespace CWheel
end CWheel
open Go Go.ChangeShapes Go.WideShapes Go.ChangeAt Go.RowKit Go.Deep
section
namespace CConv
open Go Go.ChangeShapes Go.WideShapes Go.ChangeAt Go.RowKit
open Plain CSat CShape CTensor
theorem zav (H W C:Int) (A:Option Addr) (n c:Nat) (T:TypeId) (w:World):BoxAt w.heap.size H W C A n c (w.alloc (.cells #[Jj Jq H,Jj Jq W,Jj Jq C,.slice A n c] T)):=BoxAt.new H W C A n c T w
def psum (G:Nat→Int):Nat→Int
 | 0=>0
 | n+1=>psum G n+G n
theorem psum_bd {G:Nat→Int} {b:Int} {n:Nat} (h:∀ k,k < n → -b≤G k∧G k≤b) : -(b * n)≤psum G n∧psum G n≤b * n:=by
 induction n with
 | zero=>simp [psum]
 | succ n ih =>
   have h1:=ih (fun k hk=>h k Zb3)
   have h2:=h n Zb3
   have e:b * ((n+1:Nat):Int)=b * (n:Int)+b:=by rw [show ((n+1:Nat):Int)=(n:Int)+1 by omega,Int.mul_add,Int.mul_one]
   rw [e]
   simp only [psum]
   omega
theorem zck {G G':Nat→Int} {n:Nat} (h:∀ k,k < n→G k=G' k):psum G n=psum G' n:=by
 exact Z2s
theorem psum_zero {G:Nat→Int} {n:Nat} (h:∀ k,k < n→G k=0):psum G n=0:=by
 induction n with
 | zero=>rfl
 | succ n ih=>simp only [psum];rw [ih (fun k hk=>h k Zb3),h n Zb3];rfl
theorem zc6 (a b:Int):IntKind.i32.wrap (IntKind.i32.wrap a+b)=IntKind.i32.wrap (a+b):=by rw [IntKind.wrap_i32,IntKind.wrap_i32,IntKind.wrap_i32];omega
theorem wrap32_add' (a b:Int):IntKind.i32.wrap (a+IntKind.i32.wrap b)=IntKind.i32.wrap (a+b):=by rw [IntKind.wrap_i32,IntKind.wrap_i32,IntKind.wrap_i32];omega
theorem term_bd {x y z:Int} (x1 : -128≤x) (x2:x≤127) (y1 : -128≤y) (y2:y≤127) (z1 : -128≤z) (z2:z≤127) : -32640≤y * (x - z)∧y * (x - z)≤32640:=by
 have h1 : -255≤x - z:=by omega
 have h2:x - z≤255:=by omega
 generalize x - z=u at h1 h2
 have a1:0≤(128+y) * (255 - u):=Int.mul_nonneg Zb3 Zb3
 have a2:0≤(128+y) * (255+u):=Int.mul_nonneg Zb3 Zb3
 have a3:0≤(127 - y) * (255 - u):=Int.mul_nonneg Zb3 Zb3
 have a4:0≤(127 - y) * (255+u):=Int.mul_nonneg Zb3 Zb3
 simp only [Int.add_mul,Int.sub_mul,Int.mul_sub,Int.mul_add] at a1 a2 a3 a4
 omega
def I8b (zs:List Int):Prop:=∀ q, -128≤zs.getD q 0∧zs.getD q 0≤127
def termF (zs ws:List Int) (st o:Nat) (Z:Int) (c:Nat):Int:=ws.getD (o+c) 0 * (zs.getD (st+c) 0 - Z)
theorem termF_bd {zs ws:List Int} {st o:Nat} {Z:Int} {c:Nat} (hz:I8b zs) (hw:I8b ws) (z1 : -128≤Z) (z2:Z≤127) : -32640≤termF zs ws st o Z c∧termF zs ws st o Z c≤32640 :=
 term_bd (hz _).1 (hz _).2 (hw _).1 (hw _).2 z1 z2
theorem zax {w:World} {B:Nat} {A:Option Addr} {k:IntKind} {zs:List Int} (h:Kit.Rd w B A (zs.map (.int k))) {j:Nat} (hj:j < zs.length) :
  ∃ b off,A=some ⟨b,off,none⟩∧b < B∧∀ i,i < zs.length→w.cell? ⟨b,off+i,none⟩=some (.int k (zs.getD i 0)):=by
 exact Z29
def zae (B:Nat) (x0 x1 x2 x8 x11 x12 x13 x14 x15 x16 x17 x18:Value) (K S P O Z:Int) (WA BA:Option Addr) (nW cW nB cB:Nat) (wd:World):Prop:=wd.rangeAt B 0 [x0,x1,x2,Jj Jq K,Jj Jq S,Jj Jq P,Jj Jq O,.int .i8 Z,x8,.slice WA nW cW,.slice BA nB cB,x11,x12,x13,x14,x15,x16,x17,x18]
theorem zae.new (x0 x1 x2 x8 x11 x12 x13 x14 x15 x16 x17 x18:Value) (K S P O Z:Int) (WA BA:Option Addr) (nW cW nB cB:Nat) (T:TypeId) (w:World):zae w.heap.size x0 x1 x2 x8 x11 x12 x13 x14 x15 x16 x17 x18 K S P O Z WA BA nW cW nB cB (w.alloc (.cells #[x0,x1,x2,Jj Jq K,Jj Jq S,Jj Jq P,Jj Jq O,.int .i8 Z,x8,.slice WA nW cW,.slice BA nB cB,x11,x12,x13,x14,x15,x16,x17,x18] T)):=fun j v hj=>by
 rw [Nat.zero_add,Kit.zan]
 simpa using hj
theorem zae.below {B B':Nat} {x0 x1 x2 x8 x11 x12 x13 x14 x15 x16 x17 x18:Value} {K S P O Z:Int} {WA BA:Option Addr} {nW cW nB cB:Nat} {w w':World} (h:zae B x0 x1 x2 x8 x11 x12 x13 x14 x15 x16 x17 x18 K S P O Z WA BA nW cW nB cB w) (hB:B < B') (hb:Below B' w w'):zae B x0 x1 x2 x8 x11 x12 x13 x14 x15 x16 x17 x18 K S P O Z WA BA nW cW nB cB w':=fun j v hj =>
 (hb.cell (p:=⟨B,0+j,none⟩) hB).trans (h j v hj)
theorem zae.at {B:Nat} {x0 x1 x2 x8 x11 x12 x13 x14 x15 x16 x17 x18:Value} {K S P O Z:Int} {WA BA:Option Addr} {nW cW nB cB:Nat} {w:World} (h:zae B x0 x1 x2 x8 x11 x12 x13 x14 x15 x16 x17 x18 K S P O Z WA BA nW cW nB cB w) (i:Nat) (v:Value) (hi:([x0,x1,x2,Jj Jq K,Jj Jq S,Jj Jq P,Jj Jq O,.int .i8 Z,x8,.slice WA nW cW,.slice BA nB cB,x11,x12,x13,x14,x15,x16,x17,x18]:List Value)[i]?=some v):w.cell? ⟨B,i,none⟩=some v:=by
 have:=h i v hi
 rwa [Nat.zero_add] at this
def zcb (zs ws:List Int) (H W C top left:Int) (d kk o:Nat) (Z:Int) (i j:Nat):Int :=
 if 0≤top+(i:Int)∧top+(i:Int) < H∧0≤left+(j:Int)∧left+(j:Int) < W then psum (termF zs ws (((top+(i:Int)) * W+(left+(j:Int))) * C).toNat (((o * kk+i) * kk+j) * d) Z) d else 0
def rowF (zs ws:List Int) (H W C top left:Int) (d kk o:Nat) (Z:Int) (i:Nat):Int:=psum (zcb zs ws H W C top left d kk o Z i) kk
def winF (zs ws:List Int) (H W C top left:Int) (d kk o:Nat) (Z:Int):Int:=psum (rowF zs ws H W C top left d kk o Z) kk
theorem drop_term (zs ws:List Int) (st o:Nat) (Z:Int) (d:Nat):psum (termF zs (ws.drop o) st 0 Z) d=psum (termF zs ws st o Z) d :=
 zck fun k _=>by simp [termF,List.getD_eq_getElem?_getD,List.getElem?_drop]
theorem drop_I8b {ws:List Int} (h:I8b ws) (o:Nat):I8b (ws.drop o):=fun q=>by
 have:=h (o+q)
 rw [List.getD_eq_getElem?_getD,List.getElem?_drop, ← List.getD_eq_getElem?_getD]
 exact this
theorem i8s_drop (ws:List Int) (o:Nat):(I8s ws).drop o=I8s (ws.drop o):=by simp [I8s,List.map_drop]
theorem place_le {a b c d i j k:Nat} (hi:i < a) (hj:j < b) (hk:k < c):((i * b+j) * c+k) * d+d≤a * b * c * d:=by
 have e1:(i+1) * b≤a * b:=Nat.mul_le_mul_right _ hi
 have e2:(i * b+j+1) * c≤a * b * c:=Nat.mul_le_mul_right _ (by rw [Nat.add_mul,Nat.one_mul] at e1;omega)
 have e3:((i * b+j) * c+k+1) * d≤a * b * c * d:=Nat.mul_le_mul_right _ (by rw [Nat.add_mul _ 1 c,Nat.one_mul] at e2;omega)
 rw [Nat.add_mul _ 1 d,Nat.one_mul] at e3
 exact e3
end CConv
end
section
namespace CKind
open Plain CSat CShape CTensor CConv
structure Nd where
 (kd na nb K S P O Z Y:Int)
 (WA:Option Addr)
 (nW cW:Nat)
 (BA:Option Addr)
 (nB cB:Nat)
 (m1 s1 z1 m2 s2 z2 lo hi:Int)
def Nd.val (x:Nd):Array Value:=#[Jj Jq x.kd,Jj Jq x.na,Jj Jq x.nb,Jj Jq x.K,Jj Jq x.S,Jj Jq x.P,Jj Jq x.O,.int .i8 x.Z,.int .i8 x.Y,.slice x.WA x.nW x.cW,.slice x.BA x.nB x.cB,.int .i32 x.m1,Jj Jq x.s1,.int .i8 x.z1,.int .i32 x.m2,Jj Jq x.s2,.int .i8 x.z2,.int .i8 x.lo,.int .i8 x.hi]
def zaf (k:Int):Bool:=k == 1 || k == 2 || k == 3 || k == 6 || k == 7
def sumsB (k:Int):Bool:=k == 1 || k == 2 || k == 3
def zai (k:Int):Bool:=k == 1 || k == 2 || k == 4 || k == 5
def Nd.moreB (x:Nd):Bool :=
 (!sumsB x.kd && (decide (0 < x.nW) || decide (0 < x.nB))) || (x.kd != 1 && x.kd != 3 && x.O != 0) || (!zai x.kd && (x.K != 0 || x.S != 0)) || (!zai x.kd && x.kd != 8 && x.P != 0) ||
 (x.kd != 6 && (x.nb != 0 || x.Y != 0 || x.m2 != 0 || x.s2 != 0)) || x.z2 != 0 || (!zaf x.kd && (x.m1 != 0 || x.s1 != 0 || x.z1 != 0 || x.lo != 0 || x.hi != 0)) || (!zaf x.kd && x.kd != 8 && x.Z != 0)
theorem zab (k:Int) (w:World):Calls Tryz.prog 63 #[Jj Jq k] w fun e w'=>e=.returned (.bool (zaf k))∧w=w':=by
 go_enter Tryz.func63,Tryz.ntmps63
 go_wp2_with fail
 all_goals go_ret
 all_goals exact⟨by simp_all [zaf],rfl⟩
def MoreIs (x:Nd):Prop:=∀ w:World,Calls Tryz.prog 62 #[.agg x.val] w fun e w'=>e=.returned (.bool x.moreB)∧Below w.heap.size w w'
def NdAt (g:Nat) (x:Nd) (w:World):Prop:=w.rangeAt g 0 x.val.toList
theorem NdAt.at {g:Nat} {x:Nd} {w:World} (h:NdAt g x w) (i:Nat) (v:Value) (hi:x.val.toList[i]?=some v):w.cell? ⟨g,i,none⟩=some v:=by
 have:=h i v hi
 rwa [Nat.zero_add] at this
theorem NdAt.below {g B:Nat} {x:Nd} {w w':World} (h:NdAt g x w) (hB:g < B) (hb:Below B w w'):NdAt g x w':=fun j v hj=>(hb.cell (p:=⟨g,0+j,none⟩) hB).trans (h j v hj)
theorem NdAt.new (x:Nd) (T:TypeId) (w:World):NdAt w.heap.size x (w.alloc (.cells x.val T)):=fun j v hj=>by
 rw [Nat.zero_add,Kit.zan]
 simpa using hj
end CKind
end
section
namespace CConv
open Go Go.ChangeShapes Go.WideShapes Go.ChangeAt Go.RowKit
open Plain CSat CShape CTensor
theorem info_i32:(Tryz.prog.info? 21).map (fun i=>(i.zero,i.size,i.bytes))=some (some (.int .i32 0),1,4):=by kernel_rfl
theorem zbf {P:Program} {t:TypeId} {z:Option Value} {s b:Nat} (h:(P.info? t).map (fun i=>(i.zero,i.size,i.bytes))=some (z,s,b)):∃ i,P.info? t=some i∧i.zero=z∧i.size=s∧i.bytes=b:=by
 cases hi:P.info? t with
 | none=>rw [hi] at h;cases h
 | some i=>rw [hi] at h;simp at h;exact⟨i,rfl,h.1,h.2.1,h.2.2⟩
def I32v (zs:List Int):List Value:=zs.map (.int .i32)
def rowL (F:Nat→Int) (k:Nat):List Int:=(List.range k).map F
theorem zbx (F:Nat→Int) (k:Nat):(rowL F k).length=k:=by simp [rowL]
theorem zby (F:Nat→Int) (k:Nat) (x:Int) (h:F k=x):I32v (rowL F k) ++ [.int .i32 x]=I32v (rowL F (k+1)):=by
 simp [I32v,rowL,List.range_succ,h]
def gridF (b d:Nat) (G:Nat→Nat→Nat→Int) (i:Nat):Int:=G (i / d / b) (i / d % b) (i % d)
theorem zdf (b d:Nat) (G:Nat→Nat→Nat→Int) {i j k:Nat} (hj:j < b) (hk:k < d):gridF b d G ((i * b+j) * d+k)=G i j k:=by
 exact Z1k
theorem at_lt {a b d i j k:Nat} (hi:i < a) (hj:j < b) (hk:k < d):(i * b+j) * d+k < a * b * d:=by
 exact Z23
def sumF (zs ws bs:List Int) (H W C S P:Int) (d kk:Nat) (Z:Int) (h v o:Nat):Int :=
 IntKind.i32.wrap (bs.getD o 0+winF zs ws H W C ((h:Int) * S - P) ((v:Int) * S - P) d kk o Z)
def MadeA (w:World) (H W C:Int) (n:Nat) (zs:List Int) (x:Value) (e:Ending) (w':World):Prop :=
 ∃ v,e=.returned (.tuple #[.agg #[Jj Jq H,Jj Jq W,Jj Jq C,v],x])∧w'.ownsRow w.heap.size 21 1 v n (I32v zs)∧Below w.heap.size w w'
def zbg (B:Nat) (H W C:Int) (wd:World):Prop :=
 wd.cell? ⟨B,0,none⟩=some (Jj Jq H)∧wd.cell? ⟨B,1,none⟩=some (Jj Jq W)∧wd.cell? ⟨B,2,none⟩=some (Jj Jq C)
theorem zbg.below {B B':Nat} {H W C:Int} {w w':World} (h:zbg B H W C w) (hB:B < B') (hb:Below B' w w'):zbg B H W C w' :=
 ⟨(hb.cell (p:=⟨B,0,none⟩) hB).trans h.1,(hb.cell (p:=⟨B,1,none⟩) hB).trans h.2.1,(hb.cell (p:=⟨B,2,none⟩) hB).trans h.2.2⟩
theorem zaw (T:TypeId) (w:World):zbs w.heap.size (w.alloc (.cells #[Jj Jq 0,Jj Jq 0,Jj Jq 0,.slice none 0 0] T)):=zbs.new T w _ rfl
theorem za2 (H W C:Int) (T:TypeId) (w:World):zbg w.heap.size H W C (w.alloc (.cells #[Jj Jq H,Jj Jq W,Jj Jq C] T)):=⟨Kit.zan _ _ _ _,Kit.zan _ _ _ _,Kit.zan _ _ _ _⟩
theorem convE_ok {H W C K S P O:Int} {nW nB:Nat} (h:convE H W C K S P O nW nB=0):za7 H W C K S P O=0∧(nW:Int)=O * K * K * C∧nW≤16384∧(nB:Int)=O:=by
 unfold convE at h
 by_cases h1:za7 H W C K S P O≠0
 ·rw [if_pos h1] at h;exact absurd h h1
 ·rw [if_neg h1] at h
  by_cases h2:(nW:Int)=O * K * K * C∧nW≤16384∧(nB:Int)=O
  ·exact⟨by omega,h2⟩
  ·rw [if_neg h2] at h;omega
def OfAt (w:World) (H W C:Int) (A:Option Addr) (n c:Nat) (x0 x1 x2 x8 x11 x12 x13 x14 x15 x16 x17 x18:Value) (K S P O Z:Int) (WA BA:Option Addr) (nW cW nB cB:Nat) (X Y U:Int) (g6:Nat) (wr:World):Prop :=
 BoxAt w.heap.size H W C A n c wr∧zae (w.heap.size+1) x0 x1 x2 x8 x11 x12 x13 x14 x15 x16 x17 x18 K S P O Z WA BA nW cW nB cB wr∧zbs (w.heap.size+2) wr∧zbg g6 X Y U wr∧Below w.heap.size w wr∧g6+1≤wr.heap.size
theorem OfAt.below {w:World} {H W C:Int} {A:Option Addr} {n c:Nat} {x0 x1 x2 x8 x11 x12 x13 x14 x15 x16 x17 x18:Value} {K S P O Z:Int} {WA BA:Option Addr} {nW cW nB cB:Nat} {X Y U:Int} {g6:Nat} {w1 w2:World} {B':Nat} (h:OfAt w H W C A n c x0 x1 x2 x8 x11 x12 x13 x14 x15 x16 x17 x18 K S P O Z WA BA nW cW nB cB X Y U g6 w1) (h6:w.heap.size+3≤g6) (hB:g6 < B') (hb:Below B' w1 w2):OfAt w H W C A n c x0 x1 x2 x8 x11 x12 x13 x14 x15 x16 x17 x18 K S P O Z WA BA nW cW nB cB X Y U g6 w2:=by
 obtain⟨a1,a2,a3,a4,a5,a6⟩:=h
 exact⟨a1.below Zb3 hb,a2.below Zb3 hb,a3.below Zb3 hb,a4.below hB hb,a5.trans (hb.mono Zb3),Nat.le_trans a6 hb.size⟩
theorem za0 {w:World} {base g:Nat} {e:TypeId} {size n:Nat} {v:Value} {xs:List Value} {x y z u:Value} (h:w.ownsRow base e size v n xs) (hg:g < base):((((w.setCell ⟨g,0,none⟩ x).setCell ⟨g,1,none⟩ y).setCell ⟨g,2,none⟩ z).setCell ⟨g,3,none⟩ u).ownsRow base e size v n xs :=
 zat (zat (zat (zat h _ _ hg) _ _ hg) _ _ hg) _ _ hg
end CConv
end
section
namespace CWheel
open Go Go.ChangeShapes Go.WideShapes Go.ChangeAt Go.RowKit
open FloatNum CFour
theorem added_to (A:Option Addr) (rows:List (List Int)) (n cA:Nat) (AW:Option Addr) (cW:Nat) (W:Nat→Nat→Int) (L m:Nat) (hn:rows.length=n) (h1:1≤n) (hN:n≤1024) (hL:∀ row∈rows,row.length=L) (hm:m=L - 2) (hL6:L≤1000000)
  (hX:∀ k i,In16 (XR rows k i)) (hW:∀ k i,InW (W k i)) (F:Nat→Int) (hF:F=mnAt (XR rows) W n) (w:World) (hr:Kit.zb4 w w.heap.size .i16 A rows) (hw:Wts w w.heap.size AW n W) :
  Calls Tryz.prog 119 #[.slice A n cA,.slice AW n cW] w (Own64 w m (nums F m)):=by
 rcases Nat.lt_or_ge L 3 with h | h
 ·obtain rfl:m=0:=by omega
  refine (added_short A rows n cA _ L hn h1 hL h w hr).mono ?_
  rintro e w' ⟨rfl,rfl⟩
  exact⟨_,rfl,own_nil _ _ _ _,Below.refl _ _⟩
 ·exact added_yes A rows n cA AW cW W L m hn h1 hN hL Zb3 Zb3 hL6 hX hW F hF w hr hw
/-! ### many rows -/
def fitB (rows:List (List Int)) (nW:Nat):Bool:=decide (rows.length=nW∧1≤rows.length∧rows.length≤1024) && rows.all (fun row=>row.length == (rows.getD 0 []).length)
theorem fit_yes {rows:List (List Int)} {nW:Nat} (h:fitB rows nW=true):rows.length=nW∧1≤rows.length∧rows.length≤1024∧∀ row∈rows,row.length=(rows.getD 0 []).length:=by
 simp only [fitB,Bool.and_eq_true,decide_eq_true_eq,List.all_eq_true,beq_iff_eq] at h
 exact⟨h.1.1,h.1.2.1,h.1.2.2,h.2⟩
theorem fit_of {rows:List (List Int)} {nW:Nat} (h1:rows.length=nW) (h2:1≤rows.length) (h3:rows.length≤1024) (h4:∀ k (hk:k < rows.length),rows[k].length=(rows.getD 0 []).length):fitB rows nW=true:=by
 simp only [fitB,Bool.and_eq_true,decide_eq_true_eq,List.all_eq_true,beq_iff_eq]
 refine⟨⟨h1,h2,h3⟩,fun row hr=>?_⟩
 obtain⟨k,hk,rfl⟩:=List.mem_iff_getElem.1 hr
 exact h4 k hk
theorem fit_no {rows:List (List Int)} {nW k:Nat} (hk:k < rows.length) (h:¬ rows[k].length=(rows.getD 0 []).length):fitB rows nW=false:=by
 cases hb:fitB rows nW
 ·rfl
 ·exact absurd ((fit_yes hb).2.2.2 _ (List.getElem_mem hk)) h
theorem fit_not {rows:List (List Int)} {nW:Nat} (h:¬ (rows.length=nW∧1≤rows.length∧rows.length≤1024)):fitB rows nW=false:=by
 cases hb:fitB rows nW
 ·rfl
 ·have:=fit_yes hb
  exact absurd ⟨this.1,this.2.1,this.2.2.1⟩ h
theorem row0 {rows:List (List Int)} (h:0 < rows.length):rows.getD 0 []=rows[0]:=by
 rw [List.getD_eq_getElem?_getD,List.getElem?_eq_getElem h];rfl
theorem matched_to (A:Option Addr) (rows:List (List Int)) (n cA:Nat) (AW:Option Addr) (nW cW:Nat) (hn:rows.length=n) (hc:cA≤maxLen) (hnc:n≤cA) (hm:nW≤1000000) (b:Bool) (hb:fitB rows nW=b) (w:World) (hr:Kit.zb4 w w.heap.size .i16 A rows) :
  Calls Tryz.prog 118 #[.slice A n cA,.slice AW nW cW] w fun e' w'=>e'=.returned (.bool b)∧w=w':=by
 by_cases h1:n=nW
 ·by_cases h2:1≤n
  ·by_cases h3:n≤1024
   ·subst h1
    obtain⟨b0,o0,A0,L0,c0,rfl,hb0,hc0,e0,e1,e2, -⟩:=hr.row (i:=0) Zb3
    rw [Nat.add_zero] at hc0
    have k1:(0:Int) < (n:Int):=by omega
    have k2:¬ (n:Int) < 1:=by omega
    have k3:¬ (n:Int) > 1024:=by omega
    have HR:=hid hr
    have HN:=hid hn
    have HC:=hid hc0
    have hz0:(rows.getD 0 []).length=L0:=by rw [row0 Zb3];exact e0
    have HZ:=hid hz0
    have HBB:=hid hb
    clear hr hn e0 e1 e2 hz0 hb
    go_enter Tryz.func118,Tryz.ntmps118
    go_wp2_with fail
    go_loopw [24] (fun u wr=>∃ k:Nat,k≤n∧u=Jj Jq k∧Hid (∀ j (hj:j < rows.length),j < k→rows[j].length=L0)∧wr=w) (fun u _=>n - (intOf u).toNat)
    case atStart=>exact⟨0,Nat.zero_le _,rfl,hid (fun j _ hj=>by omega),rfl⟩
    case round =>
     obtain⟨k,hk,rfl,HA,rfl⟩:=hrel
     by_cases hlt:k < n
     ·have hkI:(k:Int) < (n:Int):=by omega
      refine Z93 ?_;intro hk0
      obtain⟨bk,ok,Ak,Lk,ck,hA,hbk,hck,ek, -⟩:=HR.out.row (i:=k) Zbe
      obtain⟨rfl,rfl⟩:b0=bk∧o0=ok:=by simpa using hA
      have EK:=hid ek
      have hc00:=HC.out
      clear ek hA
      by_cases h4:Lk=L0
      ·subst h4
       have HA2:Hid (∀ j (hj:j < rows.length),j < k+1→rows[j].length=Lk):=hid (fun j hj h=>by
        rcases Nat.lt_or_ge j k with h5 | h5
        ·exact HA.out j hj h5
        ·obtain rfl:j=k:=by omega
         exact EK.out)
       go_wp2_with fail
       go_roundw
       case rel=>exact⟨k+1,by omega,by go_num,HA2,by first | rfl | trivial⟩
       case measure=>simp [intOf];omega
      ·have h5:¬ (Lk:Int)=(L0:Int):=by omega
       have hf:fitB rows n=false:=fit_no (k:=k) Zbe (by rw [EK.out,HZ.out];exact h4)
       rw [HBB.out] at hf
       subst hf
       clear h4 HBB
       exact Z1f
     ·obtain rfl:k=n:=by omega
      have hf:fitB rows k=true:=fit_of HN.out Zbe Zbe (fun j hj=>by rw [HZ.out];exact HA.out j hj Zbe)
      rw [HBB.out] at hf
      subst hf
      clear HBB
      exact Z1f
   ·obtain rfl:b=false:=by rw [← hb];exact fit_not Zb3
    subst h1
    have k2:¬ (n:Int) < 1:=by omega
    have k3:(n:Int) > 1024:=by omega
    clear hr hn hb
    go_enter Tryz.func118,Tryz.ntmps118
    exact Z1f
  ·obtain rfl:b=false:=by rw [← hb];exact fit_not Zb3
   subst h1
   have k2:(n:Int) < 1:=by omega
   clear hr hn hb
   go_enter Tryz.func118,Tryz.ntmps118
   exact Z1f
 ·obtain rfl:b=false:=by rw [← hb];exact fit_not Zb3
  have k2:¬ (n:Int)=(nW:Int):=by omega
  clear hr hn h1 hb
  go_enter Tryz.func118,Tryz.ntmps118
  exact Z1f
end CWheel
end
section
namespace CLane
open Go Go.ChangeShapes Go.WideShapes Go.ChangeAt Go.RowKit
open Plain CSat CShape CTensor CConv FloatNum CFour CWheel
theorem psum_sumN (G:Nat→Int):∀ n,psum G n=sumN G n
 | 0=>rfl
 | n+1=>by show psum G n+G n=sumN G n+G n;rw [psum_sumN G n]
theorem sumN_add (f:Nat→Int) (n:Nat):∀ m,sumN f (n+m)=sumN f n+sumN (fun k=>f (n+k)) m
 | 0=>by simp [sumN]
 | m+1=>by
   show sumN f (n+m)+f (n+m)=sumN f n+(sumN (fun k=>f (n+k)) m+f (n+m))
   rw [sumN_add f n m];omega
theorem sumN_three (f g h:Nat→Int):∀ n,sumN (fun k=>f k+g k+h k) n=sumN f n+sumN g n+sumN h n
 | 0=>rfl
 | n+1=>by
   show sumN (fun k=>f k+g k+h k) n+(f n+g n+h n)=(sumN f n+f n)+(sumN g n+g n)+(sumN h n+h n)
   rw [sumN_three f g h n];omega
theorem sumN_zero {f:Nat→Int} {n:Nat} (h:∀ k,k < n→f k=0):sumN f n=0:=by
 rw [zc8 h]
 clear h
 induction n with
 | zero=>rfl
 | succ n ih=>show sumN (fun _=>0) n+0=0;rw [ih];rfl
def laneF (zs:List Int) (Z:Int) (st d pp Wn c x:Nat):Int:=if pp≤x∧x < pp+Wn then zs.getD (st+(x - pp) * d+c) 0 - Z else 0
def laneRow (zs:List Int) (Z:Int) (st d pp Wn M c:Nat):List Int:=nums (laneF zs Z st d pp Wn c) M
def zbr (zs:List Int) (Z:Int) (st d pp Wn M k:Nat):List (List Int):=(List.range k).map (laneRow zs Z st d pp Wn M)
def zcj (p k:Nat):List Int:=(List.range k).map (fun c=>((p+c:Nat):Int))
theorem laneRows_succ (zs:List Int) (Z:Int) (st d pp Wn M k:Nat):zbr zs Z st d pp Wn M (k+1)=zbr zs Z st d pp Wn M k ++ [laneRow zs Z st d pp Wn M k]:=by simp [zbr,List.range_succ]
theorem lanePs_succ (p k:Nat):zcj p (k+1)=zcj p k ++ [((p+k:Nat):Int)]:=by simp [zcj,List.range_succ]
theorem zcx (zs:List Int) (Z:Int) (st d pp Wn M k:Nat):(zbr zs Z st d pp Wn M k).length=k:=by simp [zbr]
theorem lanePs_len (p k:Nat):(zcj p k).length=k:=by simp [zcj]
theorem laneRows_at (zs:List Int) (Z:Int) {st d pp Wn M k c:Nat} (h:c < k):(zbr zs Z st d pp Wn M k).getD c []=laneRow zs Z st d pp Wn M c:=by
 rw [List.getD_eq_getElem?_getD];simp [zbr,h]
theorem lanePs_at {p k c:Nat} (h:c < k):(zcj p k).getD c 0=((p+c:Nat):Int):=by
 rw [List.getD_eq_getElem?_getD];simp [zcj,h]
def zbj (zs:List Int) (Z H W C top:Int) (d pp Wn M:Nat):Nat→List (List Int)
 | 0=>[]
 | i+1=>zbj zs Z H W C top d pp Wn M i ++ (if 0≤top+(i:Int)∧top+(i:Int) < H then zbr zs Z ((top+(i:Int)) * W * C).toNat d pp Wn M d else [])
def psTo (H top:Int) (d:Nat):Nat→List Int
 | 0=>[]
 | i+1=>psTo H top d i ++ (if 0≤top+(i:Int)∧top+(i:Int) < H then zcj (i * 3 * d) d else [])
theorem len_to (zs:List Int) (Z H W C top:Int) (d pp Wn M:Nat):∀ i,(zbj zs Z H W C top d pp Wn M i).length=(psTo H top d i).length
 | 0=>rfl
 | i+1=>by
   unfold zbj psTo
   rw [List.length_append,List.length_append,len_to zs Z H W C top d pp Wn M i]
   split
   ·rw [zcx,lanePs_len]
   ·rfl
theorem mem_rows (zs:List Int) (Z H W C top:Int) (d pp Wn M:Nat):∀ i row,row∈zbj zs Z H W C top d pp Wn M i→∃ st c,row=laneRow zs Z st d pp Wn M c
 | 0,row,h=>by cases h
 | i+1,row,h=>by
   unfold zbj at h
   rcases List.mem_append.1 h with h | h
   ·exact mem_rows zs Z H W C top d pp Wn M i row h
   ·split at h
    ·obtain⟨c,_,rfl⟩:=List.mem_map.1 h
     exact⟨_,c,rfl⟩
    ·cases h
theorem lane_in {zs:List Int} (hz:I8b zs) {Z:Int} (z1 : -128≤Z) (z2:Z≤127) (st d pp Wn c x:Nat) : -255≤laneF zs Z st d pp Wn c x∧laneF zs Z st d pp Wn c x≤255:=by
 unfold laneF
 split
 ·have:=hz (st+(x - pp) * d+c);omega
 ·omega
theorem rows_in {zs:List Int} (hz:I8b zs) {Z:Int} (z1 : -128≤Z) (z2:Z≤127) (H W C top:Int) (d pp Wn M i:Nat):∀ row∈zbj zs Z H W C top d pp Wn M i,∀ v∈row,(Lit.int .i16 v).wf=true:=by
 intro row hr v hv
 obtain⟨st,c,rfl⟩:=mem_rows zs Z H W C top d pp Wn M i row hr
 obtain⟨x,_,rfl⟩:=List.mem_map.1 hv
 have:=lane_in hz z1 z2 st d pp Wn c x
 exact WalkArith.wf_i16 Zb3
theorem rows_len (zs:List Int) (Z H W C top:Int) (d pp Wn M i:Nat):∀ row∈zbj zs Z H W C top d pp Wn M i,row.length=M:=by
 intro row hr
 obtain⟨st,c,rfl⟩:=mem_rows zs Z H W C top d pp Wn M i row hr
 exact nums_len _ _
theorem len_if (zs:List Int) (Z H W C top:Int) (d pp Wn M i:Nat):(zbj zs Z H W C top d pp Wn M (i+1)).length=(zbj zs Z H W C top d pp Wn M i).length+(if 0≤top+(i:Int)∧top+(i:Int) < H then d else 0):=by
 show (zbj zs Z H W C top d pp Wn M i ++ _).length=_
 rw [List.length_append]
 split
 ·rw [zcx]
 ·rfl
theorem rows_many {zs:List Int} {Z H W C top:Int} {d pp Wn M:Nat} (hs:zam H W C=true) (hd:C=(d:Int)) (hp:pp≤2) (t1 : -(pp:Int)≤top) (t2:top≤H+(pp:Int) - 3) :
  1≤(zbj zs Z H W C top d pp Wn M 3).length∧(zbj zs Z H W C top d pp Wn M 3).length≤1024:=by
 obtain⟨g1,g2,g3,g4,g5,g6,g7⟩:=zac hs
 have hHC:H * (d:Int)≤1024:=by
  have h1:H * 1 * (d:Int)≤H * W * C:=by
   rw [← hd]
   exact Int.mul_le_mul_of_nonneg_right (Int.mul_le_mul_of_nonneg_left g3 Zb3) Zb3
  rw [Int.mul_one] at h1;omega
 have hd1:1≤d:=by omega
 rw [len_if,len_if,len_if]
 show 1≤0+_+_+_∧0+_+_+_≤1024
 rw [show (((0:Nat):Nat):Int)=0 from rfl,show (((1:Nat):Nat):Int)=1 from rfl,show (((2:Nat):Nat):Int)=2 from rfl]
 rcases (show H=1∨H=2∨3≤H by omega) with rfl | rfl | h3
 ·constructor
  ·exact Z2h
  ·exact Z2h
 ·constructor
  ·exact Z2h
  ·exact Z2h
 ·have h4:3 * (d:Int)≤H * (d:Int):=Int.mul_le_mul_of_nonneg_right h3 Zb3
  constructor
  ·exact Z2h
  ·exact Z2h
/-! ### the sums -/
def wAt (ws:List Int) (base d:Nat) (p:Int) (j:Nat):Int:=ws.getD (base+p.toNat+j * d) 0
def Wl (ws:List Int) (base d:Nat) (ps:List Int) (k j:Nat):Int:=wAt ws base d (ps.getD k 0) j
theorem Wl_in {ws:List Int} (h:I8b ws) (base d:Nat) (ps:List Int) (k j:Nat):InW (Wl ws base d ps k j):=h _
def tot (ws:List Int) (base d:Nat) (rows:List (List Int)) (ps:List Int) (v:Nat):Int:=sumN (fun k=>slAt (XR rows k) (Wl ws base d ps k) v) rows.length
theorem tot_mn (ws:List Int) (base d:Nat) (rows:List (List Int)) (ps:List Int) (v:Nat):mnAt (XR rows) (Wl ws base d ps) rows.length v=tot ws base d rows ps v:=rfl
theorem tot_append (ws:List Int) (base d:Nat) (rows r2:List (List Int)) (ps p2:List Int) (h:rows.length=ps.length) (v:Nat):tot ws base d (rows ++ r2) (ps ++ p2) v=tot ws base d rows ps v+tot ws base d r2 p2 v:=by
 unfold tot
 rw [List.length_append,sumN_add]
 congr 1
 ·refine zc8 fun k hk=>?_
  have e1:XR (rows ++ r2) k=XR rows k:=by funext j;unfold XR;rw [List.getD_eq_getElem?_getD (l:=rows ++ r2),List.getElem?_append_left hk,List.getD_eq_getElem?_getD (l:=rows)]
  have e2:Wl ws base d (ps ++ p2) k=Wl ws base d ps k:=by funext j;unfold Wl;rw [List.getD_eq_getElem?_getD (l:=ps ++ p2),List.getElem?_append_left Zb3,List.getD_eq_getElem?_getD (l:=ps)]
  rw [e1,e2]
 ·refine zc8 fun k hk=>?_
  have e1:XR (rows ++ r2) (rows.length+k)=XR r2 k:=by funext j;unfold XR;rw [List.getD_eq_getElem?_getD (l:=rows ++ r2),List.getElem?_append_right Zb3,Nat.add_sub_cancel_left,List.getD_eq_getElem?_getD (l:=r2)]
  have e2:Wl ws base d (ps ++ p2) (rows.length+k)=Wl ws base d p2 k:=by funext j;unfold Wl;rw [List.getD_eq_getElem?_getD (l:=ps ++ p2),List.getElem?_append_right Zb3,h,Nat.add_sub_cancel_left,List.getD_eq_getElem?_getD (l:=p2)]
  rw [e1,e2]
theorem tot_nil (ws:List Int) (base d v:Nat) (ps:List Int):tot ws base d [] ps v=0:=rfl
theorem tot_lane (zs ws:List Int) (Z W C y left:Int) (o i d pp Wn M v:Nat) (hd:C=(d:Int)) (hW:W=(Wn:Int)) (hl:left=(v:Int) - (pp:Int)) (hM:M=Wn+2 * pp) (hv:v+2 < M) (y0:0≤y) (Hh:Int) (y1:y < Hh) (top:Int) (hy:top+(i:Int)=y) :
  tot ws (o * 3 * 3 * d) d (zbr zs Z (y * W * C).toNat d pp Wn M d) (zcj (i * 3 * d) d) v=rowF zs ws Hh W C top left d 3 o Z i:=by
 have hplace:∀ j,j < 3→sumN (fun c=>laneF zs Z (y * W * C).toNat d pp Wn c (v+j) * ws.getD (o * 3 * 3 * d+(i * 3 * d+c)+j * d) 0) d=zcb zs ws Hh W C top left d 3 o Z i j:=by
  intro j hj
  unfold zcb
  rw [hy]
  by_cases hin:0≤left+(j:Int)∧left+(j:Int) < W
  ·rw [if_pos ⟨y0,y1,hin⟩,psum_sumN]
   refine zc8 fun c hc=>?_
   unfold laneF termF
   rw [if_pos Zb3]
   have hw0:0≤y * W:=Int.mul_nonneg y0 Zb3
   have hw1:0≤y * W * C:=Int.mul_nonneg hw0 Zb3
   have e1:((y * W+(left+(j:Int))) * C).toNat=(y * W * C).toNat+(v+j - pp) * d:=by
    have e:(y * W+(left+(j:Int))) * C=y * W * C+((((v+j - pp) * d:Nat)):Int):=by
     rw [Int.add_mul,hd,Int.natCast_mul]
     congr 2
     omega
    rw [e,Int.toNat_add hw1 Zb3]
    rfl
   have e2:o * 3 * 3 * d+(i * 3 * d+c)+j * d=((o * 3+i) * 3+j) * d+c:=by
    rw [Nat.add_mul,Nat.add_mul,Nat.add_mul];omega
   rw [e1,e2,Int.mul_comm]
  ·rw [if_neg (by intro h;exact hin ⟨h.2.2.1,h.2.2.2⟩)]
   refine sumN_zero fun c hc=>?_
   unfold laneF
   rw [if_neg Zb3,Int.zero_mul]
 unfold tot
 rw [zcx]
 have hbody:∀ c,c < d→slAt (XR (zbr zs Z (y * W * C).toNat d pp Wn M d) c) (Wl ws (o * 3 * 3 * d) d (zcj (i * 3 * d) d) c) v =
   laneF zs Z (y * W * C).toNat d pp Wn c (v+0) * ws.getD (o * 3 * 3 * d+(i * 3 * d+c)+0 * d) 0+laneF zs Z (y * W * C).toNat d pp Wn c (v+1) * ws.getD (o * 3 * 3 * d+(i * 3 * d+c)+1 * d) 0+laneF zs Z (y * W * C).toNat d pp Wn c (v+2) * ws.getD (o * 3 * 3 * d+(i * 3 * d+c)+2 * d) 0:=by
  intro c hc
  have e:∀ j,v+j < M→XR (zbr zs Z (y * W * C).toNat d pp Wn M d) c (v+j)=laneF zs Z (y * W * C).toNat d pp Wn c (v+j):=fun j hj=>by
   unfold XR;rw [laneRows_at zs Z hc];exact nums_getD _ hj
  have f:∀ j,Wl ws (o * 3 * 3 * d) d (zcj (i * 3 * d) d) c j=ws.getD (o * 3 * 3 * d+(i * 3 * d+c)+j * d) 0:=fun j=>by
   unfold Wl wAt;rw [lanePs_at hc];rfl
  unfold slAt
  rw [f,f,f,e 1 Zb3,e 2 Zb3]
  have e0:=e 0 Zb3
  rw [Nat.add_zero] at e0
  rw [e0]
  rfl
 rw [zc8 hbody,sumN_three,hplace 0 Zb3,hplace 1 Zb3,hplace 2 Zb3]
 unfold rowF
 show _=(0+_+_+_:Int)
 rw [Int.zero_add]
theorem row_out (zs ws:List Int) (Z W C left H:Int) (o i d:Nat) (top:Int) (h:¬ (0≤top+(i:Int)∧top+(i:Int) < H)):rowF zs ws H W C top left d 3 o Z i=0:=by
 unfold rowF
 rw [psum_sumN]
 refine sumN_zero fun j hj=>?_
 unfold zcb
 rw [if_neg (by intro h';exact h ⟨h'.1,h'.2.1⟩)]
theorem lane_win (zs ws:List Int) (Z H W C top left:Int) (o d pp Wn M v:Nat) (hd:C=(d:Int)) (hW:W=(Wn:Int)) (hl:left=(v:Int) - (pp:Int)) (hM:M=Wn+2 * pp) (hv:v+2 < M) :
  ∀ i,tot ws (o * 3 * 3 * d) d (zbj zs Z H W C top d pp Wn M i) (psTo H top d i) v=psum (rowF zs ws H W C top left d 3 o Z) i
 | 0=>rfl
 | i+1=>by
   unfold zbj psTo
   rw [tot_append _ _ _ _ _ _ _ (len_to zs Z H W C top d pp Wn M i),lane_win zs ws Z H W C top left o d pp Wn M v hd hW hl hM hv i]
   show _=psum (rowF zs ws H W C top left d 3 o Z) i+rowF zs ws H W C top left d 3 o Z i
   congr 1
   split
   ·rename_i h
    exact tot_lane zs ws Z W C (top+(i:Int)) left o i d pp Wn M v hd hW hl hM hv h.1 H h.2 top rfl
   ·rename_i h
    rw [tot_nil,row_out zs ws Z W C left H o i d top h]
end CLane
end
section
namespace CPatch
open Go Go.ChangeShapes Go.WideShapes Go.ChangeAt Go.RowKit
open Plain CSat CShape CTensor CConv
theorem zdi {B gd:Nat} {H W C:Int} {w w':World} (h:zbg B H W C w) (hg:w.grownBy w' (some gd)) (hB:B < w.heap.size) (hne:gd≠B):zbg B H W C w' :=
 ⟨(hg.cell_far ⟨B,0,none⟩ hB Zba).trans h.1,(hg.cell_far ⟨B,1,none⟩ hB Zba).trans h.2.1,(hg.cell_far ⟨B,2,none⟩ hB Zba).trans h.2.2⟩
theorem NodeAt_grown {B gd:Nat} {x0 x1 x2 x8 x11 x12 x13 x14 x15 x16 x17 x18:Value} {K S P O Z:Int} {WA BA:Option Addr} {nW cW nB cB:Nat} {w w':World} (h:zae B x0 x1 x2 x8 x11 x12 x13 x14 x15 x16 x17 x18 K S P O Z WA BA nW cW nB cB w) (hg:w.grownBy w' (some gd)) (hB:B < w.heap.size) (hne:gd≠B):zae B x0 x1 x2 x8 x11 x12 x13 x14 x15 x16 x17 x18 K S P O Z WA BA nW cW nB cB w':=fun j v hj =>
 (hg.cell_far ⟨B,0+j,none⟩ hB Zba).trans (h j v hj)
theorem begin_to (M Wd:Int) (x:Value) (i R:Int) (hR:IntKind.i64.wrap (i * Wd)=R) (w:World) :
  Calls Tryz.prog 122 #[.agg #[Jj Jq M,Jj Jq Wd,x],Jj Jq i] w fun e w'=>e=.returned (Jj Jq R)∧Below w.heap.size w w':=by
 go_enter Tryz.func122,Tryz.ntmps122
 go_wp2_with fail
 exact Z1a
theorem empty_to (H W C a b c:Int) (x0 x1 x2 x8 x11 x12 x13 x14 x15 x16 x17 x18:Value) (K S P O Z:Int) (WA BA:Option Addr) (nW cW nB cB:Nat) (M k2 Wd:Int) (h1:IntKind.i64.wrap (a * b)=M) (h2:IntKind.i64.wrap (K * K)=k2) (h3:IntKind.i64.wrap (k2 * C)=Wd) (w:World) :
  Calls Tryz.prog 120 #[.agg #[Jj Jq H,Jj Jq W,Jj Jq C],.agg #[Jj Jq a,Jj Jq b,Jj Jq c],.agg #[x0,x1,x2,Jj Jq K,Jj Jq S,Jj Jq P,Jj Jq O,.int .i8 Z,x8,.slice WA nW cW,.slice BA nB cB,x11,x12,x13,x14,x15,x16,x17,x18]] w fun e w'=>e=.returned (.agg #[Jj Jq M,Jj Jq Wd,.slice none 0 0])∧Below w.heap.size w w':=by
 go_enter Tryz.func120,Tryz.ntmps120
 go_wp2_with fail
 refine bodyPost_ret (Kit.zbi rfl _ _ (w.heap.size+3) 0 [Jj Jq M,Jj Jq Wd,.slice none 0 0] _ rfl (Kit.za3 Zb6 Zb6 Zb6) Tryz.underlying114 rfl Zb5) rfl ?_
 exact⟨rfl,by first | exact ((((Below.refl _ _).alloc (le_refl _) _).alloc Zb7 _).alloc Zba _).alloc Zba _ | (refine ((((((((Below.refl _ _).alloc (le_refl _) _).alloc Zb7 _).alloc Zba _).alloc Zba _).setCell ?_ _).setCell ?_ _).setCell ?_ _) <;> simp)⟩
end CPatch
end
end Go.Proofs.YtchpdhhpkljdhaaGreatDoor
