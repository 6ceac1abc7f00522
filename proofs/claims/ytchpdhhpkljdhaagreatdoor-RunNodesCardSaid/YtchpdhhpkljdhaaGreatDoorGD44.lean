/- -/
import Derived.Test.YtchpdhhpkljdhaaGreatDoorGD34
import Derived.Test.YtchpdhhpkljdhaaGreatDoorGD35
import Derived.Test.YtchpdhhpkljdhaaGreatDoorGD36
import Derived.Test.YtchpdhhpkljdhaaGreatDoorGD37
import Derived.Test.YtchpdhhpkljdhaaGreatDoorGD38
import Derived.Test.YtchpdhhpkljdhaaGreatDoorGD42
import Derived.Test.YtchpdhhpkljdhaaGreatDoorGD43
open Go.Value renaming int→Jj
open Go.IntKind renaming i64→Jq
open Go.Lib (hid)
open Nat (le_refl lt_of_succ_lt lt_succ_self)
set_option linter.unusedVariables false
set_option linter.unusedSimpArgs false
set_option maxRecDepth 100000
set_option maxHeartbeats 16000000
namespace Go.Proofs.YtchpdhhpkljdhaaGreatDoor
namespace CConv
end CConv
namespace CKind
end CKind
namespace CSat
end CSat
open Go Go.ChangeShapes Go.WideShapes Go.ChangeAt Go.RowKit Go.Deep
section
namespace CLower
open Go Go.ChangeShapes Go.WideShapes Go.ChangeAt Go.RowKit Go.Shelf Round
open Plain CSat CShape CTensor CConv
theorem lOf_good (H W C:Int) (A:Option Addr) (zs:List Int) (n c:Nat) (hn:zs.length=n) (ht:tensB H W C n=true) (hz:I8b zs) (x0 x1 x2 x8 x11 x12 x13 x14 x15 x16 x17 x18:Value) (K S P O Z:Int) (WA BA:Option Addr) (nW cW nB cB:Nat) (ws:List Int) (hws:ws.length=nW) (hwc:nW≤cW) (hwm:cW≤maxLen) (hwb:I8b ws) (bs:List Int) (hbs:bs.length=nB)
  (he:convE H W C K S P O nW nB=0) (a b oo d kk:Nat) (ha:zad H K S P=(a:Int)) (hb:zad W K S P=(b:Int)) (hO:O=(oo:Int)) (hd:C=(d:Int)) (hk:K=(kk:Int)) (N:Nat) (hN:a * b * oo=N) (z1 : -128≤Z) (z2:Z≤127)
  (w:World) (hr:Kit.Rd w w.heap.size A (I8s zs)) (hrw:Kit.Rd w w.heap.size WA (I8s ws)) (hrb:Kit.Rd w w.heap.size BA (I32v bs)) :
  Calls Tryz.prog 31 #[.agg #[Jj Jq H,Jj Jq W,Jj Jq C,.slice A n c],.agg #[x0,x1,x2,Jj Jq K,Jj Jq S,Jj Jq P,Jj Jq O,.int .i8 Z,x8,.slice WA nW cW,.slice BA nB cB,x11,x12,x13,x14,x15,x16,x17,x18]] w (MadeA w (a:Int) (b:Int) O N (rowL (gridF b oo (sumF zs ws bs H W C S P d kk Z)) N) (Jj Jq 0)):=by
 subst hO
 exact lOf_yes H W C A zs n c hn ht hz x0 x1 x2 x8 x11 x12 x13 x14 x15 x16 x17 x18 K S P Z WA BA nW cW nB cB ws hws hwc hwm hwb bs hbs oo he a b d kk ha hb hd hk N hN z1 z2 w hr hrw hrb
end CLower
end
section
namespace CDepth
open Go Go.ChangeShapes Go.WideShapes Go.ChangeAt Go.RowKit
open Plain CSat CShape CTensor CConv
theorem dep_letters {H W C K S P:Int} {nW nB:Nat} (he:zcw H W C K S P nW nB=0) :
  ∃ a b d kk:Nat,zad H K S P=(a:Int)∧zad W K S P=(b:Int)∧C=(d:Int)∧K=(kk:Int)∧a * b * d≤1024:=by
 obtain⟨hsl,hnW,hn16,hnB⟩:=depthE_ok he
 obtain⟨hs0,har1,har2, -, -,hsr⟩:=za9 hsl
 obtain⟨q1,q2,q3,q4,q5,q6,q7⟩:=zac hsr
 obtain⟨-, -,k1,k2, -⟩:=za1 har1
 refine Zaj ?_;intro a ha b hb d hd kk hk
 have hN:((a * b * d:Nat):Int)≤1024:=by
  have:((a * b * d:Nat):Int)=zad H K S P * zad W K S P * C:=by rw [ha,hb,hd];simp
  omega
 exact⟨a,b,d,kk,ha,hb,hd,hk,by omega⟩
end CDepth
end
section
namespace CPool
open Go Go.ChangeShapes Go.WideShapes Go.ChangeAt Go.RowKit
open Plain CSat CShape CTensor CConv
theorem max_mk (H W C:Int) (A:Option Addr) (zs:List Int) (n c:Nat) (x0 x1 x2 x8 x11 x12 x13 x14 x15 x16 x17 x18:Value) (K S P O Z:Int) (WA BA:Option Addr) (nW cW nB cB:Nat) (X Y U:Int) (m:Nat) (xs:List Int) (er:Int)
  (hE:∀ w:World,Kit.Rd w w.heap.size A (I8s zs)→Calls Tryz.prog 45 #[.agg #[Jj Jq H,Jj Jq W,Jj Jq C,.slice A n c],.agg #[x0,x1,x2,Jj Jq K,Jj Jq S,Jj Jq P,Jj Jq O,.int .i8 Z,x8,.slice WA nW cW,.slice BA nB cB,x11,x12,x13,x14,x15,x16,x17,x18],.func (.func 46) #[] #[]] w (MadeP w X Y U m xs (Jj Jq er))) (w:World) (hr:Kit.Rd w w.heap.size A (I8s zs)) :
  Calls Tryz.prog 14 #[.agg #[Jj Jq H,Jj Jq W,Jj Jq C,.slice A n c],.agg #[x0,x1,x2,Jj Jq K,Jj Jq S,Jj Jq P,Jj Jq O,.int .i8 Z,x8,.slice WA nW cW,.slice BA nB cB,x11,x12,x13,x14,x15,x16,x17,x18]] w (MadeP w X Y U m xs (Jj Jq er)):=by
 have HE:=hid hE
 have HR:=hid hr
 clear hE hr
 refine Z8p ?_;intro TN0
 go_enter Tryz.func14,Tryz.ntmps14
 exact Zb
theorem mean_mk (H W C:Int) (A:Option Addr) (zs:List Int) (n c:Nat) (x0 x1 x2 x8 x11 x12 x13 x14 x15 x16 x17 x18:Value) (K S P O Z:Int) (WA BA:Option Addr) (nW cW nB cB:Nat) (X Y U:Int) (m:Nat) (xs:List Int) (er:Int)
  (hE:∀ w:World,Kit.Rd w w.heap.size A (I8s zs)→Calls Tryz.prog 45 #[.agg #[Jj Jq H,Jj Jq W,Jj Jq C,.slice A n c],.agg #[x0,x1,x2,Jj Jq K,Jj Jq S,Jj Jq P,Jj Jq O,.int .i8 Z,x8,.slice WA nW cW,.slice BA nB cB,x11,x12,x13,x14,x15,x16,x17,x18],.func (.func 47) #[] #[]] w (MadeP w X Y U m xs (Jj Jq er))) (w:World) (hr:Kit.Rd w w.heap.size A (I8s zs)) :
  Calls Tryz.prog 15 #[.agg #[Jj Jq H,Jj Jq W,Jj Jq C,.slice A n c],.agg #[x0,x1,x2,Jj Jq K,Jj Jq S,Jj Jq P,Jj Jq O,.int .i8 Z,x8,.slice WA nW cW,.slice BA nB cB,x11,x12,x13,x14,x15,x16,x17,x18]] w (MadeP w X Y U m xs (Jj Jq er)):=by
 have HE:=hid hE
 have HR:=hid hr
 clear hE hr
 refine Z8p ?_;intro TN0
 go_enter Tryz.func15,Tryz.ntmps15
 exact Zb
theorem maxL_ge (l:List Int):(∀ x∈l,x≤maxL l) ∧ -128≤maxL l:=by
 have key:∀ (l:List Int) (a:Int),(∀ x∈l,x≤l.foldl (fun a x=>if a < x then x else a) a)∧a≤l.foldl (fun a x=>if a < x then x else a) a:=by
  intro l
  induction l with
  | nil=>intro a;exact⟨fun x hx=>by simp at hx,Int.le_refl _⟩
  | cons y l ih =>
    intro a
    obtain⟨h1,h2⟩:=ih (if a < y then y else a)
    have h3:a≤(if a < y then y else a)∧y≤(if a < y then y else a):=by split <;> omega
    rw [List.foldl_cons]
    refine⟨fun x hx=>?_,Int.le_trans h3.1 h2⟩
    rcases List.mem_cons.1 hx with rfl | hx
    ·exact Int.le_trans h3.2 h2
    ·exact h1 x hx
 exact key l (-128)
theorem maxL_le (l:List Int) (M:Int) (h:∀ x∈l,x≤M) (hM : -128≤M):maxL l≤M:=by
 have key:∀ (l:List Int) (a:Int),(∀ x∈l,x≤M)→a≤M→l.foldl (fun a x=>if a < x then x else a) a≤M:=by
  intro l
  induction l with
  | nil=>intro a _ h;exact h
  | cons y l ih =>
    intro a h ha
    rw [List.foldl_cons]
    refine ih _ (fun x hx=>h x (by simp [hx])) ?_
    have:=h y Zb7
    split <;> omega
 exact key l (-128) h hM
theorem sumL_le (l:List Int) (M:Int) (h:∀ x∈l,x≤M):sumL l≤M * (l.length:Int):=by
 have key:∀ (l:List Int) (a:Int),(∀ x∈l,x≤M)→l.foldl (· + ·) a≤a+M * (l.length:Int):=by
  intro l
  induction l with
  | nil=>intro a _;simp
  | cons y l ih =>
    intro a h
    have i1:=ih (a+y) (fun x hx=>h x (by simp [hx]))
    have i2:=h y Zb7
    rw [List.foldl_cons,List.length_cons]
    have e:M * ((l.length+1:Nat):Int)=M * (l.length:Int)+M:=by rw [Int.natCast_add,Int.mul_add];simp
    rw [e];omega
 have:=key l 0 h
 unfold sumL
 omega
theorem wrap8_in {x:Int} (h1 : -128≤x) (h2:x≤127):IntKind.i8.wrap x=x:=by
 unfold IntKind.wrap
 simp [IntKind.signed,IntKind.bits]
 omega
theorem mean_le_max (l:List Int) (h:(∀ x∈l, -128≤x∧x≤127)):l≠[]→meanZ l≤maxL l:=by
 intro hl
 have hlen:1≤(l.length:Int):=by have:=List.length_pos_iff.2 hl;omega
 obtain⟨g1,g2⟩:=maxL_ge l
 have g3:=maxL_le l 127 (fun x hx=>(h x hx).2) Zb3
 have s1:=sumL_le l (maxL l) g1
 have s2:=(sumL_bd l h).1
 have n1:=near_le hlen s1
 have n2:=near_ge (s:=sumL l) (M := -128) hlen Zb3
 rw [meanZ_sum,wrap8_in n2 Zb3]
 exact n1
theorem top_max (l:List Int) (h:(∀ x∈l, -128≤x∧x≤127)) (hl:l≠[]):topZ l=maxL l:=by
 have hlen:=List.length_pos_iff.2 hl
 have key:∀ k,1≤k→k≤l.length→(reachK l k).2=maxL (l.take k):=by
  intro k
  induction k with
  | zero=>intro h;omega
  | succ k ih =>
    intro _ hk
    have e:l.take (k+1)=l.take k ++ [l[k]]:=by rw [List.take_add_one,List.getElem?_eq_getElem Zb3];rfl
    have hg:l.getD k 0=l[k]:=by rw [List.getD_eq_getElem?_getD,List.getElem?_eq_getElem Zb3];rfl
    show max (reachK l k).2 (l.getD k 0)=_
    rw [e,maxL_snoc,hg]
    by_cases hk0:k=0
    ·subst hk0
     have hx:=h l[0] (List.getElem_mem _)
     have h0:(reachK l 0).2=l[0]:=by show l.getD 0 0=_;exact hg
     rw [h0]
     have:maxL (l.take 0) = -128:=rfl
     rw [this]
     split <;> omega
    ·rw [ih Zb3 Zb3]
     split <;> omega
 have:=key l.length Zb3 (le_refl _)
 rw [List.take_length] at this
 exact this
theorem colL_ne (zs:List Int) (H W C top left:Int) (o i j0:Nat) (h:hereL zs H W C top left o i j0≠[]):∀ j,j0 < j→colL zs H W C top left o i j≠[]
 | 0,hj=>by omega
 | j+1,hj=>by
   show colL zs H W C top left o i j ++ hereL zs H W C top left o i j≠[]
   intro e
   obtain⟨e1,e2⟩:=List.append_eq_nil_iff.1 e
   by_cases hjj:j0=j
   ·subst hjj;exact h e2
   ·exact colL_ne zs H W C top left o i j0 h j Zb3 e1
theorem rowsL_ne (zs:List Int) (H W C top left:Int) (kk o i0:Nat) (h:colL zs H W C top left o i0 kk≠[]):∀ i,i0 < i→rowsL zs H W C top left kk o i≠[]
 | 0,hi=>by omega
 | i+1,hi=>by
   show rowsL zs H W C top left kk o i ++ colL zs H W C top left o i kk≠[]
   intro e
   obtain⟨e1,e2⟩:=List.append_eq_nil_iff.1 e
   by_cases hii:i0=i
   ·subst hii;exact h e2
   ·exact rowsL_ne zs H W C top left kk o i0 h i Zb3 e1
theorem step_in {n K S P:Int} {a kk h:Nat} (har:argsB n K S P=true) (ha:zad n K S P=(a:Int)) (hk:K=(kk:Int)) (hh:h < a):∃ i0:Nat,i0 < kk∧0≤(h:Int) * S - P+(i0:Int)∧(h:Int) * S - P+(i0:Int) < n:=by
 obtain⟨a1,a2,a3,a4,a5,a6,a7,a8,a9⟩:=za1 har
 unfold zad at ha
 rw [if_pos har] at ha
 by_cases h0:n+2 * P - K < 0
 ·rw [if_pos h0] at ha;omega
 ·rw [if_neg h0] at ha
  have h1:(h:Int)≤(n+2 * P - K) / S:=by omega
  have h2:(h:Int) * S≤n+2 * P - K:=(Int.le_ediv_iff_mul_le Zb3).1 h1
  have h3:0≤(h:Int) * S:=Int.mul_nonneg Zb3 Zb3
  generalize (h:Int) * S=q at h2 h3 ⊢
  by_cases hq:q - P < 0
  ·exact⟨(P - q).toNat,by omega,by omega,by omega⟩
  ·exact⟨0,by omega,by omega,by omega⟩
theorem window_ne (zs:List Int) {H W C K S P:Int} {a b kk h v o:Nat} (he:za7 H W C K S P C=0) (ha:zad H K S P=(a:Int)) (hb:zad W K S P=(b:Int)) (hk:K=(kk:Int)) (hh:h < a) (hv:v < b) :
  zcg zs H W C ((h:Int) * S - P) ((v:Int) * S - P) kk o≠[]:=by
 obtain⟨hs0,har1,har2, -, -,hsr⟩:=za9 he
 obtain⟨i0,i1,i2,i3⟩:=step_in har1 ha hk hh
 obtain⟨j0,j1,j2,j3⟩:=step_in har2 hb hk hv
 refine rowsL_ne zs H W C _ _ kk o i0 (colL_ne zs H W C _ _ o i0 j0 ?_ kk j1) kk i1
 unfold hereL
 rw [if_pos ⟨i2,i3,j2,j3⟩]
 simp
theorem zc9 {F G:Nat→Int} {k:Nat} (h:∀ i,i < k→F i=G i):rowL F k=rowL G k:=by
 unfold rowL
 exact List.map_congr_left (fun i hi=>h i (List.mem_range.1 hi))
theorem rowL_getD (F:Nat→Int) (k i:Nat):(rowL F k).getD i 0=if i < k then F i else 0:=by
 unfold rowL
 rw [List.getD_eq_getElem?_getD]
 by_cases h:i < k
 ·rw [if_pos h];simp [h]
 ·rw [if_neg h];simp [h]
theorem grid_bd {a b d i:Nat} (h:i < a * b * d):i / d / b < a∧i / d % b < b:=by
 have hd:0 < d:=by rcases Nat.eq_zero_or_pos d with rfl | h';simp at h;exact h'
 have h1:i / d < a * b:=Nat.div_lt_of_lt_mul (by rw [Nat.mul_comm];exact h)
 have hb:0 < b:=by rcases Nat.eq_zero_or_pos b with rfl | h';simp at h;exact h'
 exact⟨Nat.div_lt_of_lt_mul (by rw [Nat.mul_comm];exact h1),Nat.mod_lt _ hb⟩
theorem I8b_mem (zs:List Int) (h:I8b zs) (H W C top left:Int) (kk o:Nat):∀ x∈zcg zs H W C top left kk o, -128≤x∧x≤127:=by
 intro x hx
 unfold zcg at hx
 rw [rowsI_L] at hx
 obtain⟨k, -,rfl⟩:=List.mem_map.1 hx
 exact h k
theorem pool_letters {H W C K S P:Int} (he:za7 H W C K S P C=0):∃ a b d kk:Nat,zad H K S P=(a:Int)∧zad W K S P=(b:Int)∧C=(d:Int)∧K=(kk:Int)∧a * b * d≤1024:=by
 obtain⟨hs0,har1,har2, -, -,hsr⟩:=za9 he
 obtain⟨-, -,k1,k2, -⟩:=za1 har1
 obtain⟨q1,q2,q3,q4,q5,q6,q7⟩:=zac hsr
 refine Zaj ?_;intro a ha b hb d hd kk hk
 refine⟨a,b,d,kk,ha,hb,hd,hk,?_⟩
 have:((a * b * d:Nat):Int)=zad H K S P * zad W K S P * C:=by rw [ha,hb,hd];simp
 omega
theorem pool_both (H W C:Int) (A:Option Addr) (zs:List Int) (n c:Nat) (hn:zs.length=n) (hz:I8b zs) (x0 x1 x2 x8 x11 x12 x13 x14 x15 x16 x17 x18:Value) (K S P O Z:Int) (WA BA:Option Addr) (nW cW nB cB:Nat) :
  ∃ (X Y U:Int) (m:Nat) (xs ys:List Int) (er:Int),xs.length=m∧ys.length=m∧m≤1000000∧(∀ i,ys.getD i 0≤xs.getD i 0) ∧
   (∀ w:World,Kit.Rd w w.heap.size A (I8s zs)→Calls Tryz.prog 14 #[.agg #[Jj Jq H,Jj Jq W,Jj Jq C,.slice A n c],.agg #[x0,x1,x2,Jj Jq K,Jj Jq S,Jj Jq P,Jj Jq O,.int .i8 Z,x8,.slice WA nW cW,.slice BA nB cB,x11,x12,x13,x14,x15,x16,x17,x18]] w (MadeP w X Y U m xs (Jj Jq er))) ∧
   (∀ w:World,Kit.Rd w w.heap.size A (I8s zs)→Calls Tryz.prog 15 #[.agg #[Jj Jq H,Jj Jq W,Jj Jq C,.slice A n c],.agg #[x0,x1,x2,Jj Jq K,Jj Jq S,Jj Jq P,Jj Jq O,.int .i8 Z,x8,.slice WA nW cW,.slice BA nB cB,x11,x12,x13,x14,x15,x16,x17,x18]] w (MadeP w X Y U m ys (Jj Jq er))) ∧
   (∀ w:World,Kit.Rd w w.heap.size A (I8s zs)→Calls Tryz.prog 23 #[.agg #[Jj Jq H,Jj Jq W,Jj Jq C,.slice A n c],.agg #[x0,x1,x2,Jj Jq K,Jj Jq S,Jj Jq P,Jj Jq O,.int .i8 Z,x8,.slice WA nW cW,.slice BA nB cB,x11,x12,x13,x14,x15,x16,x17,x18],.bool true] w (MadeP w X Y U m xs (Jj Jq er))) ∧
   (∀ w:World,Kit.Rd w w.heap.size A (I8s zs)→Calls Tryz.prog 23 #[.agg #[Jj Jq H,Jj Jq W,Jj Jq C,.slice A n c],.agg #[x0,x1,x2,Jj Jq K,Jj Jq S,Jj Jq P,Jj Jq O,.int .i8 Z,x8,.slice WA nW cW,.slice BA nB cB,x11,x12,x13,x14,x15,x16,x17,x18],.bool false] w (MadeP w X Y U m ys (Jj Jq er))):=by
 cases ht:tensB H W C n
 ·refine⟨0,0,0,0,[],[],5,rfl,rfl,by omega,fun _=>Int.le_refl _,fun w hr=>?_,fun w hr=>?_,fun w _=>?_,fun w _=>?_⟩
  ·exact max_mk H W C A zs n c x0 x1 x2 x8 x11 x12 x13 x14 x15 x16 x17 x18 K S P O Z WA BA nW cW nB cB 0 0 0 0 [] 5 (fun w' _=>each_bad H W C A n c x0 x1 x2 x8 x11 x12 x13 x14 x15 x16 x17 x18 K S P O Z WA BA nW cW nB cB _ ht w') w hr
  ·exact mean_mk H W C A zs n c x0 x1 x2 x8 x11 x12 x13 x14 x15 x16 x17 x18 K S P O Z WA BA nW cW nB cB 0 0 0 0 [] 5 (fun w' _=>each_bad H W C A n c x0 x1 x2 x8 x11 x12 x13 x14 x15 x16 x17 x18 K S P O Z WA BA nW cW nB cB _ ht w') w hr
  ·exact refPool_bad H W C A n c x0 x1 x2 x8 x11 x12 x13 x14 x15 x16 x17 x18 K S P O Z WA BA nW cW nB cB true ht w
  ·exact refPool_bad H W C A n c x0 x1 x2 x8 x11 x12 x13 x14 x15 x16 x17 x18 K S P O Z WA BA nW cW nB cB false ht w
 ·by_cases he:za7 H W C K S P C=0
  ·obtain⟨a,b,d,kk,ha,hb,hd,hk,hN⟩:=pool_letters he
   have hms:rowL (gridF b d (mostF zs H W C S P kk)) (a * b * d)=rowL (gridF b d (greatF zs H W C S P kk)) (a * b * d):=zc9 (fun i hi=>by
    obtain⟨h1,h2⟩:=grid_bd hi
    show topZ _=maxL _
    exact top_max _ (I8b_mem zs hz _ _ _ _ _ _ _) (window_ne zs he ha hb hk h1 h2))
   refine⟨a,b,C,a * b * d,rowL (gridF b d (greatF zs H W C S P kk)) (a * b * d),rowL (gridF b d (meanF zs H W C S P kk)) (a * b * d),0,zbx _ _,zbx _ _,by omega,fun i=>?_,fun w hr=>?_,fun w hr=>?_,fun w hr=>?_,fun w hr=>?_⟩
   ·rw [rowL_getD,rowL_getD]
    by_cases hi:i < a * b * d
    ·rw [if_pos hi,if_pos hi]
     obtain⟨h1,h2⟩:=grid_bd hi
     show meanZ _≤maxL _
     exact mean_le_max _ (I8b_mem zs hz _ _ _ _ _ _ _) (window_ne zs he ha hb hk h1 h2)
    ·rw [if_neg hi,if_neg hi];exact Int.le_refl _
   ·exact max_mk H W C A zs n c x0 x1 x2 x8 x11 x12 x13 x14 x15 x16 x17 x18 K S P O Z WA BA nW cW nB cB _ _ _ _ _ _ (fun w' hr'=>eachMax_yes H W C A zs n c hn ht hz x0 x1 x2 x8 x11 x12 x13 x14 x15 x16 x17 x18 K S P O Z WA BA nW cW nB cB a b d kk he ha hb hd hk _ rfl w' hr') w hr
   ·exact mean_mk H W C A zs n c x0 x1 x2 x8 x11 x12 x13 x14 x15 x16 x17 x18 K S P O Z WA BA nW cW nB cB _ _ _ _ _ _ (fun w' hr'=>eachAvg_yes H W C A zs n c hn ht hz x0 x1 x2 x8 x11 x12 x13 x14 x15 x16 x17 x18 K S P O Z WA BA nW cW nB cB a b d kk he ha hb hd hk _ rfl w' hr') w hr
   ·have h:=refPool_most H W C A zs n c hn ht hz x0 x1 x2 x8 x11 x12 x13 x14 x15 x16 x17 x18 K S P O Z WA BA nW cW nB cB a b d kk he ha hb hd hk _ rfl w hr
    rw [hms] at h
    exact h
   ·exact refPool_mean H W C A zs n c hn ht hz x0 x1 x2 x8 x11 x12 x13 x14 x15 x16 x17 x18 K S P O Z WA BA nW cW nB cB a b d kk he ha hb hd hk _ rfl w hr
  ·obtain⟨er,her⟩:∃ er,za7 H W C K S P C=er:=⟨_,rfl⟩
   have h0:er≠0:=by rw [← her];exact he
   refine⟨0,0,0,0,[],[],er,rfl,rfl,by omega,fun _=>Int.le_refl _,fun w hr=>?_,fun w hr=>?_,fun w _=>?_,fun w _=>?_⟩
   ·exact max_mk H W C A zs n c x0 x1 x2 x8 x11 x12 x13 x14 x15 x16 x17 x18 K S P O Z WA BA nW cW nB cB 0 0 0 0 [] er (fun w' _=>each_err H W C A n c x0 x1 x2 x8 x11 x12 x13 x14 x15 x16 x17 x18 K S P O Z WA BA nW cW nB cB _ ht er her h0 w') w hr
   ·exact mean_mk H W C A zs n c x0 x1 x2 x8 x11 x12 x13 x14 x15 x16 x17 x18 K S P O Z WA BA nW cW nB cB 0 0 0 0 [] er (fun w' _=>each_err H W C A n c x0 x1 x2 x8 x11 x12 x13 x14 x15 x16 x17 x18 K S P O Z WA BA nW cW nB cB _ ht er her h0 w') w hr
   ·exact refPool_err H W C A n c x0 x1 x2 x8 x11 x12 x13 x14 x15 x16 x17 x18 K S P O Z WA BA nW cW nB cB true ht er her h0 w
   ·exact refPool_err H W C A n c x0 x1 x2 x8 x11 x12 x13 x14 x15 x16 x17 x18 K S P O Z WA BA nW cW nB cB false ht er her h0 w
end CPool
end
section
namespace CJoin
open Plain CSat CFix CShape CTensor CConv
theorem tens_pos {H W C:Int} {n:Nat} (h:tensB H W C n=true):1≤n:=by
 exact Z58
theorem NBd.turned {Z Y m1 z1 m2 z2 lo hi:Int} (h:NBd Z Y m1 z1 m2 z2 lo hi):NBd Y Z m2 z1 m1 z1 lo hi:=by
 obtain⟨h1,h2,h3,h4,h5,h6,h7,h8⟩:=h
 exact⟨h2,h1,h5,h4,h3,h4,h7,h8⟩
theorem joinOf_all (H W C H1 W1 C1:Int) (A B:Option Addr) (zs ys:List Int) (n m c d:Nat) (hz:zs.length=n) (hy:ys.length=m) (bz:I8b zs) (by_:I8b ys) (hn6:n≤1000000) (x0 x1 x2:Value) (K S P O Z Y:Int) (WA BA:Option Addr) (nW cW nB cB:Nat) (m1 s1 z1 m2 s2 z2 lo hi:Int) (hnb:NBd Z Y m1 z1 m2 z2 lo hi) :
  ∃ (X V U:Int) (k:Nat) (xs:List Int) (er:Int),xs.length=k∧k≤1000000 ∧
   (∀ w:World,Kit.Rd w w.heap.size A (I8s zs)→Kit.Rd w w.heap.size B (I8s ys)→Calls Tryz.prog 16 #[.agg #[Jj Jq H,Jj Jq W,Jj Jq C,.slice A n c],.agg #[Jj Jq H1,Jj Jq W1,Jj Jq C1,.slice B m d],.agg #[x0,x1,x2,Jj Jq K,Jj Jq S,Jj Jq P,Jj Jq O,.int .i8 Z,.int .i8 Y,.slice WA nW cW,.slice BA nB cB,.int .i32 m1,Jj Jq s1,.int .i8 z1,.int .i32 m2,Jj Jq s2,.int .i8 z2,.int .i8 lo,.int .i8 hi]] w (MadeJ w X V U k xs (Jj Jq er))) ∧
   (∀ w:World,Kit.Rd w w.heap.size A (I8s zs)→Kit.Rd w w.heap.size B (I8s ys)→Calls Tryz.prog 24 #[.agg #[Jj Jq H,Jj Jq W,Jj Jq C,.slice A n c],.agg #[Jj Jq H1,Jj Jq W1,Jj Jq C1,.slice B m d],.agg #[x0,x1,x2,Jj Jq K,Jj Jq S,Jj Jq P,Jj Jq O,.int .i8 Z,.int .i8 Y,.slice WA nW cW,.slice BA nB cB,.int .i32 m1,Jj Jq s1,.int .i8 z1,.int .i32 m2,Jj Jq s2,.int .i8 z2,.int .i8 lo,.int .i8 hi]] w (MadeJ w X V U k xs (Jj Jq er))) ∧
   (∀ w:World,Kit.Rd w w.heap.size A (I8s zs)→Kit.Rd w w.heap.size B (I8s ys)→Calls Tryz.prog 16 #[.agg #[Jj Jq H1,Jj Jq W1,Jj Jq C1,.slice B m d],.agg #[Jj Jq H,Jj Jq W,Jj Jq C,.slice A n c],.agg #[x0,x1,x2,Jj Jq K,Jj Jq S,Jj Jq P,Jj Jq O,.int .i8 Y,.int .i8 Z,.slice WA nW cW,.slice BA nB cB,.int .i32 m2,Jj Jq s2,.int .i8 z1,.int .i32 m1,Jj Jq s1,.int .i8 z1,.int .i8 lo,.int .i8 hi]] w (MadeJ w X V U k xs (Jj Jq er))):=by
 cases h1:tensB H W C n
 ·refine⟨0,0,0,0,[],5,rfl,by omega,fun w _ _=>jof_bad1 H W C H1 W1 C1 A B n c m d x0 x1 x2 K S P O Z Y WA BA nW cW nB cB m1 s1 z1 m2 s2 z2 lo hi h1 w,fun w _ _=>rjof_bad1 H W C H1 W1 C1 A B n c m d x0 x1 x2 K S P O Z Y WA BA nW cW nB cB m1 s1 z1 m2 s2 z2 lo hi h1 w,fun w _ _=>?_⟩
  cases h2:tensB H1 W1 C1 m
  ·exact jof_bad1 H1 W1 C1 H W C B A m d n c x0 x1 x2 K S P O Y Z WA BA nW cW nB cB m2 s2 z1 m1 s1 z1 lo hi h2 w
  ·exact jof_bad2 H1 W1 C1 H W C B A m d n c x0 x1 x2 K S P O Y Z WA BA nW cW nB cB m2 s2 z1 m1 s1 z1 lo hi h2 h1 w
 ·cases h2:tensB H1 W1 C1 m
  ·exact⟨0,0,0,0,[],5,rfl,by omega,fun w _ _=>jof_bad2 H W C H1 W1 C1 A B n c m d x0 x1 x2 K S P O Z Y WA BA nW cW nB cB m1 s1 z1 m2 s2 z2 lo hi h1 h2 w,fun w _ _=>rjof_bad2 H W C H1 W1 C1 A B n c m d x0 x1 x2 K S P O Z Y WA BA nW cW nB cB m1 s1 z1 m2 s2 z2 lo hi h1 h2 w,fun w _ _=>jof_bad1 H1 W1 C1 H W C B A m d n c x0 x1 x2 K S P O Y Z WA BA nW cW nB cB m2 s2 z1 m1 s1 z1 lo hi h2 w⟩
  ·cases he:(H == H1 && (W == W1 && C == C1))
   ·have he2:(H1 == H && (W1 == W && C1 == C))=false:=by
     rw [← he]
     rw [Bool.beq_comm (a:=H1),Bool.beq_comm (a:=W1),Bool.beq_comm (a:=C1)]
    exact⟨0,0,0,0,[],5,rfl,by omega,fun w _ _=>jof_bad3 H W C H1 W1 C1 A B n c m d x0 x1 x2 K S P O Z Y WA BA nW cW nB cB m1 s1 z1 m2 s2 z2 lo hi h1 h2 he w,fun w _ _=>rjof_bad3 H W C H1 W1 C1 A B n c m d x0 x1 x2 K S P O Z Y WA BA nW cW nB cB m1 s1 z1 m2 s2 z2 lo hi h1 h2 he w,fun w _ _=>jof_bad3 H1 W1 C1 H W C B A m d n c x0 x1 x2 K S P O Y Z WA BA nW cW nB cB m2 s2 z1 m1 s1 z1 lo hi h2 h1 he2 w⟩
   ·obtain⟨e1,e2,e3⟩:H=H1∧W=W1∧C=C1:=by simpa using he
    subst e1 e2 e3
    have hnm:n=m:=by
     have q1:(n:Int)=H * W * C:=by have:=h1;unfold tensB at this;simp at this;exact this.2
     have q2:(m:Int)=H * W * C:=by have:=h2;unfold tensB at this;simp at this;exact this.2
     omega
    subst hnm
    cases hh:(zau m1 s1 && zau m2 s2)
    ·exact⟨0,0,0,0,[],7,rfl,by omega,fun w _ _=>jof_quant H W C A B n c d x0 x1 x2 K S P O Z Y WA BA nW cW nB cB m1 s1 z1 m2 s2 z2 lo hi h1 hh w,fun w _ _=>rjof_quant H W C A B n c d x0 x1 x2 K S P O Z Y WA BA nW cW nB cB m1 s1 z1 m2 s2 z2 lo hi h1 hh w,fun w _ _=>jof_quant H W C B A n d c x0 x1 x2 K S P O Y Z WA BA nW cW nB cB m2 s2 z1 m1 s1 z1 lo hi h1 (by rw [Bool.and_comm];exact hh) w⟩
    ·refine⟨H,W,C,n,rowL (joinF zs ys Z Y m1 s1 z1 m2 s2 lo hi) n,0,zbx _ _,hn6,fun w ra rb=>?_,fun w ra rb=>?_,fun w ra rb=>?_⟩
     ·exact jof_yes H W C A B n c d zs ys hz hy bz by_ x0 x1 x2 K S P O Z Y WA BA nW cW nB cB m1 s1 z1 m2 s2 z2 lo hi hnb h1 hh (tens_pos h1) hn6 w ra rb
     ·exact rjof_yes H W C A B n c d zs ys hz hy bz by_ x0 x1 x2 K S P O Z Y WA BA nW cW nB cB m1 s1 z1 m2 s2 z2 lo hi hnb h1 hh (tens_pos h1) hn6 _ (fun _=>rfl) w ra rb
     ·have h:=jof_yes H W C B A n d c ys zs hy hz by_ bz x0 x1 x2 K S P O Y Z WA BA nW cW nB cB m2 s2 z1 m1 s1 z1 lo hi hnb.turned h1 (by rw [Bool.and_comm];exact hh) (tens_pos h1) hn6 w rb ra
      have hF:joinF ys zs Y Z m2 s2 z1 m1 s1 lo hi=joinF zs ys Z Y m1 s1 z1 m2 s2 lo hi:=by
       funext k;unfold joinF;exact oneZ_turned _ _ _ _ _ _ _ _ _ _ _
      rw [hF] at h
      exact h
end CJoin
end
section
namespace CAct
open Plain CSat CFix CShape CTensor CConv
theorem all_of_r (A:Option Addr) (zs:List Int) (n c:Nat) (hn:zs.length=n) (hn6:n≤1000000) (hz:I32s zs) (x0 x1 x2:Value) (K S P O Z Y:Int) (WA BA:Option Addr) (nW cW nB cB:Nat) (m1 s1 z1 m2 s2 z2 lo hi:Int) (hnb:NBd Z Y m1 z1 m2 z2 lo hi) (hq:zau m1 s1=true) (w:World) (hr:Kit.Rd w w.heap.size A (I32v zs)) :
  Calls Tryz.prog 73 #[.slice A n c,.agg #[.int .i32 m1,Jj Jq s1,.int .i8 z1],.int .i8 lo,.int .i8 hi] w (fun e w'=>∃ v,e=.returned v∧w'.ownsRow w.heap.size 22 1 v n (I8s (zs.map fun a=>heldZ a m1 s1 z1 lo hi))∧Below w.heap.size w w'):=by
 obtain⟨-, -,⟨hm3,hm1⟩,⟨hz1,hz2⟩, -, -,⟨hl1,hl2⟩,⟨hh1,hh2⟩⟩:=hnb
 subst hn
 exact refAll_yes A zs c m1 s1 z1 lo hi hq hn6 hz hm3 hm1 hz1 hz2 hl1 hl2 hh1 hh2 _ rfl w hr
theorem rput_yes (H W C:Int) (A:Option Addr) (zs:List Int) (n c:Nat) (hn:zs.length=n) (hn6:n≤1000000) (hz:I32s zs) (x0 x1 x2:Value) (K S P O Z Y:Int) (WA BA:Option Addr) (nW cW nB cB:Nat) (m1 s1 z1 m2 s2 z2 lo hi:Int) (hnb:NBd Z Y m1 z1 m2 z2 lo hi) (E:Int) (hE:zaz H W C=E) (h0:¬ E=0) (h1:E=(n:Int)) (hq:zau m1 s1=true) (w:World) (hr:Kit.Rd w w.heap.size A (I32v zs)) :
  Calls Tryz.prog 28 #[.agg #[Jj Jq H,Jj Jq W,Jj Jq C,.slice A n c],.agg #[x0,x1,x2,Jj Jq K,Jj Jq S,Jj Jq P,Jj Jq O,.int .i8 Z,.int .i8 Y,.slice WA nW cW,.slice BA nB cB,.int .i32 m1,Jj Jq s1,.int .i8 z1,.int .i32 m2,Jj Jq s2,.int .i8 z2,.int .i8 lo,.int .i8 hi]] w (MadeT w H W C n (zs.map fun a=>heldZ a m1 s1 z1 lo hi) (Jj Jq 0)):=by
 have e1:(E == 0)=false:=by simp;omega
 have e2:¬ E=0:=h0
 have e3:(E != (n:Int))=false:=by simp;omega
 have e4:(E == (n:Int))=true:=by simp;omega
 have HE:=hid hE
 have HQ:=hid hq
 have HN:=hid hn
 have HZ:=hid hz
 have HNB:=hid hnb
 have HRA:=hid hr
 have HRA0:=HRA
 clear h1 hE hq hn hz hnb hr
 have TA:Hid (BoxAt w.heap.size H W C A n c (((w.alloc (.cells #[Jj Jq H,Jj Jq W,Jj Jq C,.slice A n c] 41)).alloc (.cells #[x0,x1,x2,Jj Jq K,Jj Jq S,Jj Jq P,Jj Jq O,.int .i8 Z,.int .i8 Y,.slice WA nW cW,.slice BA nB cB,.int .i32 m1,Jj Jq s1,.int .i8 z1,.int .i32 m2,Jj Jq s2,.int .i8 z2,.int .i8 lo,.int .i8 hi] 28)).alloc (.cells #[Jj Jq 0,Jj Jq 0,Jj Jq 0,.slice none 0 0] 32))):=hid ((zav H W C A n c 41 w).below (B':=w.heap.size+1) Zb3 (((Below.refl _ _).alloc Zb7 _).alloc Zb9 _))
 have TN:Hid (zae (w.heap.size+1) x0 x1 x2 (.int .i8 Y) (.int .i32 m1) (Jj Jq s1) (.int .i8 z1) (.int .i32 m2) (Jj Jq s2) (.int .i8 z2) (.int .i8 lo) (.int .i8 hi) K S P O Z WA BA nW cW nB cB (((w.alloc (.cells #[Jj Jq H,Jj Jq W,Jj Jq C,.slice A n c] 41)).alloc (.cells #[x0,x1,x2,Jj Jq K,Jj Jq S,Jj Jq P,Jj Jq O,.int .i8 Z,.int .i8 Y,.slice WA nW cW,.slice BA nB cB,.int .i32 m1,Jj Jq s1,.int .i8 z1,.int .i32 m2,Jj Jq s2,.int .i8 z2,.int .i8 lo,.int .i8 hi] 28)).alloc (.cells #[Jj Jq 0,Jj Jq 0,Jj Jq 0,.slice none 0 0] 32))):=by
  have h:=zae.new x0 x1 x2 (.int .i8 Y) (.int .i32 m1) (Jj Jq s1) (.int .i8 z1) (.int .i32 m2) (Jj Jq s2) (.int .i8 z2) (.int .i8 lo) (.int .i8 hi) K S P O Z WA BA nW cW nB cB 28 (w.alloc (.cells #[Jj Jq H,Jj Jq W,Jj Jq C,.slice A n c] 41))
  exact Z5e
 have FR:Hid (zbs (w.heap.size+2) (((w.alloc (.cells #[Jj Jq H,Jj Jq W,Jj Jq C,.slice A n c] 41)).alloc (.cells #[x0,x1,x2,Jj Jq K,Jj Jq S,Jj Jq P,Jj Jq O,.int .i8 Z,.int .i8 Y,.slice WA nW cW,.slice BA nB cB,.int .i32 m1,Jj Jq s1,.int .i8 z1,.int .i32 m2,Jj Jq s2,.int .i8 z2,.int .i8 lo,.int .i8 hi] 28)).alloc (.cells #[Jj Jq 0,Jj Jq 0,Jj Jq 0,.slice none 0 0] 32))):=by
  have h:=zaw 32 ((w.alloc (.cells #[Jj Jq H,Jj Jq W,Jj Jq C,.slice A n c] 41)).alloc (.cells #[x0,x1,x2,Jj Jq K,Jj Jq S,Jj Jq P,Jj Jq O,.int .i8 Z,.int .i8 Y,.slice WA nW cW,.slice BA nB cB,.int .i32 m1,Jj Jq s1,.int .i8 z1,.int .i32 m2,Jj Jq s2,.int .i8 z2,.int .i8 lo,.int .i8 hi] 28))
  simp only [World.size_alloc] at h
  exact hid h
 have HBW:Hid (Below w.heap.size w (((w.alloc (.cells #[Jj Jq H,Jj Jq W,Jj Jq C,.slice A n c] 41)).alloc (.cells #[x0,x1,x2,Jj Jq K,Jj Jq S,Jj Jq P,Jj Jq O,.int .i8 Z,.int .i8 Y,.slice WA nW cW,.slice BA nB cB,.int .i32 m1,Jj Jq s1,.int .i8 z1,.int .i32 m2,Jj Jq s2,.int .i8 z2,.int .i8 lo,.int .i8 hi] 28)).alloc (.cells #[Jj Jq 0,Jj Jq 0,Jj Jq 0,.slice none 0 0] 32))):=hid ((((Below.refl _ _).alloc (le_refl _) _).alloc Zb7 _).alloc Zba _)
 have yFR:w.heap.size+2 < (((w.alloc (.cells #[Jj Jq H,Jj Jq W,Jj Jq C,.slice A n c] 41)).alloc (.cells #[x0,x1,x2,Jj Jq K,Jj Jq S,Jj Jq P,Jj Jq O,.int .i8 Z,.int .i8 Y,.slice WA nW cW,.slice BA nB cB,.int .i32 m1,Jj Jq s1,.int .i8 z1,.int .i32 m2,Jj Jq s2,.int .i8 z2,.int .i8 lo,.int .i8 hi] 28)).alloc (.cells #[Jj Jq 0,Jj Jq 0,Jj Jq 0,.slice none 0 0] 32)).heap.size:=by simp
 go_enter Tryz.func28,Tryz.ntmps28
 go_upto_region 1 with fail
 generalize (((w.alloc (.cells #[Jj Jq H,Jj Jq W,Jj Jq C,.slice A n c] 41)).alloc (.cells #[x0,x1,x2,Jj Jq K,Jj Jq S,Jj Jq P,Jj Jq O,.int .i8 Z,.int .i8 Y,.slice WA nW cW,.slice BA nB cB,.int .i32 m1,Jj Jq s1,.int .i8 z1,.int .i32 m2,Jj Jq s2,.int .i8 z2,.int .i8 lo,.int .i8 hi] 28)).alloc (.cells #[Jj Jq 0,Jj Jq 0,Jj Jq 0,.slice none 0 0] 32))=W0 at TA TN FR HBW yFR ⊢
 refine wp_region_held_drew (S:=fun w'=>BoxAt w.heap.size H W C A n c w') Zb5 TA.out (fun hHeld=>?_)
 replace HBW:Hid (Below w.heap.size w W0.drew):=hid HBW.out.drew
 replace FR:Hid (zbs (w.heap.size+2) W0.drew):=FR
 replace TA:Hid (BoxAt w.heap.size H W C A n c W0.drew):=TA
 replace TN:Hid (zae (w.heap.size+1) x0 x1 x2 (.int .i8 Y) (.int .i32 m1) (Jj Jq s1) (.int .i8 z1) (.int .i32 m2) (Jj Jq s2) (.int .i8 z2) (.int .i8 lo) (.int .i8 hi) K S P O Z WA BA nW cW nB cB W0.drew):=TN
 replace yFR:w.heap.size+2 < W0.drew.heap.size:=yFR
 generalize W0.drew=V1 at HBW FR TA TN yFR hHeld ⊢
 refine Z8l ?_
 refine Z5y ?_
 refine Tk.y 1 (v:=?_) rfl ?_ ?_
 rotate_left
 ·exact Z3d
 refine Z5y ?_
 refine Tk.s 2 rfl (fun Kq hK=>?_)
 go_simp
 go_at_call 65
 refine (zas H W C E HE.out _).mono ?_
 rintro e V2 ⟨rfl,hb1⟩
 refine Z8g ?_;try clear FR TA TN HBW yFR;intro FR TA TN HBW yFR
 clear hHeld hb1
 dsimp only
 refine hK.out _ _ ?_ (fun hHeld=>?_)
 ·exact TA.out
 clear hK Kq
 refine Z5y ?_
 refine Z94 ?_
 refine Z5y ?_
 refine Z9b ?_
 refine Z5y ?_
 refine Za1 ?_
 refine Z5y ?_
 refine Tk.y 6 (v:=?_) rfl ?_ ?_
 rotate_left
 ·exact Z3d
 refine Z5y ?_
 refine Z9f ?_
 refine Z5y ?_
 refine Tk.y 9 (v:=?_) rfl ?_ ?_
 rotate_left
 ·exact Z3d
 refine Z5y ?_
 refine Z9o ?_
 refine Z5y ?_
 refine Tk.s 7 rfl (fun Kq hK=>?_)
 go_simp
 go_at_call 65
 refine (zas H W C E HE.out _).mono ?_
 rintro e V3 ⟨rfl,hb1⟩
 refine Z8g ?_;try clear FR TA TN HBW yFR;intro FR TA TN HBW yFR
 clear hHeld hb1
 dsimp only
 refine hK.out _ _ ?_ (fun hHeld=>?_)
 ·exact TA.out
 clear hK Kq
 refine Z5y ?_
 refine Za5 ?_
 refine Z5y ?_
 refine Zag ?_
 refine Z5y ?_
 refine Z6y ?_
 clear hHeld
 refine Z6q ?_;intro n11 n12 n13
 go_wp2_with (go_at_call 64;(refine (za8 _ _ _ _).mono ?_);rintro e w2 ⟨rfl,hb1⟩;(replace FR:=hid (FR.out.below yFR hb1));(replace TA:=hid (TA.out.below (Nat.lt_of_le_of_lt (Nat.le_add_right _ 2) yFR) hb1));(replace TN:=hid (TN.out.below (Nat.lt_of_le_of_lt (Nat.le_succ _) yFR) hb1));(replace HBW:=hid (HBW.out.trans (hb1.mono HBW.out.size)));(replace yFR:=Nat.lt_of_lt_of_le yFR hb1.size);(replace HRA:=hid ((HRA0.out.below HBW.out).more HBW.out.size));(rw [HQ.out]);clear hb1 n11 n12 n13)
 refine wp_region_held_drew (S:=fun w'=>BoxAt w.heap.size H W C A n c w'∧zae (w.heap.size+1) x0 x1 x2 (.int .i8 Y) (.int .i32 m1) (Jj Jq s1) (.int .i8 z1) (.int .i32 m2) (Jj Jq s2) (.int .i8 z2) (.int .i8 lo) (.int .i8 hi) K S P O Z WA BA nW cW nB cB w') Zb5 ⟨TA.out,TN.out⟩ (fun hHeld=>?_)
 refine Z8m ?_;try clear HBW HRA FR yFR TA TN;intro HBW HRA FR yFR TA TN
 generalize w2.drew=V1 at HBW HRA FR yFR TA TN hHeld ⊢
 refine Z8l ?_
 refine Z5y ?_
 refine Tk.y 1 (v:=?_) rfl ?_ ?_
 rotate_left
 ·exact Z42
 refine Z5y ?_
 refine Z8w ?_
 refine Z5y ?_
 refine Tk.y 3 (v:=?_) rfl ?_ ?_
 rotate_left
 ·exact Z42
 refine Z5y ?_
 refine Z9b ?_
 refine Z5y ?_
 refine Tk.y 5 (v:=?_) rfl ?_ ?_
 rotate_left
 ·exact Z56
 refine Z5y ?_
 refine Z9e ?_
 refine Z5y ?_
 refine Tk.y 7 (v:=?_) rfl ?_ ?_
 rotate_left
 ·intro wS hSw
  obtain⟨hq1,hq2⟩:=hSw
  have q17:=hq2.at 17 _ rfl;clear hq1 hq2
  exact Z0
 refine Z5y ?_
 refine Z9f ?_
 refine Z5y ?_
 refine Tk.y 9 (v:=?_) rfl ?_ ?_
 rotate_left
 ·intro wS hSw
  obtain⟨hq1,hq2⟩:=hSw
  have q18:=hq2.at 18 _ rfl;clear hq1 hq2
  exact Z0
 refine Z5y ?_
 refine Tk.s 10 rfl (fun Kq hK=>?_)
 go_simp
 go_at_call 73
 refine (all_of_r A zs n c HN.out hn6 HZ.out x0 x1 x2 K S P O Z Y WA BA nW cW nB cB m1 s1 z1 m2 s2 z2 lo hi HNB.out HQ.out V1 HRA.out).mono ?_
 exact Zp
end CAct
end
section
namespace CRun
open Plain CSat CShape CTensor CConv CKind CFix
def NB (g:Nat) (x:Nd) (w:World):Prop:=NdAt g x w
theorem NB.new (x:Nd) (T:TypeId) (w:World):NB w.heap.size x (w.alloc (.cells x.val T)):=NdAt.new x T w
theorem NB.below {g B':Nat} {x:Nd} {w w':World} (h:NB g x w) (hB:g < B') (hb:Below B' w w'):NB g x w':=NdAt.below h hB hb
theorem known_made (A:Option Addr) (c:Nat) (w:World) (hr:Kit.Rd w w.heap.size A (I8s [5,6])) (hT:zbv w) :
  Calls Tryz.prog 6 #[.agg #[Jj Jq 9,Jj Jq 0,Jj Jq 0,Jj Jq 0,Jj Jq 0,Jj Jq 0,Jj Jq 0,.int .i8 0,.int .i8 0,.slice none 0 0,.slice none 0 0,.int .i32 0,Jj Jq 0,.int .i8 0,.int .i32 0,Jj Jq 0,.int .i8 0,.int .i8 0,.int .i8 0],.agg #[Jj Jq 2,Jj Jq 1,Jj Jq 1,.slice A 2 c],.agg #[Jj Jq 0,Jj Jq 0,Jj Jq 0,.slice none 0 0]] w (CAct.MadeT w 1 1 2 2 [5,6] (Jj Jq 0)) :=
 cnode_9 (⟨9,0,0,0,0,0,0,0,0,none,0,0,none,0,0,0,0,0,0,0,0,0,0⟩:Nd) rfl 2 1 1 A 2 c 0 0 0 none 0 0 Zbc ⟨1,1,2,2,[5,6],0⟩ w
  (fun w1 hb=>by have h:=zbu (⟨9,0,0,0,0,0,0,0,0,none,0,0,none,0,0,0,0,0,0,0,0,0,0⟩:Nd) ⟨by decide,by decide,by decide,by decide⟩ w1 (hT.grown hb);rw [show ((⟨9,0,0,0,0,0,0,0,0,none,0,0,none,0,0,0,0,0,0,0,0,0,0⟩:Nd)).checkZ=0 from by decide] at h;exact h)
  (fun w1 hb=>CTensor.flat_yes 2 1 1 A [5,6] 2 c rfl Zbc Zbc w1 (le_refl _) ((hr.below hb).more hb.size))
theorem known26 (w:World) (hT:zbv w):Calls Tryz.prog 5 #[] w fun e w'=>e=.returned (.bool true)∧Below w.heap.size w w':=by
 have HT:=hid hT
 have HK:=hid known_made
 have HQ:=zb9 1 1 2 1 1 2
 have hg:=Tryz.eqGuardType30
 clear hT
 go_enter Tryz.func5,Tryz.ntmps5
 go_wp2_with (go_at_call 6;(with_reducible refine (HK.out _ _ _ (Kit.Rd.new w [.int .i8 5,.int .i8 6] 22 Zb7) (HT.out.grown ((Below.refl _ _).alloc (le_refl _) _))).mono ?_);rintro e1 w1 ⟨v,rfl,ho,hb⟩;obtain⟨A2,c2,rfl, -, -,hr⟩:=Kit.zaj ho;obtain⟨b2,off2,rfl,hlt,hc⟩:=Kit.Rd.ints (zs:=[5,6]) hr (j:=1) Zbc;have HB:Hid (Below w.heap.size w w1):=hid (((Below.refl _ _).alloc (le_refl _) _).trans (hb.mono Zb7));simp only [List.getElem_cons_succ,List.getElem_cons_zero] at hc;clear ho hb hr)
 go_ret
 exact⟨by simp,by exact HB.out.alloc HB.out.size _⟩
end CRun
end
end Go.Proofs.YtchpdhhpkljdhaaGreatDoor
