/- -/
import Derived.Test.YtahekhpeomcfjaaGreatDoorGJ46
import Derived.Test.YtahekhpeomcfjaaGreatDoorGJ47
open Go.Lib (hid)
open Nat (le_refl lt_of_succ_lt lt_succ_self)
set_option linter.unusedVariables false
set_option linter.unusedSimpArgs false
set_option maxRecDepth 100000
set_option maxHeartbeats 16000000
namespace Go.Proofs.YtahekhpeomcfjaaGreatDoor
namespace CConv
end CConv
namespace CFix
end CFix
namespace CKind
end CKind
namespace CSat
end CSat
namespace CShape
end CShape
namespace CTensor
end CTensor
open Go Go.ChangeShapes Go.WideShapes Go.ChangeAt Go.RowKit Go.Deep
section
namespace CRun
open Plain CSat CShape CTensor CConv CKind CFix
theorem zbt {e:Int} : I8b (Res.bad e).xs:=fun q=>by simp [Res.bad]
theorem eight_list {l:List Int} (h:∀ x∈l, -128≤x∧x≤127):I8b l:=fun q=>by
 rw [List.getD_eq_getElem?_getD]
 cases hq:l[q]? with
 | none=>simp
 | some x=>exact h x (List.mem_of_getElem? hq)
theorem eight_map (l:List Int) {F:Int→Int} (h:∀ a, -128≤F a∧F a≤127):I8b (l.map F):=eight_list fun x hx=>by
 obtain⟨a,_,rfl⟩:=List.mem_map.1 hx
 exact h a
theorem eight_row (F:Nat→Int) (n:Nat) (h:∀ k, -128≤F k∧F k≤127):I8b (CConv.rowL F n):=eight_list fun x hx=>by
 obtain⟨a,_,rfl⟩:=List.mem_map.1 hx
 exact h a
theorem wrap8_in (a:Int) : -128≤IntKind.i8.wrap a∧IntKind.i8.wrap a≤127:=by simp only [IntKind.wrap,IntKind.bits,IntKind.signed];(repeat' split) <;> simp at * <;> omega
theorem eight_max (zs:List Int) (hz:I8b zs) (H W C top left:Int) (kk o:Nat) : -128≤CPool.maxL (CPool.windowL zs H W C top left kk o)∧CPool.maxL (CPool.windowL zs H W C top left kk o)≤127 :=
 ⟨(CPool.maxL_ge _).2,CPool.maxL_le _ 127 (fun x hx=>(CPool.I8b_mem zs hz _ _ _ _ _ _ _ x hx).2) (by omega)⟩
theorem eight_pix (zs:List Int) (hz:I8b zs) (H W C h v k z:Int) (z1 : -128≤z) (z2:z≤127) : -128≤CPad.pixZ zs H W C h v k z∧CPad.pixZ zs H W C h v k z≤127:=by
 unfold CPad.pixZ
 split
 ·exact hz _
 ·exact⟨z1,z2⟩
theorem node_fun_sum (x:Nd) (hk:x.kd=1∨x.kd=2∨x.kd=3) (hc0:x.checkZ=0) (H W C:Int) (n:Nat) (H2 W2 C2:Int) (m:Nat) (zs ys:List Int) (hn:zs.length=n) (hz:I8b zs) (hn6:n≤1000000) (hm:ys.length=m) (hzm:I8b ys) (ht:tensB H W C n=true) (ws bs:List Int) (hN:NIn x ws bs) :
  ∃ r,Good x H W C H2 W2 C2 r∧I8b r.xs∧∀ (A B:Option Addr) (c d:Nat) (y:Nd) (w:World),Like x y→n≤c→Mem y A B zs ys ws bs w→Calls Tryz.prog 28 #[.agg y.val,.agg #[.int .i64 H,.int .i64 W,.int .i64 C,.slice A n c],.agg #[.int .i64 H2,.int .i64 W2,.int .i64 C2,.slice B m d]] w (MTen w r):=by
 obtain⟨r,hG,h32,hS⟩:=sum_fun_any x hk H W C n zs hn hz H2 W2 C2 ys ws bs hN
 obtain⟨-,hq, -⟩:=check_ok hc0
 have hr:=hq (by rcases hk with h | h | h <;> (rw [h];rfl))
 by_cases h0:r.er=0
 ·obtain⟨g1,g2,g3⟩:=hG.2.2.2 h0
  refine⟨⟨r.X,r.Y,r.U,r.m,r.xs.map fun a=>heldZ a x.m1 x.s1 x.z1 x.lo x.hi,0⟩,⟨by simp [hG.1],hG.2.1,fun h=>absurd rfl h,fun _=>⟨g1,g2,g3⟩⟩,eight_map _ (fun a=>CAct.heldZ_bd a _ _ _ _ _ hN.small.2.2.1.1 hN.small.2.2.1.2 hN.small.2.2.2.1 hN.small.2.2.2.2),fun A B c dB y w hy hnc hM=>?_⟩
  obtain⟨na,nb,rfl,hcy⟩:=hy
  exact cnode_sum (asN x na nb) hk H W C A n c H2 W2 C2 B m dB ht _ w (fun w1 hb=>by have h:=za1 (asN x na nb) hN.small w1 (hM.grown hb).2.2.2.2;rw [hcy,hc0] at h;exact h) (fun w1 hb=>csummed_ok (asN x na nb) H W C A n c r _ h0 w1 (fun w2 hb2=>hS A B c dB _ w2 ⟨na,nb,rfl,hcy⟩ hnc ((hM.grown hb).grown hb2)) (fun w2 A2 c2 hb2 hrd=>CAct.aput_yes r.X r.Y r.U A2 r.xs r.m c2 hG.1 hG.2.1 h32 (.int .i64 x.kd) (.int .i64 (asN x na nb).na) (.int .i64 (asN x na nb).nb) x.K x.S x.P x.O x.Z x.Y x.WA x.BA x.nW x.cW x.nB x.cB x.m1 x.s1 x.z1 x.m2 x.s2 x.z2 x.lo x.hi (show CAct.NBd x.Z x.Y x.m1 x.z1 x.m2 x.z2 x.lo x.hi from ⟨⟨hN.z1,hN.z2⟩,hN.small.2.1,hN.hm.1,hN.hm.2.1,hN.hm.2.2.1,hN.hm.2.2.2,hN.small.2.2.1,hN.small.2.2.2⟩) g3 hr w2 hrd))
 ·refine⟨Res.bad r.er,Good.bad _ _ _ _ _ _ _ _ h0,zbt,fun A B c dB y w hy hnc hM=>?_⟩
  obtain⟨na,nb,rfl,hcy⟩:=hy
  exact cnode_sum (asN x na nb) hk H W C A n c H2 W2 C2 B m dB ht _ w (fun w1 hb=>by have h:=za1 (asN x na nb) hN.small w1 (hM.grown hb).2.2.2.2;rw [hcy,hc0] at h;exact h) (fun w1 hb=>csummed_err (asN x na nb) H W C A n c r h0 w1 (fun w2 hb2=>hS A B c dB _ w2 ⟨na,nb,rfl,hcy⟩ hnc ((hM.grown hb).grown hb2)))
theorem node_fun_4 (x:Nd) (hk:x.kd=4) (hc0:x.checkZ=0) (H W C:Int) (n:Nat) (H2 W2 C2:Int) (m:Nat) (zs ys:List Int) (hn:zs.length=n) (hz:I8b zs) (hn6:n≤1000000) (hm:ys.length=m) (hzm:I8b ys) (ht:tensB H W C n=true) (ws bs:List Int) (hN:NIn x ws bs) :
  ∃ r,Good x H W C H2 W2 C2 r∧I8b r.xs∧∀ (A B:Option Addr) (c d:Nat) (y:Nd) (w:World),Like x y→n≤c→Mem y A B zs ys ws bs w→Calls Tryz.prog 28 #[.agg y.val,.agg #[.int .i64 H,.int .i64 W,.int .i64 C,.slice A n c],.agg #[.int .i64 H2,.int .i64 W2,.int .i64 C2,.slice B m d]] w (MTen w r):=by
 by_cases he:zaz H W C x.K x.S x.P C=0
 ·obtain⟨a,b,d,kk,ha,hb,hd,hkk,hN4⟩:=CPool.pool_letters he
  have hsr:=(za9 he).2.2.2.2.2
  refine⟨⟨a,b,C,a * b * d,CConv.rowL (CConv.gridF b d (CPool.greatF zs H W C x.S x.P kk)) (a * b * d),0⟩,⟨CConv.zbn _ _,by show a * b * d≤1000000;omega,fun h=>absurd rfl h,fun _=>⟨by simp [Nd.shE,hk,he],by simp [Nd.shV,hk,za8,he,ha,hb],tens_of (by rw [← ha, ← hb];exact hsr) (by rw [hd];simp)⟩⟩,eight_row _ _ (fun k=>eight_max zs hz _ _ _ _ _ _ _),fun A B c dB y w hy hnc hM=>?_⟩
  obtain⟨na,nb,rfl,hcy⟩:=hy
  exact cnode_4 (asN x na nb) hk H W C A n c H2 W2 C2 B _ _ ht _ w (fun w1 hb=>by have h:=za1 (asN x na nb) hN.small w1 (hM.grown hb).2.2.2.2;rw [hcy,hc0] at h;exact h) (fun w1 hb1=>CPool.max_mk H W C A zs n c (.int .i64 x.kd) (.int .i64 (asN x na nb).na) (.int .i64 (asN x na nb).nb) (.int .i8 x.Y) (.int .i32 x.m1) (.int .i64 x.s1) (.int .i8 x.z1) (.int .i32 x.m2) (.int .i64 x.s2) (.int .i8 x.z2) (.int .i8 x.lo) (.int .i8 x.hi) x.K x.S x.P x.O x.Z x.WA x.BA x.nW x.cW x.nB x.cB _ _ _ _ _ _ (fun w' hr'=>CPool.eachMax_yes H W C A zs n c hn ht hz (.int .i64 x.kd) (.int .i64 (asN x na nb).na) (.int .i64 (asN x na nb).nb) (.int .i8 x.Y) (.int .i32 x.m1) (.int .i64 x.s1) (.int .i8 x.z1) (.int .i32 x.m2) (.int .i64 x.s2) (.int .i8 x.z2) (.int .i8 x.lo) (.int .i8 x.hi) x.K x.S x.P x.O x.Z x.WA x.BA x.nW x.cW x.nB x.cB a b d kk he ha hb hd hkk _ rfl w' hr') w1 (hM.grown hb1).1)
 ·refine⟨Res.bad (zaz H W C x.K x.S x.P C),Good.bad _ _ _ _ _ _ _ _ he,zbt,fun A B c dB y w hy hnc hM=>?_⟩
  obtain⟨na,nb,rfl,hcy⟩:=hy
  exact cnode_4 (asN x na nb) hk H W C A n c H2 W2 C2 B _ _ ht _ w (fun w1 hb=>by have h:=za1 (asN x na nb) hN.small w1 (hM.grown hb).2.2.2.2;rw [hcy,hc0] at h;exact h) (fun w1 hb1=>CPool.max_mk H W C A zs n c (.int .i64 x.kd) (.int .i64 (asN x na nb).na) (.int .i64 (asN x na nb).nb) (.int .i8 x.Y) (.int .i32 x.m1) (.int .i64 x.s1) (.int .i8 x.z1) (.int .i32 x.m2) (.int .i64 x.s2) (.int .i8 x.z2) (.int .i8 x.lo) (.int .i8 x.hi) x.K x.S x.P x.O x.Z x.WA x.BA x.nW x.cW x.nB x.cB 0 0 0 0 [] _ (fun w' _=>CPool.each_err H W C A n c (.int .i64 x.kd) (.int .i64 (asN x na nb).na) (.int .i64 (asN x na nb).nb) (.int .i8 x.Y) (.int .i32 x.m1) (.int .i64 x.s1) (.int .i8 x.z1) (.int .i32 x.m2) (.int .i64 x.s2) (.int .i8 x.z2) (.int .i8 x.lo) (.int .i8 x.hi) x.K x.S x.P x.O x.Z x.WA x.BA x.nW x.cW x.nB x.cB _ ht _ rfl he w') w1 (hM.grown hb1).1)
theorem node_fun_5 (x:Nd) (hk:x.kd=5) (hc0:x.checkZ=0) (H W C:Int) (n:Nat) (H2 W2 C2:Int) (m:Nat) (zs ys:List Int) (hn:zs.length=n) (hz:I8b zs) (hn6:n≤1000000) (hm:ys.length=m) (hzm:I8b ys) (ht:tensB H W C n=true) (ws bs:List Int) (hN:NIn x ws bs) :
  ∃ r,Good x H W C H2 W2 C2 r∧I8b r.xs∧∀ (A B:Option Addr) (c d:Nat) (y:Nd) (w:World),Like x y→n≤c→Mem y A B zs ys ws bs w→Calls Tryz.prog 28 #[.agg y.val,.agg #[.int .i64 H,.int .i64 W,.int .i64 C,.slice A n c],.agg #[.int .i64 H2,.int .i64 W2,.int .i64 C2,.slice B m d]] w (MTen w r):=by
 by_cases he:zaz H W C x.K x.S x.P C=0
 ·obtain⟨a,b,d,kk,ha,hb,hd,hkk,hN4⟩:=CPool.pool_letters he
  have hsr:=(za9 he).2.2.2.2.2
  refine⟨⟨a,b,C,a * b * d,CConv.rowL (CConv.gridF b d (CPool.meanF zs H W C x.S x.P kk)) (a * b * d),0⟩,⟨CConv.zbn _ _,by show a * b * d≤1000000;omega,fun h=>absurd rfl h,fun _=>⟨by simp [Nd.shE,hk,he],by simp [Nd.shV,hk,za8,he,ha,hb],tens_of (by rw [← ha, ← hb];exact hsr) (by rw [hd];simp)⟩⟩,eight_row _ _ (fun k=>wrap8_in _),fun A B c dB y w hy hnc hM=>?_⟩
  obtain⟨na,nb,rfl,hcy⟩:=hy
  exact cnode_5 (asN x na nb) hk H W C A n c H2 W2 C2 B _ _ ht _ w (fun w1 hb=>by have h:=za1 (asN x na nb) hN.small w1 (hM.grown hb).2.2.2.2;rw [hcy,hc0] at h;exact h) (fun w1 hb1=>CPool.mean_mk H W C A zs n c (.int .i64 x.kd) (.int .i64 (asN x na nb).na) (.int .i64 (asN x na nb).nb) (.int .i8 x.Y) (.int .i32 x.m1) (.int .i64 x.s1) (.int .i8 x.z1) (.int .i32 x.m2) (.int .i64 x.s2) (.int .i8 x.z2) (.int .i8 x.lo) (.int .i8 x.hi) x.K x.S x.P x.O x.Z x.WA x.BA x.nW x.cW x.nB x.cB _ _ _ _ _ _ (fun w' hr'=>CPool.eachAvg_yes H W C A zs n c hn ht hz (.int .i64 x.kd) (.int .i64 (asN x na nb).na) (.int .i64 (asN x na nb).nb) (.int .i8 x.Y) (.int .i32 x.m1) (.int .i64 x.s1) (.int .i8 x.z1) (.int .i32 x.m2) (.int .i64 x.s2) (.int .i8 x.z2) (.int .i8 x.lo) (.int .i8 x.hi) x.K x.S x.P x.O x.Z x.WA x.BA x.nW x.cW x.nB x.cB a b d kk he ha hb hd hkk _ rfl w' hr') w1 (hM.grown hb1).1)
 ·refine⟨Res.bad (zaz H W C x.K x.S x.P C),Good.bad _ _ _ _ _ _ _ _ he,zbt,fun A B c dB y w hy hnc hM=>?_⟩
  obtain⟨na,nb,rfl,hcy⟩:=hy
  exact cnode_5 (asN x na nb) hk H W C A n c H2 W2 C2 B _ _ ht _ w (fun w1 hb=>by have h:=za1 (asN x na nb) hN.small w1 (hM.grown hb).2.2.2.2;rw [hcy,hc0] at h;exact h) (fun w1 hb1=>CPool.mean_mk H W C A zs n c (.int .i64 x.kd) (.int .i64 (asN x na nb).na) (.int .i64 (asN x na nb).nb) (.int .i8 x.Y) (.int .i32 x.m1) (.int .i64 x.s1) (.int .i8 x.z1) (.int .i32 x.m2) (.int .i64 x.s2) (.int .i8 x.z2) (.int .i8 x.lo) (.int .i8 x.hi) x.K x.S x.P x.O x.Z x.WA x.BA x.nW x.cW x.nB x.cB 0 0 0 0 [] _ (fun w' _=>CPool.each_err H W C A n c (.int .i64 x.kd) (.int .i64 (asN x na nb).na) (.int .i64 (asN x na nb).nb) (.int .i8 x.Y) (.int .i32 x.m1) (.int .i64 x.s1) (.int .i8 x.z1) (.int .i32 x.m2) (.int .i64 x.s2) (.int .i8 x.z2) (.int .i8 x.lo) (.int .i8 x.hi) x.K x.S x.P x.O x.Z x.WA x.BA x.nW x.cW x.nB x.cB _ ht _ rfl he w') w1 (hM.grown hb1).1)
theorem node_fun_6 (x:Nd) (hk:x.kd=6) (hc0:x.checkZ=0) (H W C:Int) (n:Nat) (H2 W2 C2:Int) (m:Nat) (zs ys:List Int) (hn:zs.length=n) (hz:I8b zs) (hn6:n≤1000000) (hm:ys.length=m) (hzm:I8b ys) (ht:tensB H W C n=true) (ws bs:List Int) (hN:NIn x ws bs) :
  ∃ r,Good x H W C H2 W2 C2 r∧I8b r.xs∧∀ (A B:Option Addr) (c d:Nat) (y:Nd) (w:World),Like x y→n≤c→Mem y A B zs ys ws bs w→Calls Tryz.prog 28 #[.agg y.val,.agg #[.int .i64 H,.int .i64 W,.int .i64 C,.slice A n c],.agg #[.int .i64 H2,.int .i64 W2,.int .i64 C2,.slice B m d]] w (MTen w r):=by
 obtain⟨-,hq,hq2⟩:=check_ok hc0
 have hr:za0 x.m1 x.s1=true:=hq (by rw [hk];rfl)
 have hr2:=hq2 hk
 have hs:=zcr ht
 cases h2:tensB H2 W2 C2 m
 ·exact⟨Res.bad 5,Good.bad _ _ _ _ _ _ _ _ (by decide),zbt,fun A B c dB y w hy hnc hM=>by obtain⟨na,nb,rfl,hcy⟩:=hy;exact cnode_6 (asN x na nb) hk H W C A n c H2 W2 C2 B m dB ht _ w (fun w1 hb=>by have h:=za1 (asN x na nb) hN.small w1 (hM.grown hb).2.2.2.2;rw [hcy,hc0] at h;exact h) (fun w1 hb1=>CJoin.jof_bad2 H W C H2 W2 C2 A B n c m dB (.int .i64 x.kd) (.int .i64 (asN x na nb).na) (.int .i64 (asN x na nb).nb) x.K x.S x.P x.O x.Z x.Y x.WA x.BA x.nW x.cW x.nB x.cB x.m1 x.s1 x.z1 x.m2 x.s2 x.z2 x.lo x.hi ht h2 w1)⟩
 ·cases he:(H == H2 && (W == W2 && C == C2))
  ·exact⟨Res.bad 5,Good.bad _ _ _ _ _ _ _ _ (by decide),zbt,fun A B c dB y w hy hnc hM=>by obtain⟨na,nb,rfl,hcy⟩:=hy;exact cnode_6 (asN x na nb) hk H W C A n c H2 W2 C2 B m dB ht _ w (fun w1 hb=>by have h:=za1 (asN x na nb) hN.small w1 (hM.grown hb).2.2.2.2;rw [hcy,hc0] at h;exact h) (fun w1 hb1=>CJoin.jof_bad3 H W C H2 W2 C2 A B n c m dB (.int .i64 x.kd) (.int .i64 (asN x na nb).na) (.int .i64 (asN x na nb).nb) x.K x.S x.P x.O x.Z x.Y x.WA x.BA x.nW x.cW x.nB x.cB x.m1 x.s1 x.z1 x.m2 x.s2 x.z2 x.lo x.hi ht h2 he w1)⟩
  ·obtain⟨e1,e2,e3⟩:H=H2∧W=W2∧C=C2:=by simpa using he
   subst e1;subst e2;subst e3
   have hnm:n=m:=by
    have q1:=tens_num ht
    have q2:=tens_num h2
    omega
   subst hnm
   refine⟨⟨H,W,C,n,CConv.rowL (CJoin.joinF zs ys x.Z x.Y x.m1 x.s1 x.z1 x.m2 x.s2 x.lo x.hi) n,0⟩,⟨CConv.zbn _ _,hn6,fun h=>absurd rfl h,fun _=>⟨by simp [Nd.shE,hk,hs],by simp [Nd.shV,Nd.shE,hk,hs],ht⟩⟩,eight_row _ _ (fun k=>CJoin.oneZ_bd (z2:=x.z2) (show CJoin.NBd x.Z x.Y x.m1 x.z1 x.m2 x.z2 x.lo x.hi from ⟨⟨hN.z1,hN.z2⟩,hN.small.2.1,hN.hm.1,hN.hm.2.1,hN.hm.2.2.1,hN.hm.2.2.2,hN.small.2.2.1,hN.small.2.2.2⟩)),fun A B c dB y w hy hnc hM=>?_⟩
   obtain⟨na,nb,rfl,hcy⟩:=hy
   exact cnode_6 (asN x na nb) hk H W C A n c H W C B n dB ht _ w (fun w1 hb=>by have h:=za1 (asN x na nb) hN.small w1 (hM.grown hb).2.2.2.2;rw [hcy,hc0] at h;exact h) (fun w1 hb1=>CJoin.jof_yes H W C A B n c dB zs ys hn hm hz hzm (.int .i64 x.kd) (.int .i64 (asN x na nb).na) (.int .i64 (asN x na nb).nb) x.K x.S x.P x.O x.Z x.Y x.WA x.BA x.nW x.cW x.nB x.cB x.m1 x.s1 x.z1 x.m2 x.s2 x.z2 x.lo x.hi (show CAct.NBd x.Z x.Y x.m1 x.z1 x.m2 x.z2 x.lo x.hi from ⟨⟨hN.z1,hN.z2⟩,hN.small.2.1,hN.hm.1,hN.hm.2.1,hN.hm.2.2.1,hN.hm.2.2.2,hN.small.2.2.1,hN.small.2.2.2⟩) ht (by rw [hr,hr2];rfl) (CJoin.tens_pos ht) hn6 w1 (hM.grown hb1).1 (hM.grown hb1).2.1)
theorem node_fun_7 (x:Nd) (hk:x.kd=7) (hc0:x.checkZ=0) (H W C:Int) (n:Nat) (H2 W2 C2:Int) (m:Nat) (zs ys:List Int) (hn:zs.length=n) (hz:I8b zs) (hn6:n≤1000000) (hm:ys.length=m) (hzm:I8b ys) (ht:tensB H W C n=true) (ws bs:List Int) (hN:NIn x ws bs) :
  ∃ r,Good x H W C H2 W2 C2 r∧I8b r.xs∧∀ (A B:Option Addr) (c d:Nat) (y:Nd) (w:World),Like x y→n≤c→Mem y A B zs ys ws bs w→Calls Tryz.prog 28 #[.agg y.val,.agg #[.int .i64 H,.int .i64 W,.int .i64 C,.slice A n c],.agg #[.int .i64 H2,.int .i64 W2,.int .i64 C2,.slice B m d]] w (MTen w r):=by
 obtain⟨-,hq, -⟩:=check_ok hc0
 have hr:za0 x.m1 x.s1=true:=hq (by rw [hk];rfl)
 have hs:=zcr ht
 refine⟨⟨H,W,C,n,CConv.rowL (fun k=>heldZ (zs.getD k 0 - x.Z) x.m1 x.s1 x.z1 x.lo x.hi) n,0⟩,⟨CConv.zbn _ _,hn6,fun h=>absurd rfl h,fun _=>⟨by simp [Nd.shE,hk,hs],by simp [Nd.shV,Nd.shE,hk,hs],ht⟩⟩,eight_row _ _ (fun k=>CAct.heldZ_bd _ _ _ _ _ _ hN.small.2.2.1.1 hN.small.2.2.1.2 hN.small.2.2.2.1 hN.small.2.2.2.2),fun A B c dB y w hy hnc hM=>?_⟩
 obtain⟨na,nb,rfl,hcy⟩:=hy
 exact cnode_7 (asN x na nb) hk H W C A n c H2 W2 C2 B m dB ht _ w (fun w1 hb=>by have h:=za1 (asN x na nb) hN.small w1 (hM.grown hb).2.2.2.2;rw [hcy,hc0] at h;exact h) (fun w1 hb1=>CAct.aof_yes H W C A n c zs hn hn6 hz (.int .i64 x.kd) (.int .i64 (asN x na nb).na) (.int .i64 (asN x na nb).nb) x.K x.S x.P x.O x.Z x.Y x.WA x.BA x.nW x.cW x.nB x.cB x.m1 x.s1 x.z1 x.m2 x.s2 x.z2 x.lo x.hi (show CAct.NBd x.Z x.Y x.m1 x.z1 x.m2 x.z2 x.lo x.hi from ⟨⟨hN.z1,hN.z2⟩,hN.small.2.1,hN.hm.1,hN.hm.2.1,hN.hm.2.2.1,hN.hm.2.2.2,hN.small.2.2.1,hN.small.2.2.2⟩) ht hr _ (fun _=>rfl) w1 (hM.grown hb1).1)
theorem node_fun_8 (x:Nd) (hk:x.kd=8) (hc0:x.checkZ=0) (H W C:Int) (n:Nat) (H2 W2 C2:Int) (m:Nat) (zs ys:List Int) (hn:zs.length=n) (hz:I8b zs) (hn6:n≤1000000) (hm:ys.length=m) (hzm:I8b ys) (ht:tensB H W C n=true) (ws bs:List Int) (hN:NIn x ws bs) :
  ∃ r,Good x H W C H2 W2 C2 r∧I8b r.xs∧∀ (A B:Option Addr) (c d:Nat) (y:Nd) (w:World),Like x y→n≤c→Mem y A B zs ys ws bs w→Calls Tryz.prog 28 #[.agg y.val,.agg #[.int .i64 H,.int .i64 W,.int .i64 C,.slice A n c],.agg #[.int .i64 H2,.int .i64 W2,.int .i64 C2,.slice B m d]] w (MTen w r):=by
 have hs:=zcr ht
 by_cases hp:x.P < 0∨4 < x.P
 ·exact⟨Res.bad 2,Good.bad _ _ _ _ _ _ _ _ (by decide),zbt,fun A B c dB y w hy hnc hM=>by obtain⟨na,nb,rfl,hcy⟩:=hy;exact cnode_8 (asN x na nb) hk H W C A n c H2 W2 C2 B m dB ht _ w (fun w1 hb=>by have h:=za1 (asN x na nb) hN.small w1 (hM.grown hb).2.2.2.2;rw [hcy,hc0] at h;exact h) (fun w1 hb1=>(CPad.around_err H W C A n c x.P x.Z 2 (by unfold CPad.mayZ;rw [if_pos ht,if_pos hp]) (by decide) w1))⟩
 ·have p0:0≤x.P:=by omega
  have p4:x.P≤4:=by omega
  cases hq:zad (H+2 * x.P) (W+2 * x.P) C
  ·exact⟨Res.bad 5,Good.bad _ _ _ _ _ _ _ _ (by decide),zbt,fun A B c dB y w hy hnc hM=>by obtain⟨na,nb,rfl,hcy⟩:=hy;exact cnode_8 (asN x na nb) hk H W C A n c H2 W2 C2 B m dB ht _ w (fun w1 hb=>by have h:=za1 (asN x na nb) hN.small w1 (hM.grown hb).2.2.2.2;rw [hcy,hc0] at h;exact h) (fun w1 hb1=>CPad.around_no H W C A n c x.P x.Z ht p0 p4 hq w1)⟩
  ·obtain⟨s1,s2,s3,s4,s5,s6,s7⟩:=zab hq
   obtain⟨a,ha⟩:∃ a:Nat,H+2 * x.P=(a:Int):=⟨(H+2 * x.P).toNat,by omega⟩
   obtain⟨b,hb⟩:∃ b:Nat,W+2 * x.P=(b:Int):=⟨(W+2 * x.P).toNat,by omega⟩
   obtain⟨e,hd⟩:∃ e:Nat,C=(e:Int):=⟨C.toNat,by omega⟩
   have hm:((a * b * e:Nat):Int)≤1024:=by
    have:((a * b * e:Nat):Int)=(H+2 * x.P) * (W+2 * x.P) * C:=by rw [ha,hb,hd];simp
    omega
   refine⟨⟨H+2 * x.P,W+2 * x.P,C,a * b * e,CPad.rowL (CPad.gridF b e (fun i j k=>CPad.pixZ zs H W C ((i:Int) - x.P) ((j:Int) - x.P) (k:Int) x.Z)) (a * b * e),0⟩,⟨CConv.zbn _ _,by show a * b * e≤1000000;omega,fun h=>absurd rfl h,fun _=>⟨by simp [Nd.shE,hk,hs,hq,hp],?_,tens_of hq (by rw [ha,hb,hd];simp)⟩⟩,eight_row _ _ (fun k=>eight_pix zs hz _ _ _ _ _ _ _ hN.z1 hN.z2),fun A B c dB y w hy hnc hM=>?_⟩
   ·have e0:x.shE H W C H2 W2 C2=0:=by simp [Nd.shE,hk,hs,hq,hp]
    unfold Nd.shV
    rw [e0]
    simp [hk]
   ·obtain⟨na,nb,rfl,hcy⟩:=hy
    refine cnode_8 (asN x na nb) hk H W C A n c H2 W2 C2 B _ _ ht _ w (fun w1 hb=>by have h:=za1 (asN x na nb) hN.small w1 (hM.grown hb).2.2.2.2;rw [hcy,hc0] at h;exact h) (fun w1 hb1=>?_)
    refine CPad.around_yes H W C A zs n c x.P x.Z hn hnc ht p0 p4 hq a b e ha hb hd _ rfl _ (fun i j k hi hj hkk=>?_) w1 (le_refl _) (hM.grown hb1).1
    rw [CPad.grid_at b e _ hj hkk,IntWalk.i64_in _ (by omega),IntWalk.i64_in _ (by omega)]
theorem node_fun_9 (x:Nd) (hk:x.kd=9) (hc0:x.checkZ=0) (H W C:Int) (n:Nat) (H2 W2 C2:Int) (m:Nat) (zs ys:List Int) (hn:zs.length=n) (hz:I8b zs) (hn6:n≤1000000) (hm:ys.length=m) (hzm:I8b ys) (ht:tensB H W C n=true) (ws bs:List Int) (hN:NIn x ws bs) :
  ∃ r,Good x H W C H2 W2 C2 r∧I8b r.xs∧∀ (A B:Option Addr) (c d:Nat) (y:Nd) (w:World),Like x y→n≤c→Mem y A B zs ys ws bs w→Calls Tryz.prog 28 #[.agg y.val,.agg #[.int .i64 H,.int .i64 W,.int .i64 C,.slice A n c],.agg #[.int .i64 H2,.int .i64 W2,.int .i64 C2,.slice B m d]] w (MTen w r):=by
 have hs:=zcr ht
 have hnE:zay H W C=(n:Int):=by rw [zaw hs];exact (tens_num ht).symm
 refine⟨⟨1,1,n,n,zs,0⟩,⟨hn,hn6,fun h=>absurd rfl h,fun _=>⟨by simp [Nd.shE,hk,hs],by simp [Nd.shV,Nd.shE,hk,hs,hnE],CTensor.flat_tens hnE ht⟩⟩,hz,fun A B c dB y w hy hnc hM=>?_⟩
 obtain⟨na,nb,rfl,hcy⟩:=hy
 exact cnode_9 (asN x na nb) hk H W C A n c H2 W2 C2 B m dB ht _ w (fun w1 hb=>by have h:=za1 (asN x na nb) hN.small w1 (hM.grown hb).2.2.2.2;rw [hcy,hc0] at h;exact h) (fun w1 hb1=>CTensor.flat_yes H W C A zs n c hn hn6 ht w1 (le_refl _) (hM.grown hb1).1)
theorem node_fun (x:Nd) (H W C:Int) (n:Nat) (H2 W2 C2:Int) (m:Nat) (zs ys:List Int) (hn:zs.length=n) (hz:I8b zs) (hn6:n≤1000000) (hm:ys.length=m) (hzm:I8b ys) (ws bs:List Int) (hN:NIn x ws bs) :
  ∃ r,Good x H W C H2 W2 C2 r∧I8b r.xs∧∀ (A B:Option Addr) (c d:Nat) (y:Nd) (w:World),Like x y→n≤c→Mem y A B zs ys ws bs w→Calls Tryz.prog 28 #[.agg y.val,.agg #[.int .i64 H,.int .i64 W,.int .i64 C,.slice A n c],.agg #[.int .i64 H2,.int .i64 W2,.int .i64 C2,.slice B m d]] w (MTen w r):=by
 by_cases hc0:x.checkZ=0
 ·cases ht:tensB H W C n
  ·exact⟨Res.bad 5,Good.bad _ _ _ _ _ _ _ _ (by decide),zbt,fun A B c dB y w hy hnc hM=>by obtain⟨na,nb,rfl,hcy⟩:=hy;exact cnode_bad (asN x na nb) H W C A n c H2 W2 C2 B m dB ht w (fun w1 hb=>by have h:=za1 (asN x na nb) hN.small w1 (hM.grown hb).2.2.2.2;rw [hcy,hc0] at h;exact h)⟩
  ·obtain⟨⟨k1,k9⟩, -⟩:=check_ok hc0
   have hk:(x.kd=1∨x.kd=2∨x.kd=3)∨x.kd=4∨x.kd=5∨x.kd=6∨x.kd=7∨x.kd=8∨x.kd=9:=by omega
   rcases hk with hk | hk | hk | hk | hk | hk | hk
   ·exact node_fun_sum x hk hc0 H W C n H2 W2 C2 m zs ys hn hz hn6 hm hzm ht ws bs hN
   ·exact node_fun_4 x hk hc0 H W C n H2 W2 C2 m zs ys hn hz hn6 hm hzm ht ws bs hN
   ·exact node_fun_5 x hk hc0 H W C n H2 W2 C2 m zs ys hn hz hn6 hm hzm ht ws bs hN
   ·exact node_fun_6 x hk hc0 H W C n H2 W2 C2 m zs ys hn hz hn6 hm hzm ht ws bs hN
   ·exact node_fun_7 x hk hc0 H W C n H2 W2 C2 m zs ys hn hz hn6 hm hzm ht ws bs hN
   ·exact node_fun_8 x hk hc0 H W C n H2 W2 C2 m zs ys hn hz hn6 hm hzm ht ws bs hN
   ·exact node_fun_9 x hk hc0 H W C n H2 W2 C2 m zs ys hn hz hn6 hm hzm ht ws bs hN
 ·exact⟨Res.bad x.checkZ,Good.bad _ _ _ _ _ _ _ _ hc0,zbt,fun A B c dB y w hy hnc hM=>by obtain⟨na,nb,rfl,hcy⟩:=hy;exact cnode_err (asN x na nb) H W C A n c H2 W2 C2 B m dB _ hc0 w (fun w1 hb=>by have h:=za1 (asN x na nb) hN.small w1 (hM.grown hb).2.2.2.2;rw [hcy] at h;exact h)⟩
end CRun
end
end Go.Proofs.YtahekhpeomcfjaaGreatDoor
