/- Texts of this seat, one behind the other: RunMadeN, KindOpen, RunKnown. -/
import Derived.Deep.CutRange
import Derived.Test.YtkpngknbiecdiaaGreatDoorGB10
import Derived.Test.YtkpngknbiecdiaaGreatDoorGB13
import Derived.Test.YtkpngknbiecdiaaGreatDoorGB22
import Derived.Test.YtkpngknbiecdiaaGreatDoorGB26
import Derived.Test.YtkpngknbiecdiaaGreatDoorGB28
import Derived.Test.YtkpngknbiecdiaaGreatDoorGB31
import Derived.Test.YtkpngknbiecdiaaGreatDoorGB34
import Derived.Test.YtkpngknbiecdiaaGreatDoorGB45
import Derived.Test.YtkpngknbiecdiaaGreatDoorGB46
import Derived.Test.YtkpngknbiecdiaaGreatDoorGB47
import Derived.Test.YtkpngknbiecdiaaGreatDoorGB49
import Derived.Test.YtkpngknbiecdiaaGreatDoorGB50
section
namespace Go.Proofs.YtkpngknbiecdiaaGreatDoor.CRun
set_option maxRecDepth 100000
open Go Go.ChangeShapes Go.WideShapes Go.ChangeAt Go.RowKit Go.Deep
open Plain CSat CShape CTensor CConv CKind CFix
set_option linter.unusedVariables false
set_option linter.unusedSimpArgs false
theorem node_made_sum (x:Nd) (hk:x.kd=1∨x.kd=2∨x.kd=3) (hc0:x.checkZ=0) (H W C:Int) (A:Option Addr) (n c:Nat) (H2 W2 C2:Int) (B:Option Addr) (m d:Nat) (zs ys:List Int) (hn:zs.length=n) (hz:I8b zs) (hn6:n≤1000000) (hnc:n≤c) (hm:ys.length=m) (hzm:I8b ys) (ht:tensB H W C n=true) (ws bs:List Int) (hN:NIn x ws bs) :
  ∃ r,Good x H W C H2 W2 C2 r∧∀ w,Mem x A B zs ys ws bs w→Calls Tryz.prog 8 #[.agg x.val,.agg #[.int .i64 H,.int .i64 W,.int .i64 C,.slice A n c],.agg #[.int .i64 H2,.int .i64 W2,.int .i64 C2,.slice B m d]] w (MTen w r):=by
 obtain⟨r,hG,h32,hS⟩:=sum_made_any x hk H W C A n c zs hn hz H2 W2 C2 B ys ws bs hN
 obtain⟨-,hq, -⟩:=check_ok hc0
 have hr:=hq (by rcases hk with h | h | h <;> (rw [h];rfl))
 by_cases h0:r.er=0
 ·obtain⟨g1,g2,g3⟩:=hG.2.2.2 h0
  refine⟨⟨r.X,r.Y,r.U,r.m,r.xs.map fun a=>heldZ a x.m1 x.s1 x.z1 x.lo x.hi,0⟩,⟨by simp [hG.1],hG.2.1,fun h=>absurd rfl h,fun _=>⟨g1,g2,g3⟩⟩,fun w hM=>?_⟩
  exact cnode_sum x hk H W C A n c H2 W2 C2 B m d ht _ w (fun w1 hb=>by have h:=check_to x hN.small w1 (hM.grown hb).2.2.2.2;rw [hc0] at h;exact h) (fun w1 hb=>csummed_ok x H W C A n c r _ h0 w1 (fun w2 hb2=>hS w2 ((hM.grown hb).grown hb2)) (fun w2 A2 c2 hb2 hrd=>CAct.aput_yes r.X r.Y r.U A2 r.xs r.m c2 hG.1 hG.2.1 h32 (.int .i64 x.kd) (.int .i64 x.na) (.int .i64 x.nb) x.K x.S x.P x.O x.Z x.Y x.WA x.BA x.nW x.cW x.nB x.cB x.m1 x.s1 x.z1 x.m2 x.s2 x.z2 x.lo x.hi (show CAct.NBd x.Z x.Y x.m1 x.z1 x.m2 x.z2 x.lo x.hi from ⟨⟨hN.z1,hN.z2⟩,hN.small.2.1,hN.hm.1,hN.hm.2.1,hN.hm.2.2.1,hN.hm.2.2.2,hN.small.2.2.1,hN.small.2.2.2⟩) g3 hr w2 hrd))
 ·refine⟨Res.bad r.er,Good.bad _ _ _ _ _ _ _ _ h0,fun w hM=>?_⟩
  exact cnode_sum x hk H W C A n c H2 W2 C2 B m d ht _ w (fun w1 hb=>by have h:=check_to x hN.small w1 (hM.grown hb).2.2.2.2;rw [hc0] at h;exact h) (fun w1 hb=>csummed_err x H W C A n c r h0 w1 (fun w2 hb2=>hS w2 ((hM.grown hb).grown hb2)))
theorem node_made_4 (x:Nd) (hk:x.kd=4) (hc0:x.checkZ=0) (H W C:Int) (A:Option Addr) (n c:Nat) (H2 W2 C2:Int) (B:Option Addr) (m d:Nat) (zs ys:List Int) (hn:zs.length=n) (hz:I8b zs) (hn6:n≤1000000) (hnc:n≤c) (hm:ys.length=m) (hzm:I8b ys) (ht:tensB H W C n=true) (ws bs:List Int) (hN:NIn x ws bs) :
  ∃ r,Good x H W C H2 W2 C2 r∧∀ w,Mem x A B zs ys ws bs w→Calls Tryz.prog 8 #[.agg x.val,.agg #[.int .i64 H,.int .i64 W,.int .i64 C,.slice A n c],.agg #[.int .i64 H2,.int .i64 W2,.int .i64 C2,.slice B m d]] w (MTen w r):=by
 by_cases he:slideE H W C x.K x.S x.P C=0
 ·obtain⟨a,b,d,kk,ha,hb,hd,hkk,hN4⟩:=CPool.pool_letters he
  have hsr:=(slide_ok he).2.2.2.2.2
  refine⟨⟨a,b,C,a * b * d,CConv.rowL (CConv.gridF b d (CPool.greatF zs H W C x.S x.P kk)) (a * b * d),0⟩,⟨CConv.rowL_len _ _,by show a * b * d≤1000000;omega,fun h=>absurd rfl h,fun _=>⟨by simp [Nd.shE,hk,he],by simp [Nd.shV,hk,slideS,he,ha,hb],tens_of (by rw [← ha, ← hb];exact hsr) (by rw [hd];simp)⟩⟩,fun w hM=>?_⟩
  exact cnode_4 x hk H W C A n c H2 W2 C2 B _ _ ht _ w (fun w1 hb=>by have h:=check_to x hN.small w1 (hM.grown hb).2.2.2.2;rw [hc0] at h;exact h) (fun w1 hb1=>CPool.max_mk H W C A zs n c (.int .i64 x.kd) (.int .i64 x.na) (.int .i64 x.nb) (.int .i8 x.Y) (.int .i32 x.m1) (.int .i64 x.s1) (.int .i8 x.z1) (.int .i32 x.m2) (.int .i64 x.s2) (.int .i8 x.z2) (.int .i8 x.lo) (.int .i8 x.hi) x.K x.S x.P x.O x.Z x.WA x.BA x.nW x.cW x.nB x.cB _ _ _ _ _ _ (fun w' hr'=>CPool.eachMax_yes H W C A zs n c hn ht hz (.int .i64 x.kd) (.int .i64 x.na) (.int .i64 x.nb) (.int .i8 x.Y) (.int .i32 x.m1) (.int .i64 x.s1) (.int .i8 x.z1) (.int .i32 x.m2) (.int .i64 x.s2) (.int .i8 x.z2) (.int .i8 x.lo) (.int .i8 x.hi) x.K x.S x.P x.O x.Z x.WA x.BA x.nW x.cW x.nB x.cB a b d kk he ha hb hd hkk _ rfl w' hr') w1 (hM.grown hb1).1)
 ·refine⟨Res.bad (slideE H W C x.K x.S x.P C),Good.bad _ _ _ _ _ _ _ _ he,fun w hM=>?_⟩
  exact cnode_4 x hk H W C A n c H2 W2 C2 B _ _ ht _ w (fun w1 hb=>by have h:=check_to x hN.small w1 (hM.grown hb).2.2.2.2;rw [hc0] at h;exact h) (fun w1 hb1=>CPool.max_mk H W C A zs n c (.int .i64 x.kd) (.int .i64 x.na) (.int .i64 x.nb) (.int .i8 x.Y) (.int .i32 x.m1) (.int .i64 x.s1) (.int .i8 x.z1) (.int .i32 x.m2) (.int .i64 x.s2) (.int .i8 x.z2) (.int .i8 x.lo) (.int .i8 x.hi) x.K x.S x.P x.O x.Z x.WA x.BA x.nW x.cW x.nB x.cB 0 0 0 0 [] _ (fun w' _=>CPool.each_err H W C A n c (.int .i64 x.kd) (.int .i64 x.na) (.int .i64 x.nb) (.int .i8 x.Y) (.int .i32 x.m1) (.int .i64 x.s1) (.int .i8 x.z1) (.int .i32 x.m2) (.int .i64 x.s2) (.int .i8 x.z2) (.int .i8 x.lo) (.int .i8 x.hi) x.K x.S x.P x.O x.Z x.WA x.BA x.nW x.cW x.nB x.cB _ ht _ rfl he w') w1 (hM.grown hb1).1)
theorem node_made_5 (x:Nd) (hk:x.kd=5) (hc0:x.checkZ=0) (H W C:Int) (A:Option Addr) (n c:Nat) (H2 W2 C2:Int) (B:Option Addr) (m d:Nat) (zs ys:List Int) (hn:zs.length=n) (hz:I8b zs) (hn6:n≤1000000) (hnc:n≤c) (hm:ys.length=m) (hzm:I8b ys) (ht:tensB H W C n=true) (ws bs:List Int) (hN:NIn x ws bs) :
  ∃ r,Good x H W C H2 W2 C2 r∧∀ w,Mem x A B zs ys ws bs w→Calls Tryz.prog 8 #[.agg x.val,.agg #[.int .i64 H,.int .i64 W,.int .i64 C,.slice A n c],.agg #[.int .i64 H2,.int .i64 W2,.int .i64 C2,.slice B m d]] w (MTen w r):=by
 by_cases he:slideE H W C x.K x.S x.P C=0
 ·obtain⟨a,b,d,kk,ha,hb,hd,hkk,hN4⟩:=CPool.pool_letters he
  have hsr:=(slide_ok he).2.2.2.2.2
  refine⟨⟨a,b,C,a * b * d,CConv.rowL (CConv.gridF b d (CPool.meanF zs H W C x.S x.P kk)) (a * b * d),0⟩,⟨CConv.rowL_len _ _,by show a * b * d≤1000000;omega,fun h=>absurd rfl h,fun _=>⟨by simp [Nd.shE,hk,he],by simp [Nd.shV,hk,slideS,he,ha,hb],tens_of (by rw [← ha, ← hb];exact hsr) (by rw [hd];simp)⟩⟩,fun w hM=>?_⟩
  exact cnode_5 x hk H W C A n c H2 W2 C2 B _ _ ht _ w (fun w1 hb=>by have h:=check_to x hN.small w1 (hM.grown hb).2.2.2.2;rw [hc0] at h;exact h) (fun w1 hb1=>CPool.mean_mk H W C A zs n c (.int .i64 x.kd) (.int .i64 x.na) (.int .i64 x.nb) (.int .i8 x.Y) (.int .i32 x.m1) (.int .i64 x.s1) (.int .i8 x.z1) (.int .i32 x.m2) (.int .i64 x.s2) (.int .i8 x.z2) (.int .i8 x.lo) (.int .i8 x.hi) x.K x.S x.P x.O x.Z x.WA x.BA x.nW x.cW x.nB x.cB _ _ _ _ _ _ (fun w' hr'=>CPool.eachAvg_yes H W C A zs n c hn ht hz (.int .i64 x.kd) (.int .i64 x.na) (.int .i64 x.nb) (.int .i8 x.Y) (.int .i32 x.m1) (.int .i64 x.s1) (.int .i8 x.z1) (.int .i32 x.m2) (.int .i64 x.s2) (.int .i8 x.z2) (.int .i8 x.lo) (.int .i8 x.hi) x.K x.S x.P x.O x.Z x.WA x.BA x.nW x.cW x.nB x.cB a b d kk he ha hb hd hkk _ rfl w' hr') w1 (hM.grown hb1).1)
 ·refine⟨Res.bad (slideE H W C x.K x.S x.P C),Good.bad _ _ _ _ _ _ _ _ he,fun w hM=>?_⟩
  exact cnode_5 x hk H W C A n c H2 W2 C2 B _ _ ht _ w (fun w1 hb=>by have h:=check_to x hN.small w1 (hM.grown hb).2.2.2.2;rw [hc0] at h;exact h) (fun w1 hb1=>CPool.mean_mk H W C A zs n c (.int .i64 x.kd) (.int .i64 x.na) (.int .i64 x.nb) (.int .i8 x.Y) (.int .i32 x.m1) (.int .i64 x.s1) (.int .i8 x.z1) (.int .i32 x.m2) (.int .i64 x.s2) (.int .i8 x.z2) (.int .i8 x.lo) (.int .i8 x.hi) x.K x.S x.P x.O x.Z x.WA x.BA x.nW x.cW x.nB x.cB 0 0 0 0 [] _ (fun w' _=>CPool.each_err H W C A n c (.int .i64 x.kd) (.int .i64 x.na) (.int .i64 x.nb) (.int .i8 x.Y) (.int .i32 x.m1) (.int .i64 x.s1) (.int .i8 x.z1) (.int .i32 x.m2) (.int .i64 x.s2) (.int .i8 x.z2) (.int .i8 x.lo) (.int .i8 x.hi) x.K x.S x.P x.O x.Z x.WA x.BA x.nW x.cW x.nB x.cB _ ht _ rfl he w') w1 (hM.grown hb1).1)
theorem node_made_6 (x:Nd) (hk:x.kd=6) (hc0:x.checkZ=0) (H W C:Int) (A:Option Addr) (n c:Nat) (H2 W2 C2:Int) (B:Option Addr) (m d:Nat) (zs ys:List Int) (hn:zs.length=n) (hz:I8b zs) (hn6:n≤1000000) (hnc:n≤c) (hm:ys.length=m) (hzm:I8b ys) (ht:tensB H W C n=true) (ws bs:List Int) (hN:NIn x ws bs) :
  ∃ r,Good x H W C H2 W2 C2 r∧∀ w,Mem x A B zs ys ws bs w→Calls Tryz.prog 8 #[.agg x.val,.agg #[.int .i64 H,.int .i64 W,.int .i64 C,.slice A n c],.agg #[.int .i64 H2,.int .i64 W2,.int .i64 C2,.slice B m d]] w (MTen w r):=by
 obtain⟨-,hq,hq2⟩:=check_ok hc0
 have hr:rightB x.m1 x.s1=true:=hq (by rw [hk];rfl)
 have hr2:=hq2 hk
 have hs:=tens_shape ht
 cases h2:tensB H2 W2 C2 m
 ·exact⟨Res.bad 5,Good.bad _ _ _ _ _ _ _ _ (by decide),fun w hM=>cnode_6 x hk H W C A n c H2 W2 C2 B m d ht _ w (fun w1 hb=>by have h:=check_to x hN.small w1 (hM.grown hb).2.2.2.2;rw [hc0] at h;exact h) (fun w1 hb1=>CJoin.jof_bad2 H W C H2 W2 C2 A B n c m d (.int .i64 x.kd) (.int .i64 x.na) (.int .i64 x.nb) x.K x.S x.P x.O x.Z x.Y x.WA x.BA x.nW x.cW x.nB x.cB x.m1 x.s1 x.z1 x.m2 x.s2 x.z2 x.lo x.hi ht h2 w1)⟩
 ·cases he:(H == H2 && (W == W2 && C == C2))
  ·exact⟨Res.bad 5,Good.bad _ _ _ _ _ _ _ _ (by decide),fun w hM=>cnode_6 x hk H W C A n c H2 W2 C2 B m d ht _ w (fun w1 hb=>by have h:=check_to x hN.small w1 (hM.grown hb).2.2.2.2;rw [hc0] at h;exact h) (fun w1 hb1=>CJoin.jof_bad3 H W C H2 W2 C2 A B n c m d (.int .i64 x.kd) (.int .i64 x.na) (.int .i64 x.nb) x.K x.S x.P x.O x.Z x.Y x.WA x.BA x.nW x.cW x.nB x.cB x.m1 x.s1 x.z1 x.m2 x.s2 x.z2 x.lo x.hi ht h2 he w1)⟩
  ·obtain⟨e1,e2,e3⟩:H=H2∧W=W2∧C=C2:=by simpa using he
   subst e1;subst e2;subst e3
   have hnm:n=m:=by
    have q1:=tens_num ht
    have q2:=tens_num h2
    omega
   subst hnm
   refine⟨⟨H,W,C,n,CConv.rowL (CJoin.joinF zs ys x.Z x.Y x.m1 x.s1 x.z1 x.m2 x.s2 x.lo x.hi) n,0⟩,⟨CConv.rowL_len _ _,hn6,fun h=>absurd rfl h,fun _=>⟨by simp [Nd.shE,hk,hs],by simp [Nd.shV,Nd.shE,hk,hs],ht⟩⟩,fun w hM=>?_⟩
   exact cnode_6 x hk H W C A n c H W C B n d ht _ w (fun w1 hb=>by have h:=check_to x hN.small w1 (hM.grown hb).2.2.2.2;rw [hc0] at h;exact h) (fun w1 hb1=>CJoin.jof_yes H W C A B n c d zs ys hn hm hz hzm (.int .i64 x.kd) (.int .i64 x.na) (.int .i64 x.nb) x.K x.S x.P x.O x.Z x.Y x.WA x.BA x.nW x.cW x.nB x.cB x.m1 x.s1 x.z1 x.m2 x.s2 x.z2 x.lo x.hi (show CAct.NBd x.Z x.Y x.m1 x.z1 x.m2 x.z2 x.lo x.hi from ⟨⟨hN.z1,hN.z2⟩,hN.small.2.1,hN.hm.1,hN.hm.2.1,hN.hm.2.2.1,hN.hm.2.2.2,hN.small.2.2.1,hN.small.2.2.2⟩) ht (by rw [hr,hr2];rfl) (CJoin.tens_pos ht) hn6 w1 (hM.grown hb1).1 (hM.grown hb1).2.1)
theorem node_made_7 (x:Nd) (hk:x.kd=7) (hc0:x.checkZ=0) (H W C:Int) (A:Option Addr) (n c:Nat) (H2 W2 C2:Int) (B:Option Addr) (m d:Nat) (zs ys:List Int) (hn:zs.length=n) (hz:I8b zs) (hn6:n≤1000000) (hnc:n≤c) (hm:ys.length=m) (hzm:I8b ys) (ht:tensB H W C n=true) (ws bs:List Int) (hN:NIn x ws bs) :
  ∃ r,Good x H W C H2 W2 C2 r∧∀ w,Mem x A B zs ys ws bs w→Calls Tryz.prog 8 #[.agg x.val,.agg #[.int .i64 H,.int .i64 W,.int .i64 C,.slice A n c],.agg #[.int .i64 H2,.int .i64 W2,.int .i64 C2,.slice B m d]] w (MTen w r):=by
 obtain⟨-,hq, -⟩:=check_ok hc0
 have hr:rightB x.m1 x.s1=true:=hq (by rw [hk];rfl)
 have hs:=tens_shape ht
 refine⟨⟨H,W,C,n,CConv.rowL (fun k=>heldZ (zs.getD k 0 - x.Z) x.m1 x.s1 x.z1 x.lo x.hi) n,0⟩,⟨CConv.rowL_len _ _,hn6,fun h=>absurd rfl h,fun _=>⟨by simp [Nd.shE,hk,hs],by simp [Nd.shV,Nd.shE,hk,hs],ht⟩⟩,fun w hM=>?_⟩
 exact cnode_7 x hk H W C A n c H2 W2 C2 B m d ht _ w (fun w1 hb=>by have h:=check_to x hN.small w1 (hM.grown hb).2.2.2.2;rw [hc0] at h;exact h) (fun w1 hb1=>CAct.aof_yes H W C A n c zs hn hn6 hz (.int .i64 x.kd) (.int .i64 x.na) (.int .i64 x.nb) x.K x.S x.P x.O x.Z x.Y x.WA x.BA x.nW x.cW x.nB x.cB x.m1 x.s1 x.z1 x.m2 x.s2 x.z2 x.lo x.hi (show CAct.NBd x.Z x.Y x.m1 x.z1 x.m2 x.z2 x.lo x.hi from ⟨⟨hN.z1,hN.z2⟩,hN.small.2.1,hN.hm.1,hN.hm.2.1,hN.hm.2.2.1,hN.hm.2.2.2,hN.small.2.2.1,hN.small.2.2.2⟩) ht hr _ (fun _=>rfl) w1 (hM.grown hb1).1)
theorem node_made_8 (x:Nd) (hk:x.kd=8) (hc0:x.checkZ=0) (H W C:Int) (A:Option Addr) (n c:Nat) (H2 W2 C2:Int) (B:Option Addr) (m d:Nat) (zs ys:List Int) (hn:zs.length=n) (hz:I8b zs) (hn6:n≤1000000) (hnc:n≤c) (hm:ys.length=m) (hzm:I8b ys) (ht:tensB H W C n=true) (ws bs:List Int) (hN:NIn x ws bs) :
  ∃ r,Good x H W C H2 W2 C2 r∧∀ w,Mem x A B zs ys ws bs w→Calls Tryz.prog 8 #[.agg x.val,.agg #[.int .i64 H,.int .i64 W,.int .i64 C,.slice A n c],.agg #[.int .i64 H2,.int .i64 W2,.int .i64 C2,.slice B m d]] w (MTen w r):=by
 have hs:=tens_shape ht
 by_cases hp:x.P < 0∨4 < x.P
 ·exact⟨Res.bad 2,Good.bad _ _ _ _ _ _ _ _ (by decide),fun w hM=>cnode_8 x hk H W C A n c H2 W2 C2 B m d ht _ w (fun w1 hb=>by have h:=check_to x hN.small w1 (hM.grown hb).2.2.2.2;rw [hc0] at h;exact h) (fun w1 hb1=>(CPad.around_err H W C A n c x.P x.Z 2 (by unfold CPad.mayZ;rw [if_pos ht,if_pos hp]) (by decide) w1))⟩
 ·have p0:0≤x.P:=by omega
  have p4:x.P≤4:=by omega
  cases hq:shapeB (H+2 * x.P) (W+2 * x.P) C
  ·exact⟨Res.bad 5,Good.bad _ _ _ _ _ _ _ _ (by decide),fun w hM=>cnode_8 x hk H W C A n c H2 W2 C2 B m d ht _ w (fun w1 hb=>by have h:=check_to x hN.small w1 (hM.grown hb).2.2.2.2;rw [hc0] at h;exact h) (fun w1 hb1=>CPad.around_no H W C A n c x.P x.Z ht p0 p4 hq w1)⟩
  ·obtain⟨s1,s2,s3,s4,s5,s6,s7⟩:=shapeB_yes hq
   obtain⟨a,ha⟩:∃ a:Nat,H+2 * x.P=(a:Int):=⟨(H+2 * x.P).toNat,by omega⟩
   obtain⟨b,hb⟩:∃ b:Nat,W+2 * x.P=(b:Int):=⟨(W+2 * x.P).toNat,by omega⟩
   obtain⟨e,hd⟩:∃ e:Nat,C=(e:Int):=⟨C.toNat,by omega⟩
   have hm:((a * b * e:Nat):Int)≤1024:=by
    have:((a * b * e:Nat):Int)=(H+2 * x.P) * (W+2 * x.P) * C:=by rw [ha,hb,hd];simp
    omega
   refine⟨⟨H+2 * x.P,W+2 * x.P,C,a * b * e,CPad.rowL (CPad.gridF b e (fun i j k=>CPad.pixZ zs H W C ((i:Int) - x.P) ((j:Int) - x.P) (k:Int) x.Z)) (a * b * e),0⟩,⟨CConv.rowL_len _ _,by show a * b * e≤1000000;omega,fun h=>absurd rfl h,fun _=>⟨by simp [Nd.shE,hk,hs,hq,hp],?_,tens_of hq (by rw [ha,hb,hd];simp)⟩⟩,fun w hM=>?_⟩
   ·have e0:x.shE H W C H2 W2 C2=0:=by simp [Nd.shE,hk,hs,hq,hp]
    unfold Nd.shV
    rw [e0]
    simp [hk]
   ·refine cnode_8 x hk H W C A n c H2 W2 C2 B _ _ ht _ w (fun w1 hb=>by have h:=check_to x hN.small w1 (hM.grown hb).2.2.2.2;rw [hc0] at h;exact h) (fun w1 hb1=>?_)
    refine CPad.around_yes H W C A zs n c x.P x.Z hn hnc ht p0 p4 hq a b e ha hb hd _ rfl _ (fun i j k hi hj hkk=>?_) w1 (Nat.le_refl _) (hM.grown hb1).1
    rw [CPad.grid_at b e _ hj hkk,IntWalk.i64_in _ (by omega),IntWalk.i64_in _ (by omega)]
theorem node_made_9 (x:Nd) (hk:x.kd=9) (hc0:x.checkZ=0) (H W C:Int) (A:Option Addr) (n c:Nat) (H2 W2 C2:Int) (B:Option Addr) (m d:Nat) (zs ys:List Int) (hn:zs.length=n) (hz:I8b zs) (hn6:n≤1000000) (hnc:n≤c) (hm:ys.length=m) (hzm:I8b ys) (ht:tensB H W C n=true) (ws bs:List Int) (hN:NIn x ws bs) :
  ∃ r,Good x H W C H2 W2 C2 r∧∀ w,Mem x A B zs ys ws bs w→Calls Tryz.prog 8 #[.agg x.val,.agg #[.int .i64 H,.int .i64 W,.int .i64 C,.slice A n c],.agg #[.int .i64 H2,.int .i64 W2,.int .i64 C2,.slice B m d]] w (MTen w r):=by
 have hs:=tens_shape ht
 have hnE:elemsZ H W C=(n:Int):=by rw [elemsZ_yes hs];exact (tens_num ht).symm
 refine⟨⟨1,1,n,n,zs,0⟩,⟨hn,hn6,fun h=>absurd rfl h,fun _=>⟨by simp [Nd.shE,hk,hs],by simp [Nd.shV,Nd.shE,hk,hs,hnE],CTensor.flat_tens hnE ht⟩⟩,fun w hM=>?_⟩
 exact cnode_9 x hk H W C A n c H2 W2 C2 B m d ht _ w (fun w1 hb=>by have h:=check_to x hN.small w1 (hM.grown hb).2.2.2.2;rw [hc0] at h;exact h) (fun w1 hb1=>CTensor.flat_yes H W C A zs n c hn hn6 ht w1 (Nat.le_refl _) (hM.grown hb1).1)
theorem node_made (x:Nd) (H W C:Int) (A:Option Addr) (n c:Nat) (H2 W2 C2:Int) (B:Option Addr) (m d:Nat) (zs ys:List Int) (hn:zs.length=n) (hz:I8b zs) (hn6:n≤1000000) (hnc:n≤c) (hm:ys.length=m) (hzm:I8b ys) (ws bs:List Int) (hN:NIn x ws bs) :
  ∃ r,Good x H W C H2 W2 C2 r∧∀ w,Mem x A B zs ys ws bs w→Calls Tryz.prog 8 #[.agg x.val,.agg #[.int .i64 H,.int .i64 W,.int .i64 C,.slice A n c],.agg #[.int .i64 H2,.int .i64 W2,.int .i64 C2,.slice B m d]] w (MTen w r):=by
 by_cases hc0:x.checkZ=0
 ·cases ht:tensB H W C n
  ·exact⟨Res.bad 5,Good.bad _ _ _ _ _ _ _ _ (by decide),fun w hM=>cnode_bad x H W C A n c H2 W2 C2 B m d ht w (fun w1 hb=>by have h:=check_to x hN.small w1 (hM.grown hb).2.2.2.2;rw [hc0] at h;exact h)⟩
  ·obtain⟨⟨k1,k9⟩, -⟩:=check_ok hc0
   have hk:(x.kd=1∨x.kd=2∨x.kd=3)∨x.kd=4∨x.kd=5∨x.kd=6∨x.kd=7∨x.kd=8∨x.kd=9:=by omega
   rcases hk with hk | hk | hk | hk | hk | hk | hk
   ·exact node_made_sum x hk hc0 H W C A n c H2 W2 C2 B m d zs ys hn hz hn6 hnc hm hzm ht ws bs hN
   ·exact node_made_4 x hk hc0 H W C A n c H2 W2 C2 B m d zs ys hn hz hn6 hnc hm hzm ht ws bs hN
   ·exact node_made_5 x hk hc0 H W C A n c H2 W2 C2 B m d zs ys hn hz hn6 hnc hm hzm ht ws bs hN
   ·exact node_made_6 x hk hc0 H W C A n c H2 W2 C2 B m d zs ys hn hz hn6 hnc hm hzm ht ws bs hN
   ·exact node_made_7 x hk hc0 H W C A n c H2 W2 C2 B m d zs ys hn hz hn6 hnc hm hzm ht ws bs hN
   ·exact node_made_8 x hk hc0 H W C A n c H2 W2 C2 B m d zs ys hn hz hn6 hnc hm hzm ht ws bs hN
   ·exact node_made_9 x hk hc0 H W C A n c H2 W2 C2 B m d zs ys hn hz hn6 hnc hm hzm ht ws bs hN
 ·exact⟨Res.bad x.checkZ,Good.bad _ _ _ _ _ _ _ _ hc0,fun w hM=>cnode_err x H W C A n c H2 W2 C2 B m d _ hc0 w (fun w1 hb=>check_to x hN.small w1 (hM.grown hb).2.2.2.2)⟩
end Go.Proofs.YtkpngknbiecdiaaGreatDoor.CRun
end
section
namespace Go.Proofs.YtkpngknbiecdiaaGreatDoor.CKind
set_option maxRecDepth 100000
open Go Go.ChangeShapes Go.WideShapes Go.ChangeAt Go.RowKit Go.Deep
open Plain CSat CShape CTensor CConv
set_option linter.unusedVariables false
set_option linter.unusedSimpArgs false
theorem node_types:Tryz.prog.cellTypes Tryz.prog.depth 28=some [3,3,3,3,3,3,3,22,22,23,24,21,3,22,21,3,22,22,22]:=by kernel_rfl
theorem cell_int {P:Program} {w:World} {r:Reach} {b0:Nat} {t u:TypeId} {fs:Array Field} {cs:Array Value} {ts:List TypeId} (ht:P.underlying t=some (.struct fs)) (hts:P.cellTypes P.depth t=some ts) (hv:Value.okWide P w r b0 t (.agg cs))
  (i:Nat) (v:Value) (hi:cs[i]?=some v) (hu:ts[i % ts.length]?=some u) (k:IntKind) (hk:P.underlying u=some (.int k)):∃ n,v=.int k n∧k.min≤n∧n≤k.max:=by
 simp only [Value.okWide,ht] at hv
 obtain⟨cs',e,_,ts',hts',_,hr⟩:=hv
 cases e
 rw [hts] at hts'
 cases hts'
 obtain⟨u',hu',hc⟩:=hr i v hi
 rw [hu] at hu'
 cases hu'
 unfold Cell.okWide Cell.ok at hc
 rw [hk] at hc
 cases v <;> simp at hc
 obtain⟨rfl,h⟩:=hc
 exact⟨_,rfl,h.1,h.2⟩
def NdBd (kd na nb Y m1 s1 z1 m2 s2 z2 lo hi:Int):Prop:=(-9223372036854775808≤kd∧kd≤9223372036854775807)∧(-9223372036854775808≤na∧na≤9223372036854775807)∧(-9223372036854775808≤nb∧nb≤9223372036854775807)∧(-128≤Y∧Y≤127)∧(-2147483648≤m1∧m1≤2147483647)∧(-9223372036854775808≤s1∧s1≤9223372036854775807)∧(-128≤z1∧z1≤127)∧(-2147483648≤m2∧m2≤2147483647)∧(-9223372036854775808≤s2∧s2≤9223372036854775807)∧(-128≤z2∧z2≤127)∧(-128≤lo∧lo≤127)∧(-128≤hi∧hi≤127)
theorem nd_cells {w:World} {r:Reach} {b0:Nat} {a0 a1 a2 a3 a4 a5 a6 a7 a8 a9 a10 a11 a12 a13 a14 a15 a16 a17 a18:Value} (hv:Value.okWide Tryz.prog w r b0 28 (.agg #[a0,a1,a2,a3,a4,a5,a6,a7,a8,a9,a10,a11,a12,a13,a14,a15,a16,a17,a18])) :
  ∃ kd na nb Y m1 s1 z1 m2 s2 z2 lo hi:Int,(a0=.int .i64 kd∧a1=.int .i64 na∧a2=.int .i64 nb∧a8=.int .i8 Y∧a11=.int .i32 m1∧a12=.int .i64 s1∧a13=.int .i8 z1∧a14=.int .i32 m2∧a15=.int .i64 s2∧a16=.int .i8 z2∧a17=.int .i8 lo∧a18=.int .i8 hi)∧NdBd kd na nb Y m1 s1 z1 m2 s2 z2 lo hi:=by
 have h:=fun (i:Nat) (v:Value) hi u hu k hk=>cell_int (u:=u) Tryz.underlying28 node_types hv i v hi hu k hk
 obtain⟨kd,e0,l0,u0⟩:=h 0 a0 rfl _ rfl .i64 Tryz.underlying3
 obtain⟨na,e1,l1,u1⟩:=h 1 a1 rfl _ rfl .i64 Tryz.underlying3
 obtain⟨nb,e2,l2,u2⟩:=h 2 a2 rfl _ rfl .i64 Tryz.underlying3
 obtain⟨Y,e8,l8,u8⟩:=h 8 a8 rfl _ rfl .i8 Tryz.underlying22
 obtain⟨m1,e11,l11,u11⟩:=h 11 a11 rfl _ rfl .i32 Tryz.underlying21
 obtain⟨s1,e12,l12,u12⟩:=h 12 a12 rfl _ rfl .i64 Tryz.underlying3
 obtain⟨z1,e13,l13,u13⟩:=h 13 a13 rfl _ rfl .i8 Tryz.underlying22
 obtain⟨m2,e14,l14,u14⟩:=h 14 a14 rfl _ rfl .i32 Tryz.underlying21
 obtain⟨s2,e15,l15,u15⟩:=h 15 a15 rfl _ rfl .i64 Tryz.underlying3
 obtain⟨z2,e16,l16,u16⟩:=h 16 a16 rfl _ rfl .i8 Tryz.underlying22
 obtain⟨lo,e17,l17,u17⟩:=h 17 a17 rfl _ rfl .i8 Tryz.underlying22
 obtain⟨hi,e18,l18,u18⟩:=h 18 a18 rfl _ rfl .i8 Tryz.underlying22
 clear h hv
 simp only [IntKind.min,IntKind.max,IntKind.signed,IntKind.bits] at *
 refine⟨kd,na,nb,Y,m1,s1,z1,m2,s2,z2,lo,hi,⟨e0,e1,e2,e8,e11,e12,e13,e14,e15,e16,e17,e18⟩,?_⟩
 unfold NdBd
 simp at *
 omega
end Go.Proofs.YtkpngknbiecdiaaGreatDoor.CKind
end
section
namespace Go.Proofs.YtkpngknbiecdiaaGreatDoor.CRun
set_option maxRecDepth 100000
open Go Go.ChangeShapes Go.WideShapes Go.ChangeAt Go.RowKit Go.Deep
open Plain CSat CShape CTensor CConv CKind CFix
set_option linter.unusedVariables false
set_option linter.unusedSimpArgs false
def NB (g:Nat) (x:Nd) (w:World):Prop:=NdAt g x w
theorem NB.new (x:Nd) (T:TypeId) (w:World):NB w.heap.size x (w.alloc (.cells x.val T)):=NdAt.new x T w
theorem NB.below {g B':Nat} {x:Nd} {w w':World} (h:NB g x w) (hB:g < B') (hb:Below B' w w'):NB g x w':=NdAt.below h hB hb
theorem known_made (A:Option Addr) (c:Nat) (w:World) (hr:Kit.Rd w w.heap.size A (I8s [5,6])) (hT:NamesIn w) :
  Calls Tryz.prog 8 #[.agg #[.int .i64 9,.int .i64 0,.int .i64 0,.int .i64 0,.int .i64 0,.int .i64 0,.int .i64 0,.int .i8 0,.int .i8 0,.slice none 0 0,.slice none 0 0,.int .i32 0,.int .i64 0,.int .i8 0,.int .i32 0,.int .i64 0,.int .i8 0,.int .i8 0,.int .i8 0],.agg #[.int .i64 2,.int .i64 1,.int .i64 1,.slice A 2 c],.agg #[.int .i64 0,.int .i64 0,.int .i64 0,.slice none 0 0]] w (CAct.MadeT w 1 1 2 2 [5,6] (.int .i64 0)) :=
 cnode_9 (⟨9,0,0,0,0,0,0,0,0,none,0,0,none,0,0,0,0,0,0,0,0,0,0⟩:Nd) rfl 2 1 1 A 2 c 0 0 0 none 0 0 (by decide) ⟨1,1,2,2,[5,6],0⟩ w
  (fun w1 hb=>by have h:=check_to (⟨9,0,0,0,0,0,0,0,0,none,0,0,none,0,0,0,0,0,0,0,0,0,0⟩:Nd) ⟨by decide,by decide,by decide,by decide⟩ w1 (hT.grown hb);rw [show ((⟨9,0,0,0,0,0,0,0,0,none,0,0,none,0,0,0,0,0,0,0,0,0,0⟩:Nd)).checkZ=0 from by decide] at h;exact h)
  (fun w1 hb=>CTensor.flat_yes 2 1 1 A [5,6] 2 c rfl (by decide) (by decide) w1 (Nat.le_refl _) ((hr.below hb).more hb.size))
set_option maxRecDepth 100000 in
set_option maxHeartbeats 4000000 in
theorem known26 (w:World) (hT:NamesIn w):Calls Tryz.prog 7 #[] w fun e w'=>e=.returned (.bool true)∧Below w.heap.size w w':=by
 have HT:=Lib.hid hT
 have HK:=Lib.hid known_made
 have HQ:=eqShape 1 1 2 1 1 2
 have hg:=Tryz.eqGuardType30
 clear hT
 go_enter Tryz.func7,Tryz.ntmps7
 go_wp2_with (go_at_call 8;(with_reducible refine (HK.out _ _ _ (Kit.Rd.new w [.int .i8 5,.int .i8 6] 22 (by simp)) (HT.out.grown ((Below.refl _ _).alloc (Nat.le_refl _) _))).mono ?_);rintro e1 w1 ⟨v,rfl,ho,hb⟩;obtain⟨A2,c2,rfl, -, -,hr⟩:=Kit.own_rd ho;obtain⟨b2,off2,rfl,hlt,hc⟩:=Kit.Rd.ints (zs:=[5,6]) hr (j:=1) (by decide);have HB:Hid (Below w.heap.size w w1):=Lib.hid (((Below.refl _ _).alloc (Nat.le_refl _) _).trans (hb.mono (by simp)));simp only [List.getElem_cons_succ,List.getElem_cons_zero] at hc;clear ho hb hr)
 go_ret
 exact⟨by simp,by exact HB.out.alloc HB.out.size _⟩
end Go.Proofs.YtkpngknbiecdiaaGreatDoor.CRun
end
