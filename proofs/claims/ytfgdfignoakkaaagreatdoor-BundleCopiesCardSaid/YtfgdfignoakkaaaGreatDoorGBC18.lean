/- -/
import Derived.Test.YtfgdfignoakkaaaGreatDoorGBC14
import Derived.Test.YtfgdfignoakkaaaGreatDoorGBC17
open Go.Lib (hid)
open Nat (le_refl lt_of_succ_lt lt_succ_self)
set_option linter.unusedVariables false
set_option linter.unusedSimpArgs false
set_option maxRecDepth 100000
set_option maxHeartbeats 16000000
namespace Go.Proofs.YtfgdfignoakkaaaGreatDoor
namespace CConv
end CConv
namespace CGraph
end CGraph
namespace CKind
end CKind
namespace CSat
end CSat
namespace CShape
end CShape
namespace CTensor
end CTensor
namespace Kit
end Kit
namespace Plain
end Plain
open Go Go.ChangeShapes Go.WideShapes Go.ChangeAt Go.RowKit Go.Deep
section
namespace CBunM
open Kit Plain CSat CShape CTensor CConv CKind CGraph CBund
def OwnX (w:World) (n:Nat) (xs:List Value) (e:Ending) (w':World):Prop :=
 ∃ A c,e=.returned (.slice A n c)∧n≤c∧c≤maxLen∧RdX true w' w.heap.size w'.heap.size A xs∧Below w.heap.size w w'
theorem own_x {w w':World} {n:Nat} {t:TypeId} {size:Nat} {xs:List Value} {v:Value} (h:w'.ownsRow w.heap.size t size v n xs) (hb:Below w.heap.size w w'):OwnX w n xs (.returned v) w':=by
 have h0:=h
 rcases h.2 with ⟨rfl,rfl⟩ | ⟨g,cap,cur,rfl,h1,h2,h3,h4,_⟩
 ·exact⟨none,0,rfl,le_refl _,Nat.zero_le _,RdX.of_own h0,hb⟩
 ·exact⟨_,_,rfl,h3,h4,RdX.of_own h0,hb⟩
theorem binfo_n:(Tryz.prog.info? 54).map (fun i=>(i.zero,i.size,i.bytes))=some (some (.agg #[.int .i64 0,.int .i64 0,.int .i64 0,.int .i64 0,.int .i64 0,.int .i64 0,.int .i64 0,.int .i8 0,.int .i8 0,.slice none 0 0,.slice none 0 0,.int .i32 0,.int .i64 0,.int .i8 0,.int .i32 0,.int .i64 0,.int .i8 0,.int .i8 0,.int .i8 0]),19,168):=by kernel_rfl
theorem bclone_n (A:Option Addr) (xs:List Value) (n c:Nat) (hn:xs.length=n * 19) (hl:n≤1000) (h1:∀ u∈xs,u.oneCell'=true) {B:Nat} (w:World) (hB:B≤w.heap.size) (hr:Kit.Rd w B A xs) :
  Calls Tryz.prog 90 #[.slice A n c] w (OwnX w n xs):=by
 have HN:=hid hn
 have HR:=hid hr
 have H1:=hid h1
 have qn:∀ (w:World) (a:Option Addr) (n c n' c':Nat),(binOp .eql 47 (.slice a n c) (.slice none n' c')).run Tryz.prog w=.ok (.bool a.isNone) w:=fun w a n c n' c'=>Lib.run_eql_slice_nil w _ _ a n c n' c' Tryz.underlying47
 clear h1
 cases A with
 | none =>
   have hz:xs=[]:=by
    cases xs with
    | nil=>rfl
    | cons z zs=>obtain⟨b,off,h,_⟩:=hr.plain (by simp);cases h
   subst hz
   have h0:n=0:=by simp at hn;omega
   subst h0
   clear hn hr HN HR H1
   go_enter Tryz.func90,Tryz.ntmps90
   go_wp2
   go_ret
   exact⟨none,0,rfl,le_refl _,Nat.zero_le _,fun j u hu=>by simp at hu,Below.refl _ _⟩
 | some ad =>
   clear hn hr
   go_enter Tryz.func90,Tryz.ntmps90
   obtain⟨i0,hi0,hi1,hi2,hi3⟩:=kparts binfo_n
   go_wp2_with (at_builtin;refine Kit.zac _ rfl (.tmp 5) (.tmp 6) _ rfl w.heap.size 54 i0 (.agg #[.int .i64 0,.int .i64 0,.int .i64 0,.int .i64 0,.int .i64 0,.int .i64 0,.int .i64 0,.int .i8 0,.int .i8 0,.slice none 0 0,.slice none 0 0,.int .i32 0,.int .i64 0,.int .i8 0,.int .i32 0,.int .i64 0,.int .i8 0,.int .i8 0,.int .i8 0]) 19 168 Tryz.underlying47 hi0 hi1 hi2 hi3 rfl (by decide) (.slice (some ⟨_,0,none⟩) 0 0) 0 [] rfl (World.ownsRow_lit _ #[] 0 (le_refl _) (Nat.zero_le _) rfl) _ _ n _ xs rfl HN.out (HR.out.alloc hB _) H1.out (by unfold maxLen;omega) (by omega) (by simp) ?_;intro v1 w1 hown1 hg1 hat1;replace hown1:w1.ownsRow w.heap.size 54 19 v1 n xs:=(by simpa using hown1);have HO:=hid hown1;have HX:=hid (((Below.refl _ w).alloc (le_refl _) (.cells #[] 54)).grown hg1 (by simp) (fun q hq=>by simp [Value.ownBlock] at hq;omega));clear hown1 hg1 hat1)
   go_ret
   exact own_x HO.out HX.out
theorem binfo_b:(Tryz.prog.info? 49).map (fun i=>(i.zero,i.size,i.bytes))=some (some (.agg #[.slice none 0 0,.bool false,.slice none 0 0,.slice none 0 0,.int .i32 0]),5,88):=by kernel_rfl
theorem bclone_b (A:Option Addr) (xs:List Value) (n c:Nat) (hn:xs.length=n * 5) (hl:n≤1000) (h1:∀ u∈xs,u.oneCell'=true) {B:Nat} (w:World) (hB:B≤w.heap.size) (hr:Kit.Rd w B A xs) :
  Calls Tryz.prog 58 #[.slice A n c] w (OwnX w n xs):=by
 have HN:=hid hn
 have HR:=hid hr
 have H1:=hid h1
 have qn:∀ (w:World) (a:Option Addr) (n c n' c':Nat),(binOp .eql 40 (.slice a n c) (.slice none n' c')).run Tryz.prog w=.ok (.bool a.isNone) w:=fun w a n c n' c'=>Lib.run_eql_slice_nil w _ _ a n c n' c' Tryz.underlying40
 clear h1
 cases A with
 | none =>
   have hz:xs=[]:=by
    cases xs with
    | nil=>rfl
    | cons z zs=>obtain⟨b,off,h,_⟩:=hr.plain (by simp);cases h
   subst hz
   have h0:n=0:=by simp at hn;omega
   subst h0
   clear hn hr HN HR H1
   go_enter Tryz.func58,Tryz.ntmps58
   go_wp2
   go_ret
   exact⟨none,0,rfl,le_refl _,Nat.zero_le _,fun j u hu=>by simp at hu,Below.refl _ _⟩
 | some ad =>
   clear hn hr
   go_enter Tryz.func58,Tryz.ntmps58
   obtain⟨i0,hi0,hi1,hi2,hi3⟩:=kparts binfo_b
   go_wp2_with (at_builtin;refine Kit.zac _ rfl (.tmp 5) (.tmp 6) _ rfl w.heap.size 49 i0 (.agg #[.slice none 0 0,.bool false,.slice none 0 0,.slice none 0 0,.int .i32 0]) 5 88 Tryz.underlying40 hi0 hi1 hi2 hi3 rfl (by decide) (.slice (some ⟨_,0,none⟩) 0 0) 0 [] rfl (World.ownsRow_lit _ #[] 0 (le_refl _) (Nat.zero_le _) rfl) _ _ n _ xs rfl HN.out (HR.out.alloc hB _) H1.out (by unfold maxLen;omega) (by omega) (by simp) ?_;intro v1 w1 hown1 hg1 hat1;replace hown1:w1.ownsRow w.heap.size 49 5 v1 n xs:=(by simpa using hown1);have HO:=hid hown1;have HX:=hid (((Below.refl _ w).alloc (le_refl _) (.cells #[] 49)).grown hg1 (by simp) (fun q hq=>by simp [Value.ownBlock] at hq;omega));clear hown1 hg1 hat1)
   go_ret
   exact own_x HO.out HX.out
theorem binfo_m:(Tryz.prog.info? 42).map (fun i=>(i.zero,i.size,i.bytes))=some (some (.agg #[.slice none 0 0]),1,24):=by kernel_rfl
theorem bclone_m (A:Option Addr) (xs:List Value) (n c:Nat) (hn:xs.length=n * 1) (hl:n≤1000) (h1:∀ u∈xs,u.oneCell'=true) {B:Nat} (w:World) (hB:B≤w.heap.size) (hr:Kit.Rd w B A xs) :
  Calls Tryz.prog 35 #[.slice A n c] w (OwnX w n xs):=by
 have HN:=hid hn
 have HR:=hid hr
 have H1:=hid h1
 have qn:∀ (w:World) (a:Option Addr) (n c n' c':Nat),(binOp .eql 24 (.slice a n c) (.slice none n' c')).run Tryz.prog w=.ok (.bool a.isNone) w:=fun w a n c n' c'=>Lib.run_eql_slice_nil w _ _ a n c n' c' Tryz.underlying24
 clear h1
 cases A with
 | none =>
   have hz:xs=[]:=by
    cases xs with
    | nil=>rfl
    | cons z zs=>obtain⟨b,off,h,_⟩:=hr.plain (by simp);cases h
   subst hz
   have h0:n=0:=by simp at hn;omega
   subst h0
   clear hn hr HN HR H1
   go_enter Tryz.func35,Tryz.ntmps35
   go_wp2
   go_ret
   exact⟨none,0,rfl,le_refl _,Nat.zero_le _,fun j u hu=>by simp at hu,Below.refl _ _⟩
 | some ad =>
   clear hn hr
   go_enter Tryz.func35,Tryz.ntmps35
   obtain⟨i0,hi0,hi1,hi2,hi3⟩:=kparts binfo_m
   go_wp2_with (at_builtin;refine Kit.zac _ rfl (.tmp 5) (.tmp 6) _ rfl w.heap.size 42 i0 (.agg #[.slice none 0 0]) 1 24 Tryz.underlying24 hi0 hi1 hi2 hi3 rfl (by decide) (.slice (some ⟨_,0,none⟩) 0 0) 0 [] rfl (World.ownsRow_lit _ #[] 0 (le_refl _) (Nat.zero_le _) rfl) _ _ n _ xs rfl HN.out (HR.out.alloc hB _) H1.out (by unfold maxLen;omega) (by omega) (by simp) ?_;intro v1 w1 hown1 hg1 hat1;replace hown1:w1.ownsRow w.heap.size 42 1 v1 n xs:=(by simpa using hown1);have HO:=hid hown1;have HX:=hid (((Below.refl _ w).alloc (le_refl _) (.cells #[] 42)).grown hg1 (by simp) (fun q hq=>by simp [Value.ownBlock] at hq;omega));clear hown1 hg1 hat1)
   go_ret
   exact own_x HO.out HX.out
theorem binfo_8:(Tryz.prog.info? 50).map (fun i=>(i.zero,i.size,i.bytes))=some (some (.int .i8 0),1,1):=by kernel_rfl
theorem bclone_8 (A:Option Addr) (xs:List Value) (n c:Nat) (hn:xs.length=n * 1) (hl:n≤1000000) (h1:∀ u∈xs,u.oneCell'=true) {B:Nat} (w:World) (hB:B≤w.heap.size) (hr:Kit.Rd w B A xs) :
  Calls Tryz.prog 60 #[.slice A n c] w (OwnX w n xs):=by
 have HN:=hid hn
 have HR:=hid hr
 have H1:=hid h1
 have qn:∀ (w:World) (a:Option Addr) (n c n' c':Nat),(binOp .eql 43 (.slice a n c) (.slice none n' c')).run Tryz.prog w=.ok (.bool a.isNone) w:=fun w a n c n' c'=>Lib.run_eql_slice_nil w _ _ a n c n' c' Tryz.underlying43
 clear h1
 cases A with
 | none =>
   have hz:xs=[]:=by
    cases xs with
    | nil=>rfl
    | cons z zs=>obtain⟨b,off,h,_⟩:=hr.plain (by simp);cases h
   subst hz
   have h0:n=0:=by simp at hn;omega
   subst h0
   clear hn hr HN HR H1
   go_enter Tryz.func60,Tryz.ntmps60
   go_wp2
   go_ret
   exact⟨none,0,rfl,le_refl _,Nat.zero_le _,fun j u hu=>by simp at hu,Below.refl _ _⟩
 | some ad =>
   clear hn hr
   go_enter Tryz.func60,Tryz.ntmps60
   obtain⟨i0,hi0,hi1,hi2,hi3⟩:=kparts binfo_8
   go_wp2_with (at_builtin;refine Kit.zac _ rfl (.tmp 5) (.tmp 6) _ rfl w.heap.size 50 i0 (.int .i8 0) 1 1 Tryz.underlying43 hi0 hi1 hi2 hi3 rfl (by decide) (.slice (some ⟨_,0,none⟩) 0 0) 0 [] rfl (World.ownsRow_lit _ #[] 0 (le_refl _) (Nat.zero_le _) rfl) _ _ n _ xs rfl HN.out (HR.out.alloc hB _) H1.out (by unfold maxLen;omega) (by omega) (by simp) ?_;intro v1 w1 hown1 hg1 hat1;replace hown1:w1.ownsRow w.heap.size 50 1 v1 n xs:=(by simpa using hown1);have HO:=hid hown1;have HX:=hid (((Below.refl _ w).alloc (le_refl _) (.cells #[] 50)).grown hg1 (by simp) (fun q hq=>by simp [Value.ownBlock] at hq;omega));clear hown1 hg1 hat1)
   go_ret
   exact own_x HO.out HX.out
theorem binfo_32:(Tryz.prog.info? 21).map (fun i=>(i.zero,i.size,i.bytes))=some (some (.int .i32 0),1,4):=by kernel_rfl
theorem bclone_32 (A:Option Addr) (xs:List Value) (n c:Nat) (hn:xs.length=n * 1) (hl:n≤1000000) (h1:∀ u∈xs,u.oneCell'=true) {B:Nat} (w:World) (hB:B≤w.heap.size) (hr:Kit.Rd w B A xs) :
  Calls Tryz.prog 61 #[.slice A n c] w (OwnX w n xs):=by
 have HN:=hid hn
 have HR:=hid hr
 have H1:=hid h1
 have qn:∀ (w:World) (a:Option Addr) (n c n' c':Nat),(binOp .eql 44 (.slice a n c) (.slice none n' c')).run Tryz.prog w=.ok (.bool a.isNone) w:=fun w a n c n' c'=>Lib.run_eql_slice_nil w _ _ a n c n' c' Tryz.underlying44
 clear h1
 cases A with
 | none =>
   have hz:xs=[]:=by
    cases xs with
    | nil=>rfl
    | cons z zs=>obtain⟨b,off,h,_⟩:=hr.plain (by simp);cases h
   subst hz
   have h0:n=0:=by simp at hn;omega
   subst h0
   clear hn hr HN HR H1
   go_enter Tryz.func61,Tryz.ntmps61
   go_wp2
   go_ret
   exact⟨none,0,rfl,le_refl _,Nat.zero_le _,fun j u hu=>by simp at hu,Below.refl _ _⟩
 | some ad =>
   clear hn hr
   go_enter Tryz.func61,Tryz.ntmps61
   obtain⟨i0,hi0,hi1,hi2,hi3⟩:=kparts binfo_32
   go_wp2_with (at_builtin;refine Kit.zac _ rfl (.tmp 5) (.tmp 6) _ rfl w.heap.size 21 i0 (.int .i32 0) 1 4 Tryz.underlying44 hi0 hi1 hi2 hi3 rfl (by decide) (.slice (some ⟨_,0,none⟩) 0 0) 0 [] rfl (World.ownsRow_lit _ #[] 0 (le_refl _) (Nat.zero_le _) rfl) _ _ n _ xs rfl HN.out (HR.out.alloc hB _) H1.out (by unfold maxLen;omega) (by omega) (by simp) ?_;intro v1 w1 hown1 hg1 hat1;replace hown1:w1.ownsRow w.heap.size 21 1 v1 n xs:=(by simpa using hown1);have HO:=hid hown1;have HX:=hid (((Below.refl _ w).alloc (le_refl _) (.cells #[] 21)).grown hg1 (by simp) (fun q hq=>by simp [Value.ownBlock] at hq;omega));clear hown1 hg1 hat1)
   go_ret
   exact own_x HO.out HX.out
end CBunM
end
end Go.Proofs.YtfgdfignoakkaaaGreatDoor
