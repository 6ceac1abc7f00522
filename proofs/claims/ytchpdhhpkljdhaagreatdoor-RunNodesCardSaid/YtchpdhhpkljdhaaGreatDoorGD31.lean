/- -/
import Derived.Test.YtchpdhhpkljdhaaGreatDoorGD30
open Go.Value renaming int→Jj
open Go.IntKind renaming i64→Jq
open Go.Lib (hid)
open Nat (le_refl lt_of_succ_lt lt_succ_self)
set_option linter.unusedVariables false
set_option linter.unusedSimpArgs false
set_option maxRecDepth 100000
set_option maxHeartbeats 16000000
namespace Go.Proofs.YtchpdhhpkljdhaaGreatDoor
namespace CConv
end CConv
namespace CSat
end CSat
open Go Go.ChangeShapes Go.WideShapes Go.ChangeAt Go.RowKit Go.Deep
section
namespace CKind
open Plain CSat CShape CTensor CConv
def Nd.Small (x:Nd):Prop:=(-128≤x.Z∧x.Z≤127)∧(-128≤x.Y∧x.Y≤127)∧(-128≤x.lo∧x.lo≤127)∧(-128≤x.hi∧x.hi≤127)
def Nd.nine (x:Nd):Array Value:=#[Jj Jq x.nb,Jj Jq x.K,Jj Jq x.S,Jj Jq x.P,Jj Jq x.O,Jj Jq x.Z,Jj Jq x.Y,Jj Jq x.lo,Jj Jq x.hi]
theorem there_new9 (w:World) {cs:Array Value} (T:TypeId) {n:Nat} (h:cs.size=n):(w.alloc (.cells cs T)).there w.heap.size 0 n:=fun j hj=>by
 rw [Nat.zero_add]
 constructor
 ·rw [Kit.zan]
  simp [h,hj]
 ·unfold World.frozen?;rw [heap_alloc_new];rfl
theorem setCells_below {g B:Nat} (hg:B≤g):∀ (vs:List Value) (o:Nat) (w:World),Below B w (w.setCells g o vs)
 | [],_,w=>Below.refl _ _
 | v :: vs,o,w=>((Below.refl B w).setCell (p:=⟨g,o,none⟩) hg v).trans (setCells_below hg vs (o+1) _)
theorem numbers_to (x:Nd) (hx:x.Small) (w:World) :
  Calls Tryz.prog 93 #[.agg x.val] w fun e w'=>e=.returned (.agg x.nine)∧Below w.heap.size w w':=by
 obtain⟨⟨z0,z1⟩,⟨y0,y1⟩,⟨l0,l1⟩,⟨h0,h1⟩⟩:=hx
 have i7:IntKind.i64.wrap x.Z=x.Z:=IntWalk.i64_in _ Zb3
 have i8:IntKind.i64.wrap x.Y=x.Y:=IntWalk.i64_in _ Zb3
 have i17:IntKind.i64.wrap x.lo=x.lo:=IntWalk.i64_in _ Zb3
 have i18:IntKind.i64.wrap x.hi=x.hi:=IntWalk.i64_in _ Zb3
 clear z0 z1 y0 y1 l0 l1 h0 h1
 have TN:=hid (NdAt.new x 28 w)
 go_enter Tryz.func93,Tryz.ntmps93
 go_upto_region 1 with fail
 have hth:=there_new9 (w.alloc (.cells x.val 28)) (cs:=#[Jj Jq 0,Jj Jq 0,Jj Jq 0,Jj Jq 0,Jj Jq 0,Jj Jq 0,Jj Jq 0,Jj Jq 0,Jj Jq 0]) 127 (n:=9) rfl
 rw [World.size_alloc] at hth
 have HT:=hid hth
 clear hth
 replace TN:=hid (TN.out.below (B:=w.heap.size+1) (lt_succ_self _) ((Below.refl _ _).alloc Zb7 (.cells #[Jj Jq 0,Jj Jq 0,Jj Jq 0,Jj Jq 0,Jj Jq 0,Jj Jq 0,Jj Jq 0,Jj Jq 0,Jj Jq 0] 127)))
 have HB:=hid (((Below.refl w.heap.size w).alloc (le_refl _) (.cells x.val 28)).alloc Zb7 (.cells #[Jj Jq 0,Jj Jq 0,Jj Jq 0,Jj Jq 0,Jj Jq 0,Jj Jq 0,Jj Jq 0,Jj Jq 0,Jj Jq 0] 127))
 generalize (w.alloc (.cells x.val 28)).alloc (.cells #[Jj Jq 0,Jj Jq 0,Jj Jq 0,Jj Jq 0,Jj Jq 0,Jj Jq 0,Jj Jq 0,Jj Jq 0,Jj Jq 0] 127)=W0 at TN HT HB ⊢
 have n2:=TN.out.at 2 (Jj Jq x.nb) rfl
 have n3:=TN.out.at 3 (Jj Jq x.K) rfl
 have n4:=TN.out.at 4 (Jj Jq x.S) rfl
 have n5:=TN.out.at 5 (Jj Jq x.P) rfl
 have n6:=TN.out.at 6 (Jj Jq x.O) rfl
 have n7:=TN.out.at 7 (.int .i8 x.Z) rfl
 have n8:=TN.out.at 8 (.int .i8 x.Y) rfl
 have n17:=TN.out.at 17 (.int .i8 x.lo) rfl
 have n18:=TN.out.at 18 (.int .i8 x.hi) rfl
 go_wp2_with (refine wpList_store_mid rfl 127 (.tmp 2) (.tmp 25) rfl (w.heap.size+1) 0 x.nine rfl rfl HT.out Zb5 (by simp [Nd.nine,Value.oneCell']) ?_;have HQ:=hid (World.rangeAt_setCells_same W0 (w.heap.size+1) 0 x.nine.toList HT.out);have HZ:Hid (Below w.heap.size W0 (W0.setCells (w.heap.size+1) 0 x.nine.toList)):=hid (setCells_below (Nat.le_succ _) _ _ _);generalize W0.setCells (w.heap.size+1) 0 x.nine.toList=W1 at HQ HZ ⊢)
 refine bodyPost_ret (Kit.zbi rfl _ _ (w.heap.size+1) 0 x.nine.toList _ rfl HQ.out Tryz.underlying127 rfl Zb5) rfl ?_
 exact⟨rfl,HB.out.trans HZ.out⟩
def nineB (x y:Nd):Bool:=x.nb == y.nb && x.K == y.K && x.S == y.S && x.P == y.P && x.O == y.O && x.Z == y.Z && x.Y == y.Y && x.lo == y.lo && x.hi == y.hi
theorem eqNine (x y:Nd) (b:Bool) (hb:nineB x y=b) (w:World):(Op.equalIn 10000 127 (.agg x.nine) (.agg y.nine)).run Tryz.prog w=.ok b w:=by
 subst hb
 have u3:=Tryz.underlying3
 have a3:=Tryz.isAgg3
 have z3:=Tryz.sizeOf3
 unfold Nd.nine nineB
 rw [show (10000:Nat)=9999+1 from rfl,Op.equalIn]
 simp only [Sem.run_bind,run_underlying Tryz.underlying127,Result.andThen_ok]
 simp only [Std.Legacy.Range.forIn_eq_forIn_range',Std.Legacy.Range.size,Nat.sub_zero,Nat.add_sub_cancel,Nat.div_one,List.range'_succ,List.range'_zero,List.forIn_cons,List.forIn_nil]
 go_simp
 by_cases h0:x.nb=y.nb
 rotate_left
 ·simp [h0]
 by_cases h1:x.K=y.K
 rotate_left
 ·simp [h0,h1]
 by_cases h2:x.S=y.S
 rotate_left
 ·simp [h0,h1,h2]
 by_cases h3:x.P=y.P
 rotate_left
 ·simp [h0,h1,h2,h3]
 by_cases h4:x.O=y.O
 rotate_left
 ·simp [h0,h1,h2,h3,h4]
 by_cases h5:x.Z=y.Z
 rotate_left
 ·simp [h0,h1,h2,h3,h4,h5]
 by_cases h6:x.Y=y.Y
 rotate_left
 ·simp [h0,h1,h2,h3,h4,h5,h6]
 by_cases h7:x.lo=y.lo
 rotate_left
 ·simp [h0,h1,h2,h3,h4,h5,h6,h7]
 by_cases h8:x.hi=y.hi
 rotate_left
 ·simp [h0,h1,h2,h3,h4,h5,h6,h7,h8]
 simp [h0,h1,h2,h3,h4,h5,h6,h7,h8]
end CKind
end
section
namespace CLower
open Go Go.ChangeShapes Go.WideShapes Go.ChangeAt Go.RowKit Go.Shelf Round
open Plain CSat CShape CTensor CConv
theorem own_at {w:World} {base g n cap:Nat} {e:TypeId} {xs:List Value} (h:w.ownsRow base e 1 (.slice (some ⟨g,0,none⟩) n cap) n xs) (hn:0 < n) :
  (∀ j u,xs[j]?=some u→w.cell? ⟨g,j,none⟩=some u)∧(∀ j,w.frozen? ⟨g,j,none⟩=false)∧g < w.heap.size:=by
 obtain⟨g',cap',e1,_,h2,_,_,h3,h4⟩:=own_cells h hn
 cases e1
 exact⟨h3,h4,h2⟩
theorem zc3 {w w':World} {g B:Nat} (h:w.grownBy w' (some g)) (hg:B≤g) (hB:B≤w.heap.size):Below B w w' :=
 ⟨h.os,h.tape,h.output,h.size,fun k hk=>h.block k Zb3 (by intro e;cases e;omega)⟩
theorem grown_drew (w:World) (r:Option Nat):w.grownBy w.drew r:=⟨rfl,rfl,rfl,le_refl _,fun _ _ _=>rfl⟩
theorem grown_self (w:World) (r:Option Nat):w.grownBy w r:=⟨rfl,rfl,rfl,le_refl _,fun _ _ _=>rfl⟩
theorem grown_trans {a b c:World} {r:Option Nat} (h:a.grownBy b r) (k:b.grownBy c r):a.grownBy c r :=
 ⟨k.os.trans h.os,k.tape.trans h.tape,k.output.trans h.output,Nat.le_trans h.size k.size,fun i hi hr=>(k.block i (Nat.lt_of_lt_of_le hi h.size) hr).trans (h.block i hi hr)⟩
theorem zdc {a b:World} {g:Nat} (h:a.grownBy b (some g)) {p:Addr} (hp:p.block < a.heap.size) (hg:p.block≠g):b.cell? p=a.cell? p :=
 World.cell?_of_block (h.block p.block hp (by intro e;cases e;exact hg rfl))
theorem grown_frozen {a b:World} {g:Nat} (h:a.grownBy b (some g)) {p:Addr} (hp:p.block < a.heap.size) (hg:p.block≠g):b.frozen? p=a.frozen? p :=
 World.frozen?_of_block (h.block p.block hp (by intro e;cases e;exact hg rfl))
theorem raise_to (g q d N cap base Bb cB B:Nat) (BA:Option Addr) (bs:List Int) (T M:Nat→Int) (hbs:bs.length=d) (hd:1≤d) (hdm:d≤1024) (hq:q+d≤N) (hN:N≤1000000) (hB:B≤g) (hbg:Bb≠g)
  (hT:∀ j,j < d→IntKind.i32.wrap (M (q+j)+bs.getD j 0)=T (q+j)) (W:World) (hBs:B≤W.heap.size) (ho:W.ownsRow base 21 1 (.slice (some ⟨g,0,none⟩) N cap) N (I32v (CGemm.rowL (mixF T M q) N)))
  (hcb:W.cell? ⟨Bb,0,none⟩=some (.slice BA d cB)) (hbb:Bb < W.heap.size) (hr:Kit.Rd W B BA (I32v bs)) :
  Calls Tryz.prog 128 #[.slice (some ⟨g,q,none⟩) d d,.pointer (some ⟨Bb,0,none⟩)] W fun e W'=>(∃ v,e=.returned v)∧W'.ownsRow base 21 1 (.slice (some ⟨g,0,none⟩) N cap) N (I32v (CGemm.rowL (mixF T M (q+d)) N))∧W.grownBy W' (some g):=by
 have HT:=hid hT
 have HO:=hid ho
 have HR:=hid hr
 have HBS:=hid hbs
 clear hT ho hr hbs
 go_enter Tryz.func128,Tryz.ntmps128
 go_wp2_with fail
 go_loopw [7] (fun i wr=>∃ j:Nat,j≤d∧i=Jj Jq j∧Hid (wr.ownsRow base 21 1 (.slice (some ⟨g,0,none⟩) N cap) N (I32v (CGemm.rowL (mixF T M (q+j)) N)))∧Hid (W.grownBy wr (some g))) (fun i _=>d - (intOf i).toNat)
 case atStart=>exact⟨0,Nat.zero_le _,rfl,HO,hid (grown_self _ _)⟩
 case round =>
  obtain⟨j,hj,rfl,hO,hG⟩:=hrel
  by_cases hlt:j < d
  ·obtain⟨bb,ob,rfl, -,hcx⟩:=zax (HR.out.below (zc3 hG.out hB hBs)) (j:=j) (by have:=HBS.out;omega)
   have kb:=hcx j (by have:=HBS.out;omega)
   obtain⟨h1,h2,h3⟩:=own_at hO.out Zb3
   have hjN:q+j < N:=by omega
   have ks:=h1 (q+j) (.int .i32 (M (q+j))) (by unfold I32v;rw [List.getElem?_map,mix_at T M hjN];rfl)
   have fs:=h2 (q+j)
   have ht:=HT.out j hlt
   obtain⟨b1,hb1⟩:∃ b1,bs.getD j 0=b1:=⟨_,rfl⟩
   obtain⟨m1,hm1⟩:∃ m1,M (q+j)=m1:=⟨_,rfl⟩
   obtain⟨t1,ht1⟩:∃ t1,T (q+j)=t1:=⟨_,rfl⟩
   have HT1:=hid ht1
   rw [hb1] at kb
   rw [hm1] at ks
   rw [hb1,hm1,ht1] at ht
   have hst:=hO.out.stored (q+j) (.int .i32 t1)
   have hset:(I32v (CGemm.rowL (mixF T M (q+j)) N)).set (q+j) (.int .i32 t1)=I32v (CGemm.rowL (mixF T M (q+(j+1))) N):=by
    unfold I32v
    rw [← List.map_set, ← ht1,mix_set T M hjN];rfl
   rw [hset] at hst
   have HO2:=hid hst.1
   have HG2:=hid (grown_trans hG.out hst.2)
   have hj0:(0:Int)≤(j:Int):=by omega
   have hjd:(j:Int) < (d:Int):=by omega
   clear hst hset h1 h2 h3 hcx hb1 hm1 ht1
   go_wp2_with fail
   go_roundw
   case rel=>exact⟨j+1,by omega,by go_num,HO2,HG2⟩
   case measure=>simp [intOf];omega
  ·obtain rfl:j=d:=by omega
   go_wp2_with fail
   go_end0
   exact⟨⟨_,rfl⟩,hO.out,hG.out⟩
theorem raising_to (BA:Option Addr) (nB cB:Nat) (w:World) :
  Calls Tryz.prog 80 #[.slice BA nB cB] w fun e w'=>e=.returned (.func (.func 128) #[] #[.pointer (some ⟨w.heap.size,0,none⟩)])∧w'=w.alloc (.cells #[.slice BA nB cB] 24):=by
 go_enter Tryz.func80,Tryz.ntmps80
 exact Z1f
theorem chunks_to (A:Option Addr) (L c:Nat) (d:Nat) (hd:1≤d) (w:World) :
  Calls Tryz.prog 81 #[.slice A L c,Jj Jq d] w fun e w'=>e=.returned (.func (.func 129) #[] #[.pointer (some ⟨w.heap.size,0,none⟩),.pointer (some ⟨w.heap.size+1,0,none⟩)])∧w'=(w.alloc (.cells #[.slice A L c] 24)).alloc (.cells #[Jj Jq d] 3):=by
 have h1:¬ (d:Int) < 1:=by omega
 go_enter Tryz.func81,Tryz.ntmps81
 exact Z1f
end CLower
end
section
namespace CJoin
open Go Go.ChangeShapes Go.WideShapes Go.ChangeAt Go.RowKit Go.Deep Go.Shelf Round
open Plain CSat CFix CShape CTensor CConv
attribute [local go_sem] Oper.semAt_some
def MadeJ (w:World) (H W C:Int) (n:Nat) (zs:List Int) (x:Value) (e:Ending) (w':World):Prop :=
 ∃ v,e=.returned (.tuple #[.agg #[Jj Jq H,Jj Jq W,Jj Jq C,v],x])∧w'.ownsRow w.heap.size 22 1 v n (I8s zs)∧Below w.heap.size w w'
theorem jof_bad1 (H W C H' W' C':Int) (A B:Option Addr) (n c m d:Nat) (x0 x1 x2:Value) (K S P O Z Y:Int) (WA BA:Option Addr) (nW cW nB cB:Nat) (m1 s1 z1 m2 s2 z2 lo hi:Int) (h1:tensB H W C n=false) (w:World) :
  Calls Tryz.prog 16 #[.agg #[Jj Jq H,Jj Jq W,Jj Jq C,.slice A n c],.agg #[Jj Jq H',Jj Jq W',Jj Jq C',.slice B m d],.agg #[x0,x1,x2,Jj Jq K,Jj Jq S,Jj Jq P,Jj Jq O,.int .i8 Z,.int .i8 Y,.slice WA nW cW,.slice BA nB cB,.int .i32 m1,Jj Jq s1,.int .i8 z1,.int .i32 m2,Jj Jq s2,.int .i8 z2,.int .i8 lo,.int .i8 hi]] w (MadeJ w 0 0 0 0 [] (Jj Jq 5)):=by
 have HT1:=hid h1
 clear h1
 have HE:=zb9 H W C H' W' C'
 have hg:=Tryz.eqGuardType30
 go_enter Tryz.func16,Tryz.ntmps16
 go_wp2_with (first
 | (go_at_call 13
    refine Z6a ?_;intro hal
    refine (zak H W C A n c false HT1.out _).mono ?_
    rintro e w1 ⟨rfl,hb⟩
    refine Z5v ?_;intro hh TA yTA TB yTB TN yTN FR yFR HBW
    obtain⟨⟨z0,z1,z2,z3⟩,z4,z5,z6,z7⟩:=FR.out
    refine Z7q ?_;intro tap0 tap1 tap2 tap3 tbp0 tbp1 tbp2 tbp3
    clear hb hh hal))
 refine bodyPost_ret (Kit.zaa rfl _ _ (w.heap.size+3) 0 [Jj Jq 0,Jj Jq 0,Jj Jq 0,.slice none 0 0] _ rfl (zao Zb6 Zb6 Zb6 Zb6) Tryz.underlying32 rfl Zb5) rfl ?_
 exact Zj
theorem jof_bad2 (H W C H' W' C':Int) (A B:Option Addr) (n c m d:Nat) (x0 x1 x2:Value) (K S P O Z Y:Int) (WA BA:Option Addr) (nW cW nB cB:Nat) (m1 s1 z1 m2 s2 z2 lo hi:Int) (h1:tensB H W C n=true) (h2:tensB H' W' C' m=false) (w:World) :
  Calls Tryz.prog 16 #[.agg #[Jj Jq H,Jj Jq W,Jj Jq C,.slice A n c],.agg #[Jj Jq H',Jj Jq W',Jj Jq C',.slice B m d],.agg #[x0,x1,x2,Jj Jq K,Jj Jq S,Jj Jq P,Jj Jq O,.int .i8 Z,.int .i8 Y,.slice WA nW cW,.slice BA nB cB,.int .i32 m1,Jj Jq s1,.int .i8 z1,.int .i32 m2,Jj Jq s2,.int .i8 z2,.int .i8 lo,.int .i8 hi]] w (MadeJ w 0 0 0 0 [] (Jj Jq 5)):=by
 have HT1:=hid h1
 have HT2:=hid h2
 clear h1 h2
 have HE:=zb9 H W C H' W' C'
 have hg:=Tryz.eqGuardType30
 go_enter Tryz.func16,Tryz.ntmps16
 go_wp2_with (first
 | (go_at_call 13
    have hchk:=HBW
    clear hchk
    refine Z72 ?_;intro hal
    refine (zak H' W' C' B m d false HT2.out _).mono ?_
    rintro e w2 ⟨rfl,hb⟩
    refine Z6r ?_;intro hh
    refine Z78 ?_;try clear TA yTA;intro TA yTA
    refine Z60 ?_;try clear TB yTB TN yTN FR yFR;intro TB yTB TN yTN FR yFR
    refine Z74 ?_;try clear HBW;intro HBW
    clear tap0 tap1 tap2 tap3 tbp0 tbp1 tbp2 tbp3
    obtain⟨⟨z0,z1,z2,z3⟩,z4,z5,z6,z7⟩:=FR.out
    refine Z7q ?_;intro tap0 tap1 tap2 tap3 tbp0 tbp1 tbp2 tbp3
    clear hb hh hal)
 | (go_at_call 13
    refine Z6a ?_;intro hal
    refine (zak H W C A n c true HT1.out _).mono ?_
    rintro e w1 ⟨rfl,hb⟩
    refine Z5v ?_;intro hh TA yTA TB yTB TN yTN FR yFR HBW
    refine Z7q ?_;intro tap0 tap1 tap2 tap3 tbp0 tbp1 tbp2 tbp3
    clear hb hh hal))
 refine bodyPost_ret (Kit.zaa rfl _ _ (w.heap.size+3) 0 [Jj Jq 0,Jj Jq 0,Jj Jq 0,.slice none 0 0] _ rfl (zao Zb6 Zb6 Zb6 Zb6) Tryz.underlying32 rfl Zb5) rfl ?_
 exact Zj
theorem jof_bad3 (H W C H' W' C':Int) (A B:Option Addr) (n c m d:Nat) (x0 x1 x2:Value) (K S P O Z Y:Int) (WA BA:Option Addr) (nW cW nB cB:Nat) (m1 s1 z1 m2 s2 z2 lo hi:Int) (h1:tensB H W C n=true) (h2:tensB H' W' C' m=true) (hne:(H == H' && (W == W' && C == C'))=false) (w:World) :
  Calls Tryz.prog 16 #[.agg #[Jj Jq H,Jj Jq W,Jj Jq C,.slice A n c],.agg #[Jj Jq H',Jj Jq W',Jj Jq C',.slice B m d],.agg #[x0,x1,x2,Jj Jq K,Jj Jq S,Jj Jq P,Jj Jq O,.int .i8 Z,.int .i8 Y,.slice WA nW cW,.slice BA nB cB,.int .i32 m1,Jj Jq s1,.int .i8 z1,.int .i32 m2,Jj Jq s2,.int .i8 z2,.int .i8 lo,.int .i8 hi]] w (MadeJ w 0 0 0 0 [] (Jj Jq 5)):=by
 have HT1:=hid h1
 have HT2:=hid h2
 clear h1 h2
 have HE:=zb9 H W C H' W' C'
 have hg:=Tryz.eqGuardType30
 go_enter Tryz.func16,Tryz.ntmps16
 go_wp2_with (first
 | (go_at_call 13
    have hchk:=HBW
    clear hchk
    refine Z72 ?_;intro hal
    refine (zak H' W' C' B m d true HT2.out _).mono ?_
    rintro e w2 ⟨rfl,hb⟩
    refine Z6r ?_;intro hh
    refine Z78 ?_;try clear TA yTA;intro TA yTA
    refine Z60 ?_;try clear TB yTB TN yTN FR yFR;intro TB yTB TN yTN FR yFR
    refine Z74 ?_;try clear HBW;intro HBW
    clear tap0 tap1 tap2 tap3 tbp0 tbp1 tbp2 tbp3
    obtain⟨⟨z0,z1,z2,z3⟩,z4,z5,z6,z7⟩:=FR.out
    refine Z7q ?_;intro tap0 tap1 tap2 tap3 tbp0 tbp1 tbp2 tbp3
    clear hb hh hal)
 | (go_at_call 13
    refine Z6a ?_;intro hal
    refine (zak H W C A n c true HT1.out _).mono ?_
    rintro e w1 ⟨rfl,hb⟩
    refine Z5v ?_;intro hh TA yTA TB yTB TN yTN FR yFR HBW
    refine Z7q ?_;intro tap0 tap1 tap2 tap3 tbp0 tbp1 tbp2 tbp3
    clear hb hh hal))
 refine bodyPost_ret (Kit.zaa rfl _ _ (w.heap.size+3) 0 [Jj Jq 0,Jj Jq 0,Jj Jq 0,.slice none 0 0] _ rfl (zao Zb6 Zb6 Zb6 Zb6) Tryz.underlying32 rfl Zb5) rfl ?_
 exact Zj
theorem jof_quant (H W C:Int) (A B:Option Addr) (n c d:Nat) (x0 x1 x2:Value) (K S P O Z Y:Int) (WA BA:Option Addr) (nW cW nB cB:Nat) (m1 s1 z1 m2 s2 z2 lo hi:Int) (h1:tensB H W C n=true) (hh:(zau m1 s1 && zau m2 s2)=false) (w:World) :
  Calls Tryz.prog 16 #[.agg #[Jj Jq H,Jj Jq W,Jj Jq C,.slice A n c],.agg #[Jj Jq H,Jj Jq W,Jj Jq C,.slice B n d],.agg #[x0,x1,x2,Jj Jq K,Jj Jq S,Jj Jq P,Jj Jq O,.int .i8 Z,.int .i8 Y,.slice WA nW cW,.slice BA nB cB,.int .i32 m1,Jj Jq s1,.int .i8 z1,.int .i32 m2,Jj Jq s2,.int .i8 z2,.int .i8 lo,.int .i8 hi]] w (MadeJ w 0 0 0 0 [] (Jj Jq 7)):=by
 have HT1:=hid h1
 have HT2:=hid h1
 have HH:=hid hh
 clear h1 hh
 have HE:=zb9 H W C H W C
 have hg:=Tryz.eqGuardType30
 go_enter Tryz.func16,Tryz.ntmps16
 go_wp2_with (first
 | (go_at_call 13
    have hchk:=HBW
    clear hchk
    refine Z72 ?_;intro hal
    refine (zak H W C B n d true HT2.out _).mono ?_
    rintro e w2 ⟨rfl,hb⟩
    refine Z6r ?_;intro hh
    refine Z78 ?_;try clear TA yTA;intro TA yTA
    refine Z60 ?_;try clear TB yTB TN yTN FR yFR;intro TB yTB TN yTN FR yFR
    refine Z74 ?_;try clear HBW;intro HBW
    clear tap0 tap1 tap2 tap3 tbp0 tbp1 tbp2 tbp3
    refine Z7q ?_;intro tap0 tap1 tap2 tap3 tbp0 tbp1 tbp2 tbp3
    clear hb hh hal)
 | (go_at_call 13
    refine Z6z ?_;intro hal
    refine (zak H W C A n c true HT1.out _).mono ?_
    rintro e w1 ⟨rfl,hb⟩
    refine Z66 ?_;intro hh TA yTA TB yTB TN yTN FR yFR HBW
    refine Z7q ?_;intro tap0 tap1 tap2 tap3 tbp0 tbp1 tbp2 tbp3
    clear hb hh hal)
 | (go_at_call 49
    have hal:Below w2.heap.size w2 w2:=Below.refl _ _
    refine (scales_to x0 x1 x2 K S P O Z Y WA BA nW cW nB cB m1 s1 z1 m2 s2 z2 lo hi _).mono ?_
    rintro e w3 ⟨rfl,hb⟩
    refine Z8c ?_;intro hh
    refine Z78 ?_;try clear TA yTA;intro TA yTA
    refine Z60 ?_;try clear TB yTB TN yTN FR yFR;intro TB yTB TN yTN FR yFR
    refine Z74 ?_;try clear HBW;intro HBW
    clear tap0 tap1 tap2 tap3 tbp0 tbp1 tbp2 tbp3
    rw [HH.out]
    obtain⟨⟨z0,z1,z2,z3⟩,z4,z5,z6,z7⟩:=FR.out
    refine Z7q ?_;intro tap0 tap1 tap2 tap3 tbp0 tbp1 tbp2 tbp3
    clear hb hh hal)
 | (refine wpList_load_mid rfl 28 (.tmp 5) rfl (w.heap.size+2) 0 rfl [x0,x1,x2,Jj Jq K,Jj Jq S,Jj Jq P,Jj Jq O,.int .i8 Z,.int .i8 Y,.slice WA nW cW,.slice BA nB cB,.int .i32 m1,Jj Jq s1,.int .i8 z1,.int .i32 m2,Jj Jq s2,.int .i8 z2,.int .i8 lo,.int .i8 hi] _ (TN.out) Tryz.underlying28 rfl Zb5 ?_))
 refine bodyPost_ret (Kit.zaa rfl _ _ (w.heap.size+3) 0 [Jj Jq 0,Jj Jq 0,Jj Jq 0,.slice none 0 0] _ rfl (zao Zb6 Zb6 Zb6 Zb6) Tryz.underlying32 rfl Zb5) rfl ?_
 exact Zj
end CJoin
end
section
namespace CJoin
open Plain CSat CFix CShape CTensor CConv
theorem refOne_to (x y:Int) (hx1 : -128≤x) (hx2:x≤127) (hy1 : -128≤y) (hy2:y≤127) (x0 x1 x2:Value) (K S P O Z Y:Int) (WA BA:Option Addr) (nW cW nB cB:Nat) (m1 s1 z1 m2 s2 z2 lo hi:Int) (hnb:NBd Z Y m1 z1 m2 z2 lo hi) (R:Int) (hR:oneZ x y Z Y m1 s1 z1 m2 s2 lo hi=R) (w:World) :
  Calls Tryz.prog 70 #[.int .i8 x,.int .i8 y,.agg #[x0,x1,x2,Jj Jq K,Jj Jq S,Jj Jq P,Jj Jq O,.int .i8 Z,.int .i8 Y,.slice WA nW cW,.slice BA nB cB,.int .i32 m1,Jj Jq s1,.int .i8 z1,.int .i32 m2,Jj Jq s2,.int .i8 z2,.int .i8 lo,.int .i8 hi]] w fun e w'=>e=.returned (.int .i8 R)∧Below w.heap.size w w':=by
 obtain⟨⟨hZ1,hZ2⟩,⟨hY1,hY2⟩,⟨hm3,hm1⟩,⟨hz1,hz2⟩,⟨hm4,hm2⟩,⟨hz3,hz4⟩,⟨hl1,hl2⟩,⟨hh1,hh2⟩⟩:=hnb
 cases h1:zau m1 s1 <;> cases h2:zau m2 s2
 ·exact Zu
 ·exact Zu
 ·have H1:=hid h1
  have H2:=hid h2
  unfold oneZ at hR
  rw [h1,h2] at hR
  rw [if_neg Zbc] at hR
  subst hR
  clear h1 h2
  go_enter Tryz.func70,Tryz.ntmps70
  go_wp2_with (first
  | (go_at_call 64
     refine Z6s ?_;intro hal
     refine (za8 _ _ _ _).mono ?_
     rintro e w1 ⟨rfl,hb⟩
     refine Z6i ?_;intro hh TN yTN HBW
     rw [H1.out]
     refine Z99 ?_;intro n7 n8
     refine Z6e ?_;intro n11 n12 n13 n14 n15 n16
     refine Z8y ?_;intro n17 n18
     clear hb hh hal)
  | (go_at_call 64
     refine Z72 ?_;intro hal
     refine (za8 _ _ _ _).mono ?_
     rintro e w2 ⟨rfl,hb⟩
     refine Z6r ?_;intro hh
     refine Z6j ?_;try clear TN yTN;intro TN yTN
     refine Z74 ?_;try clear HBW;intro HBW
     clear n7 n8 n11 n12 n13 n14 n15 n16 n17 n18
     rw [H2.out]
     refine Z99 ?_;intro n7 n8
     refine Z6e ?_;intro n11 n12 n13 n14 n15 n16
     refine Z8y ?_;intro n17 n18
     clear hb hh hal))
  go_ret
  exact⟨rfl,HBW.out⟩
 ·have hh:(zau m1 s1 && zau m2 s2)=true:=by rw [h1,h2];rfl
  obtain⟨hr1,hr2⟩:zau m1 s1=true∧zau m2 s2=true:=by simpa using hh
  obtain⟨b1,b2⟩:=round_term hx1 hx2 hZ1 hZ2 hm1 hr1
  obtain⟨b3,b4⟩:=round_term hy1 hy2 hY1 hY2 hm2 hr2
  unfold oneZ at hR
  rw [hh,if_pos rfl] at hR
  obtain⟨t1,ht1⟩:∃ t1,zbo ((x - Z) * m1) s1.toNat=t1:=⟨_,rfl⟩
  obtain⟨t2,ht2⟩:∃ t2,zbo ((y - Y) * m2) s2.toNat=t2:=⟨_,rfl⟩
  rw [ht1] at b1 b2 hR
  rw [ht2] at b3 b4 hR
  obtain⟨k1,g1,g2⟩:=rightB_yes hr1
  obtain⟨k2,g3,g4⟩:=rightB_yes hr2
  obtain⟨v1,v2⟩:=term_abs hx1 hx2 hZ1 hZ2 k1 hm1
  obtain⟨v3,v4⟩:=term_abs hy1 hy2 hY1 hY2 k2 hm2
  obtain⟨p1,hp1⟩:∃ p1,(x - Z) * m1=p1:=⟨_,rfl⟩
  obtain⟨p2,hp2⟩:∃ p2,(y - Y) * m2=p2:=⟨_,rfl⟩
  have a1:IntKind.i64.wrap ((x - Z) * m1)=p1:=by rw [hp1] at v1 v2 ⊢;exact IntWalk.i64_in _ Zb3
  have a2:IntKind.i64.wrap ((y - Y) * m2)=p2:=by rw [hp2] at v3 v4 ⊢;exact IntWalk.i64_in _ Zb3
  rw [hp1] at v1 v2 ht1
  rw [hp2] at v3 v4 ht2
  have p3 : -9223372036854775808≤p1:=by omega
  have p4:p1≤9223372036854775807:=by omega
  have p5 : -9223372036854775808≤p2:=by omega
  have p6:p2≤9223372036854775807:=by omega
  have w1:IntKind.i64.wrap (t1+t2)=t1+t2:=IntWalk.i64_in _ Zb3
  have w2:IntKind.i64.wrap (t1+t2+z1)=t1+t2+z1:=IntWalk.i64_in _ Zb3
  have w3:IntKind.i64.wrap (x - Z)=x - Z:=IntWalk.i64_in _ Zb3
  have w4:IntKind.i64.wrap (y - Y)=y - Y:=IntWalk.i64_in _ Zb3
  obtain⟨c1,c2⟩ : -128≤R∧R≤127:=by rw [← hR];exact clampZ_bd _ _ _ hl1 hl2 hh1 hh2
  have c3:IntKind.i8.wrap R=R:=IntWalk.i8_in _ Zb3
  have H1:=hid h1
  have H2:=hid h2
  have HH:=hid hh
  have HR1:=hid hr1
  have HR2:=hid hr2
  have HT1:=hid ht1
  have HT2:=hid ht2
  have HC:=hid hR
  clear hh hr1 hr2 ht1 ht2 hR
  clear hp1 hp2 h1 h2 v1 v2 v3 v4
  go_enter Tryz.func70,Tryz.ntmps70
  go_wp2_with (first
  | (go_at_call 64
     refine Z6s ?_;intro hal
     refine (za8 _ _ _ _).mono ?_
     rintro e w1 ⟨rfl,hb⟩
     refine Z6i ?_;intro hh TN yTN HBW
     rw [H1.out]
     refine Z99 ?_;intro n7 n8
     refine Z6e ?_;intro n11 n12 n13 n14 n15 n16
     refine Z8y ?_;intro n17 n18
     clear hb hh hal)
  | (go_at_call 64
     refine Z72 ?_;intro hal
     refine (za8 _ _ _ _).mono ?_
     rintro e w2 ⟨rfl,hb⟩
     refine Z6r ?_;intro hh
     refine Z6j ?_;try clear TN yTN;intro TN yTN
     refine Z74 ?_;try clear HBW;intro HBW
     clear n7 n8 n11 n12 n13 n14 n15 n16 n17 n18
     rw [H2.out]
     refine Z99 ?_;intro n7 n8
     refine Z6e ?_;intro n11 n12 n13 n14 n15 n16
     refine Z8y ?_;intro n17 n18
     clear hb hh hal)
  | (go_at_call 113
     with_reducible refine (refRound_int p1 s1 t1 g1 g2 p3 p4 HT1.out _).mono ?_
     rintro e w3 ⟨rfl,q,hq⟩
     have hh:Below w2.heap.size w2 w3:=by rw [hq];exact Kit.below_drewN (Below.refl _ _) q
     refine Z6j ?_;try clear TN yTN;intro TN yTN
     refine Z74 ?_;try clear HBW;intro HBW
     clear n7 n8 n11 n12 n13 n14 n15 n16 n17 n18
     refine Z99 ?_;intro n7 n8
     refine Z6e ?_;intro n11 n12 n13 n14 n15 n16
     refine Z8y ?_;intro n17 n18
     clear hh hq)
  | (go_at_call 113
     with_reducible refine (refRound_int p2 s2 t2 g3 g4 p5 p6 HT2.out _).mono ?_
     rintro e w4 ⟨rfl,q,hq⟩
     have hh:Below w3.heap.size w3 w4:=by rw [hq];exact Kit.below_drewN (Below.refl _ _) q
     refine Z6j ?_;try clear TN yTN;intro TN yTN
     refine Z74 ?_;try clear HBW;intro HBW
     clear n7 n8 n11 n12 n13 n14 n15 n16 n17 n18
     refine Z99 ?_;intro n7 n8
     refine Z6e ?_;intro n11 n12 n13 n14 n15 n16
     refine Z8y ?_;intro n17 n18
     clear hh hq)
  | (go_at_call 114;(refine (refHeld_to _ lo hi R HC.out _).mono ?_);rintro e w5 ⟨rfl,rfl⟩))
  go_ret
  exact⟨rfl,HBW.out⟩
end CJoin
end
end Go.Proofs.YtchpdhhpkljdhaaGreatDoor
