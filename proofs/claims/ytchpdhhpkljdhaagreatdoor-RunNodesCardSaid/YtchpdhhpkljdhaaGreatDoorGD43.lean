/- -/
import Derived.Test.YtchpdhhpkljdhaaGreatDoorGD31
open Go.Value renaming int→Jj
open Go.IntKind renaming i64→Jq
open Go.Lib (hid)
open Nat (le_refl lt_of_succ_lt lt_succ_self)
set_option linter.unusedVariables false
set_option linter.unusedSimpArgs false
set_option maxRecDepth 100000
set_option maxHeartbeats 16000000
namespace Go.Proofs.YtchpdhhpkljdhaaGreatDoor
namespace CConv
end CConv
namespace CSat
end CSat
section
namespace CJoin
open Go Go.ChangeShapes Go.WideShapes Go.ChangeAt Go.RowKit Go.Deep Go.Shelf Round
open Plain CSat CFix CShape CTensor CConv
theorem rjof_bad1 (H W C H' W' C':Int) (A B:Option Addr) (n c m d:Nat) (x0 x1 x2:Value) (K S P O Z Y:Int) (WA BA:Option Addr) (nW cW nB cB:Nat) (m1 s1 z1 m2 s2 z2 lo hi:Int) (h1:tensB H W C n=false) (w:World) :
  Calls Tryz.prog 24 #[.agg #[Jj Jq H,Jj Jq W,Jj Jq C,.slice A n c],.agg #[Jj Jq H',Jj Jq W',Jj Jq C',.slice B m d],.agg #[x0,x1,x2,Jj Jq K,Jj Jq S,Jj Jq P,Jj Jq O,.int .i8 Z,.int .i8 Y,.slice WA nW cW,.slice BA nB cB,.int .i32 m1,Jj Jq s1,.int .i8 z1,.int .i32 m2,Jj Jq s2,.int .i8 z2,.int .i8 lo,.int .i8 hi]] w (MadeJ w 0 0 0 0 [] (Jj Jq 5)):=by
 have HT1:=hid h1
 clear h1
 have HE:=zb9 H W C H' W' C'
 have hg:=Tryz.eqGuardType30
 go_enter Tryz.func24,Tryz.ntmps24
 go_wp2_with (first
 | (go_at_call 22
    refine Z6a ?_;intro hal
    refine (zal H W C A n c false HT1.out _).mono ?_
    rintro e w1 ⟨rfl,hb⟩
    refine Z5v ?_;intro hh TA yTA TB yTB TN yTN FR yFR HBW
    obtain⟨⟨z0,z1,z2,z3⟩,z4,z5,z6,z7⟩:=FR.out
    refine Z7q ?_;intro tap0 tap1 tap2 tap3 tbp0 tbp1 tbp2 tbp3
    clear hb hh hal))
 refine bodyPost_ret (Kit.zaa rfl _ _ (w.heap.size+3) 0 [Jj Jq 0,Jj Jq 0,Jj Jq 0,.slice none 0 0] _ rfl (zao Zb6 Zb6 Zb6 Zb6) Tryz.underlying32 rfl Zb5) rfl ?_
 exact Zj
theorem rjof_bad2 (H W C H' W' C':Int) (A B:Option Addr) (n c m d:Nat) (x0 x1 x2:Value) (K S P O Z Y:Int) (WA BA:Option Addr) (nW cW nB cB:Nat) (m1 s1 z1 m2 s2 z2 lo hi:Int) (h1:tensB H W C n=true) (h2:tensB H' W' C' m=false) (w:World) :
  Calls Tryz.prog 24 #[.agg #[Jj Jq H,Jj Jq W,Jj Jq C,.slice A n c],.agg #[Jj Jq H',Jj Jq W',Jj Jq C',.slice B m d],.agg #[x0,x1,x2,Jj Jq K,Jj Jq S,Jj Jq P,Jj Jq O,.int .i8 Z,.int .i8 Y,.slice WA nW cW,.slice BA nB cB,.int .i32 m1,Jj Jq s1,.int .i8 z1,.int .i32 m2,Jj Jq s2,.int .i8 z2,.int .i8 lo,.int .i8 hi]] w (MadeJ w 0 0 0 0 [] (Jj Jq 5)):=by
 have HT1:=hid h1
 have HT2:=hid h2
 clear h1 h2
 have HE:=zb9 H W C H' W' C'
 have hg:=Tryz.eqGuardType30
 go_enter Tryz.func24,Tryz.ntmps24
 go_wp2_with (first
 | (go_at_call 22
    have hchk:=HBW
    clear hchk
    refine Z72 ?_;intro hal
    refine (zal H' W' C' B m d false HT2.out _).mono ?_
    rintro e w2 ⟨rfl,hb⟩
    refine Z6r ?_;intro hh
    refine Z78 ?_;try clear TA yTA;intro TA yTA
    refine Z60 ?_;try clear TB yTB TN yTN FR yFR;intro TB yTB TN yTN FR yFR
    refine Z74 ?_;try clear HBW;intro HBW
    clear tap0 tap1 tap2 tap3 tbp0 tbp1 tbp2 tbp3
    obtain⟨⟨z0,z1,z2,z3⟩,z4,z5,z6,z7⟩:=FR.out
    refine Z7q ?_;intro tap0 tap1 tap2 tap3 tbp0 tbp1 tbp2 tbp3
    clear hb hh hal)
 | (go_at_call 22
    refine Z6a ?_;intro hal
    refine (zal H W C A n c true HT1.out _).mono ?_
    rintro e w1 ⟨rfl,hb⟩
    refine Z5v ?_;intro hh TA yTA TB yTB TN yTN FR yFR HBW
    refine Z7q ?_;intro tap0 tap1 tap2 tap3 tbp0 tbp1 tbp2 tbp3
    clear hb hh hal))
 refine bodyPost_ret (Kit.zaa rfl _ _ (w.heap.size+3) 0 [Jj Jq 0,Jj Jq 0,Jj Jq 0,.slice none 0 0] _ rfl (zao Zb6 Zb6 Zb6 Zb6) Tryz.underlying32 rfl Zb5) rfl ?_
 exact Zj
theorem rjof_bad3 (H W C H' W' C':Int) (A B:Option Addr) (n c m d:Nat) (x0 x1 x2:Value) (K S P O Z Y:Int) (WA BA:Option Addr) (nW cW nB cB:Nat) (m1 s1 z1 m2 s2 z2 lo hi:Int) (h1:tensB H W C n=true) (h2:tensB H' W' C' m=true) (hne:(H == H' && (W == W' && C == C'))=false) (w:World) :
  Calls Tryz.prog 24 #[.agg #[Jj Jq H,Jj Jq W,Jj Jq C,.slice A n c],.agg #[Jj Jq H',Jj Jq W',Jj Jq C',.slice B m d],.agg #[x0,x1,x2,Jj Jq K,Jj Jq S,Jj Jq P,Jj Jq O,.int .i8 Z,.int .i8 Y,.slice WA nW cW,.slice BA nB cB,.int .i32 m1,Jj Jq s1,.int .i8 z1,.int .i32 m2,Jj Jq s2,.int .i8 z2,.int .i8 lo,.int .i8 hi]] w (MadeJ w 0 0 0 0 [] (Jj Jq 5)):=by
 have HT1:=hid h1
 have HT2:=hid h2
 clear h1 h2
 have HE:=zb9 H W C H' W' C'
 have hg:=Tryz.eqGuardType30
 go_enter Tryz.func24,Tryz.ntmps24
 go_wp2_with (first
 | (go_at_call 22
    have hchk:=HBW
    clear hchk
    refine Z72 ?_;intro hal
    refine (zal H' W' C' B m d true HT2.out _).mono ?_
    rintro e w2 ⟨rfl,hb⟩
    refine Z6r ?_;intro hh
    refine Z78 ?_;try clear TA yTA;intro TA yTA
    refine Z60 ?_;try clear TB yTB TN yTN FR yFR;intro TB yTB TN yTN FR yFR
    refine Z74 ?_;try clear HBW;intro HBW
    clear tap0 tap1 tap2 tap3 tbp0 tbp1 tbp2 tbp3
    obtain⟨⟨z0,z1,z2,z3⟩,z4,z5,z6,z7⟩:=FR.out
    refine Z7q ?_;intro tap0 tap1 tap2 tap3 tbp0 tbp1 tbp2 tbp3
    clear hb hh hal)
 | (go_at_call 22
    refine Z6a ?_;intro hal
    refine (zal H W C A n c true HT1.out _).mono ?_
    rintro e w1 ⟨rfl,hb⟩
    refine Z5v ?_;intro hh TA yTA TB yTB TN yTN FR yFR HBW
    refine Z7q ?_;intro tap0 tap1 tap2 tap3 tbp0 tbp1 tbp2 tbp3
    clear hb hh hal))
 refine bodyPost_ret (Kit.zaa rfl _ _ (w.heap.size+3) 0 [Jj Jq 0,Jj Jq 0,Jj Jq 0,.slice none 0 0] _ rfl (zao Zb6 Zb6 Zb6 Zb6) Tryz.underlying32 rfl Zb5) rfl ?_
 exact Zj
theorem rjof_q00 (H W C:Int) (A B:Option Addr) (n c d:Nat) (x0 x1 x2:Value) (K S P O Z Y:Int) (WA BA:Option Addr) (nW cW nB cB:Nat) (m1 s1 z1 m2 s2 z2 lo hi:Int) (h1:tensB H W C n=true) (hr1:zau m1 s1=false) (hr2:zau m2 s2=false) (w:World) :
  Calls Tryz.prog 24 #[.agg #[Jj Jq H,Jj Jq W,Jj Jq C,.slice A n c],.agg #[Jj Jq H,Jj Jq W,Jj Jq C,.slice B n d],.agg #[x0,x1,x2,Jj Jq K,Jj Jq S,Jj Jq P,Jj Jq O,.int .i8 Z,.int .i8 Y,.slice WA nW cW,.slice BA nB cB,.int .i32 m1,Jj Jq s1,.int .i8 z1,.int .i32 m2,Jj Jq s2,.int .i8 z2,.int .i8 lo,.int .i8 hi]] w (MadeJ w 0 0 0 0 [] (Jj Jq 7)):=by
 exact Z4
theorem rjof_q01 (H W C:Int) (A B:Option Addr) (n c d:Nat) (x0 x1 x2:Value) (K S P O Z Y:Int) (WA BA:Option Addr) (nW cW nB cB:Nat) (m1 s1 z1 m2 s2 z2 lo hi:Int) (h1:tensB H W C n=true) (hr1:zau m1 s1=false) (hr2:zau m2 s2=true) (w:World) :
  Calls Tryz.prog 24 #[.agg #[Jj Jq H,Jj Jq W,Jj Jq C,.slice A n c],.agg #[Jj Jq H,Jj Jq W,Jj Jq C,.slice B n d],.agg #[x0,x1,x2,Jj Jq K,Jj Jq S,Jj Jq P,Jj Jq O,.int .i8 Z,.int .i8 Y,.slice WA nW cW,.slice BA nB cB,.int .i32 m1,Jj Jq s1,.int .i8 z1,.int .i32 m2,Jj Jq s2,.int .i8 z2,.int .i8 lo,.int .i8 hi]] w (MadeJ w 0 0 0 0 [] (Jj Jq 7)):=by
 exact Z4
theorem rjof_q10 (H W C:Int) (A B:Option Addr) (n c d:Nat) (x0 x1 x2:Value) (K S P O Z Y:Int) (WA BA:Option Addr) (nW cW nB cB:Nat) (m1 s1 z1 m2 s2 z2 lo hi:Int) (h1:tensB H W C n=true) (hr1:zau m1 s1=true) (hr2:zau m2 s2=false) (w:World) :
  Calls Tryz.prog 24 #[.agg #[Jj Jq H,Jj Jq W,Jj Jq C,.slice A n c],.agg #[Jj Jq H,Jj Jq W,Jj Jq C,.slice B n d],.agg #[x0,x1,x2,Jj Jq K,Jj Jq S,Jj Jq P,Jj Jq O,.int .i8 Z,.int .i8 Y,.slice WA nW cW,.slice BA nB cB,.int .i32 m1,Jj Jq s1,.int .i8 z1,.int .i32 m2,Jj Jq s2,.int .i8 z2,.int .i8 lo,.int .i8 hi]] w (MadeJ w 0 0 0 0 [] (Jj Jq 7)):=by
 have HT1:=hid h1
 have HT2:=hid h1
 clear h1
 have HE:=zb9 H W C H W C
 have hg:=Tryz.eqGuardType30
 have HR1:=hid hr1
 have HR2:=hid hr2
 clear hr1 hr2
 go_enter Tryz.func24,Tryz.ntmps24
 go_wp2_with (first
 | (go_at_call 22
    have hchk:=HBW
    clear hchk
    refine Z72 ?_;intro hal
    refine (zal H W C B n d true HT2.out _).mono ?_
    rintro e w2 ⟨rfl,hb⟩
    refine Z6r ?_;intro hh
    refine Z78 ?_;try clear TA yTA;intro TA yTA
    refine Z60 ?_;try clear TB yTB TN yTN FR yFR;intro TB yTB TN yTN FR yFR
    refine Z74 ?_;try clear HBW;intro HBW
    clear tap0 tap1 tap2 tap3 tbp0 tbp1 tbp2 tbp3 n11 n12 n13 n14 n15 n16
    refine Z7q ?_;intro tap0 tap1 tap2 tap3 tbp0 tbp1 tbp2 tbp3
    refine Z6e ?_;intro n11 n12 n13 n14 n15 n16
    clear hb hh hal)
 | (go_at_call 22
    refine Z6z ?_;intro hal
    refine (zal H W C A n c true HT1.out _).mono ?_
    rintro e w1 ⟨rfl,hb⟩
    refine Z66 ?_;intro hh TA yTA TB yTB TN yTN FR yFR HBW
    refine Z7q ?_;intro tap0 tap1 tap2 tap3 tbp0 tbp1 tbp2 tbp3
    refine Z6e ?_;intro n11 n12 n13 n14 n15 n16
    clear hb hh hal)
 | (go_at_call 64
    have hchk:=hchk3
    clear hchk
    have hal:Below w3.heap.size w3 w3:=Below.refl _ _
    refine (za8 _ _ _ _).mono ?_
    rintro e w4 ⟨rfl,hb⟩
    have hh:Below w3.heap.size w3 w4:=hal.trans (hb.mono hal.size)
    refine Z78 ?_;try clear TA yTA;intro TA yTA
    refine Z60 ?_;try clear TB yTB TN yTN FR yFR;intro TB yTB TN yTN FR yFR
    refine Z74 ?_;try clear HBW;intro HBW
    clear tap0 tap1 tap2 tap3 tbp0 tbp1 tbp2 tbp3 n11 n12 n13 n14 n15 n16
    rw [HR2.out]
    obtain⟨⟨z0,z1,z2,z3⟩,z4,z5,z6,z7⟩:=FR.out
    refine Z7q ?_;intro tap0 tap1 tap2 tap3 tbp0 tbp1 tbp2 tbp3
    refine Z6e ?_;intro n11 n12 n13 n14 n15 n16
    clear hb hh hal)
 | (go_at_call 64
    have hal:Below w2.heap.size w2 w2:=Below.refl _ _
    refine (za8 _ _ _ _).mono ?_
    rintro e w3 ⟨rfl,hb⟩
    refine Z8c ?_;intro hh
    refine Z78 ?_;try clear TA yTA;intro TA yTA
    refine Z60 ?_;try clear TB yTB TN yTN FR yFR;intro TB yTB TN yTN FR yFR
    refine Z74 ?_;try clear HBW;intro HBW
    clear tap0 tap1 tap2 tap3 tbp0 tbp1 tbp2 tbp3 n11 n12 n13 n14 n15 n16
    rw [HR1.out]
    have hchk3:=True.intro
    refine Z7q ?_;intro tap0 tap1 tap2 tap3 tbp0 tbp1 tbp2 tbp3
    refine Z6e ?_;intro n11 n12 n13 n14 n15 n16
    clear hb hh hal))
 refine bodyPost_ret (Kit.zaa rfl _ _ (w.heap.size+3) 0 [Jj Jq 0,Jj Jq 0,Jj Jq 0,.slice none 0 0] _ rfl (zao Zb6 Zb6 Zb6 Zb6) Tryz.underlying32 rfl Zb5) rfl ?_
 exact Zj
theorem rjof_quant (H W C:Int) (A B:Option Addr) (n c d:Nat) (x0 x1 x2:Value) (K S P O Z Y:Int) (WA BA:Option Addr) (nW cW nB cB:Nat) (m1 s1 z1 m2 s2 z2 lo hi:Int) (h1:tensB H W C n=true) (hh:(zau m1 s1 && zau m2 s2)=false) (w:World) :
  Calls Tryz.prog 24 #[.agg #[Jj Jq H,Jj Jq W,Jj Jq C,.slice A n c],.agg #[Jj Jq H,Jj Jq W,Jj Jq C,.slice B n d],.agg #[x0,x1,x2,Jj Jq K,Jj Jq S,Jj Jq P,Jj Jq O,.int .i8 Z,.int .i8 Y,.slice WA nW cW,.slice BA nB cB,.int .i32 m1,Jj Jq s1,.int .i8 z1,.int .i32 m2,Jj Jq s2,.int .i8 z2,.int .i8 lo,.int .i8 hi]] w (MadeJ w 0 0 0 0 [] (Jj Jq 7)):=by
 cases a:zau m1 s1 <;> cases b:zau m2 s2
 ·exact rjof_q00 H W C A B n c d x0 x1 x2 K S P O Z Y WA BA nW cW nB cB m1 s1 z1 m2 s2 z2 lo hi h1 a b w
 ·exact rjof_q01 H W C A B n c d x0 x1 x2 K S P O Z Y WA BA nW cW nB cB m1 s1 z1 m2 s2 z2 lo hi h1 a b w
 ·exact rjof_q10 H W C A B n c d x0 x1 x2 K S P O Z Y WA BA nW cW nB cB m1 s1 z1 m2 s2 z2 lo hi h1 a b w
 ·rw [a,b] at hh;cases hh
end CJoin
end
end Go.Proofs.YtchpdhhpkljdhaaGreatDoor
