/- -/
import Derived.Test.YtoffcaldhojjoaaDoorGVP45
open Go.Lib (hid)
open Nat (le_refl lt_of_succ_lt lt_succ_self)
set_option linter.unusedVariables false
set_option linter.unusedSimpArgs false
set_option maxRecDepth 100000
set_option maxHeartbeats 16000000
namespace Go.Proofs.YtoffcaldhojjoaaDoor
namespace CConv
end CConv
namespace CCost
end CCost
namespace CFix
end CFix
namespace CGraph
end CGraph
namespace CGuard
end CGuard
namespace CJoin
end CJoin
namespace CKind
end CKind
namespace CSat
end CSat
namespace CShape
end CShape
namespace CSpan
end CSpan
namespace CTensor
end CTensor
open Go Go.ChangeShapes Go.WideShapes Go.ChangeAt Go.RowKit Go.Deep
section
namespace CValid
open Plain CSat CFix CShape CTensor CConv CSpan CKind CGraph CJoin CGuard CBund CCost CVerd
def mnZ (n:Nat):Int:=if n=0 then 12 else if 6 < n then 4 else 0
theorem many_to (A:Option Addr) (n c:Nat) (w:World):Calls Tryd.prog 31 #[.slice A n c] w fun e w'=>e=.returned (.int .i64 (mnZ n))∧Below w.heap.size w w':=by
 by_cases h0:n=0
 ·subst h0
  go_enter Tryd.func31,Tryd.ntmps31
  go_wp2_with fail
  go_ret
  exact⟨rfl,Below.refl _ _⟩
 ·have h1:((n:Int) == 0)=false:=by simp;omega
  have h1b:¬ (n:Int)=0:=by omega
  by_cases h2:6 < n
  ·have h3:(n:Int) > 6:=by omega
   have h4:decide ((6:Int) < (n:Int))=true:=by simp;omega
   have h5:decide (6 < n)=true:=by simp [h2]
   have hz:mnZ n=4:=by unfold mnZ;rw [if_neg h0,if_pos h2]
   rw [hz]
   clear hz h0 h2
   go_enter Tryd.func31,Tryd.ntmps31
   go_wp2_with fail
   go_ret
   exact⟨rfl,Below.refl _ _⟩
  ·have h3:¬ (n:Int) > 6:=by omega
   have h4:decide ((6:Int) < (n:Int))=false:=by simp;omega
   have h5:decide (6 < n)=false:=by simp;omega
   have hz:mnZ n=0:=by unfold mnZ;rw [if_neg h0,if_neg h2]
   rw [hz]
   clear hz h0 h2
   go_enter Tryd.func31,Tryd.ntmps31
   go_wp2_with fail
   go_ret
   exact⟨rfl,Below.refl _ _⟩
theorem outside_to (u:Bu) (w:World):Calls Tryd.prog 17 #[.agg u.val.toArray] w fun e w'=>e=.returned (.int .i64 (za0 u))∧Below w.heap.size w w':=by
 have HB0:=hid ((Below.refl w.heap.size w).alloc (le_refl _) (.cells u.val.toArray 37))
 have HU:=hid (UAt.new u 37 w)
 have HL:Hid (w.heap.size < (w.alloc (.cells u.val.toArray 37)).heap.size):=hid (by simp)
 obtain⟨sb,hsb⟩:∃ sb,zad u.H u.W u.C=sb:=⟨_,rfl⟩
 have CR:=hid (fun wx:World=>zaj u.H u.W u.C sb hsb wx)
 have hz:za0 u=if sb=false then 5 else if u.cl < 2∨16 < u.cl then 2 else if u.n=0 then 12 else if 3 < u.n then 4 else 0:=by unfold za0;rw [hsb]
 have HZ:=hid hz
 clear hsb hz
 go_enter Tryd.func17,Tryd.ntmps17
 go_upto_region 1 with fail
 generalize w.alloc (.cells u.val.toArray 37)=W0 at HB0 HU HL ⊢
 obtain⟨c0,c1,c2,c3,c4⟩:=HU.out
 cases sb with
 | false =>
   have HE:Hid (za0 u=5):=hid (by rw [HZ.out];rfl)
   go_wp2_with (go_at_call 30;(refine (CR.out _).mono ?_);rintro e w1 ⟨rfl,hb⟩;(have HB1:=hid (HB0.out.trans (hb.mono HB0.out.size)));(have HU1:=hid (HU.out.below HL.out hb));clear hb c0 c1 c2 c3 c4;obtain⟨c0,c1,c2,c3,c4⟩:=HU1.out)
   go_ret
   exact⟨by rw [HE.out];first | done | rfl,HB1.out⟩
 | true =>
   have hz2:za0 u=if u.cl < 2∨16 < u.cl then 2 else if u.n=0 then 12 else if 3 < u.n then 4 else 0:=by rw [HZ.out];rfl
   have HZ2:=hid hz2
   clear hz2 HZ
   by_cases h1:u.cl < 2
   ·have h1b:decide (u.cl < 2)=true:=by simp [h1]
    have HE:Hid (za0 u=2):=hid (by rw [HZ2.out,if_pos (.inl h1)])
    go_wp2_with (go_at_call 30;(refine (CR.out _).mono ?_);rintro e w1 ⟨rfl,hb⟩;(have HB1:=hid (HB0.out.trans (hb.mono HB0.out.size)));(have HU1:=hid (HU.out.below HL.out hb));clear hb c0 c1 c2 c3 c4;obtain⟨c0,c1,c2,c3,c4⟩:=HU1.out)
    go_ret
    exact⟨by rw [HE.out];first | done | rfl,HB1.out⟩
   ·have h1b:decide (u.cl < 2)=false:=by simp;omega
    by_cases h2:16 < u.cl
    ·have h2a:u.cl > 16:=h2
     have h2b:decide (16 < u.cl)=true:=by simp [h2]
     have HE:Hid (za0 u=2):=hid (by rw [HZ2.out,if_pos (.inr h2)])
     go_wp2_with (go_at_call 30;(refine (CR.out _).mono ?_);rintro e w1 ⟨rfl,hb⟩;(have HB1:=hid (HB0.out.trans (hb.mono HB0.out.size)));(have HU1:=hid (HU.out.below HL.out hb));clear hb c0 c1 c2 c3 c4;obtain⟨c0,c1,c2,c3,c4⟩:=HU1.out)
     go_ret
     exact⟨by rw [HE.out];first | done | rfl,HB1.out⟩
    ·have h2a:¬ u.cl > 16:=h2
     have h2b:decide (16 < u.cl)=false:=by simp;omega
     have hz3:za0 u=if u.n=0 then 12 else if 3 < u.n then 4 else 0:=by rw [HZ2.out,if_neg (by omega)]
     have HZ3:=hid hz3
     clear hz3 HZ2
     by_cases h3:u.n=0
     ·have HE:Hid (za0 u=12):=hid (by rw [HZ3.out,if_pos h3])
      go_wp2_with (go_at_call 30;(refine (CR.out _).mono ?_);rintro e w1 ⟨rfl,hb⟩;(have HB1:=hid (HB0.out.trans (hb.mono HB0.out.size)));(have HU1:=hid (HU.out.below HL.out hb));clear hb c0 c1 c2 c3 c4;obtain⟨c0,c1,c2,c3,c4⟩:=HU1.out)
      go_ret
      exact⟨by rw [HE.out];first | done | rfl,HB1.out⟩
     ·have h3a:((u.n:Int) == 0)=false:=by simp;omega
      have h3b:¬ (u.n:Int)=0:=by omega
      by_cases h4:3 < u.n
      ·have h4a:(u.n:Int) > 3:=by omega
       have h4b:decide ((3:Int) < (u.n:Int))=true:=by simp;omega
       have h4c:decide (3 < u.n)=true:=by simp [h4]
       have HE:Hid (za0 u=4):=hid (by rw [HZ3.out,if_neg h3,if_pos h4])
       clear h3 h4
       go_wp2_with (go_at_call 30;(refine (CR.out _).mono ?_);rintro e w1 ⟨rfl,hb⟩;(have HB1:=hid (HB0.out.trans (hb.mono HB0.out.size)));(have HU1:=hid (HU.out.below HL.out hb));clear hb c0 c1 c2 c3 c4;obtain⟨c0,c1,c2,c3,c4⟩:=HU1.out)
       go_ret
       exact⟨by rw [HE.out];first | done | rfl,HB1.out⟩
      ·have h4a:¬ (u.n:Int) > 3:=by omega
       have h4b:decide ((3:Int) < (u.n:Int))=false:=by simp;omega
       have h4c:decide (3 < u.n)=false:=by simp;omega
       have HE:Hid (za0 u=0):=hid (by rw [HZ3.out,if_neg h3,if_neg h4])
       clear h3 h4
       go_wp2_with (go_at_call 30;(refine (CR.out _).mono ?_);rintro e w1 ⟨rfl,hb⟩;(have HB1:=hid (HB0.out.trans (hb.mono HB0.out.size)));(have HU1:=hid (HU.out.below HL.out hb));clear hb c0 c1 c2 c3 c4;obtain⟨c0,c1,c2,c3,c4⟩:=HU1.out)
       go_ret
       exact⟨by rw [HE.out];first | done | rfl,HB1.out⟩
theorem used_to (h:Hd) (w:World):Calls Tryd.prog 36 #[.agg #[.slice h.WA h.nW h.cW,.slice h.BA h.nB h.cB,.int .i32 h.D]] w fun e w'=>e=.returned (.bool (told h))∧Below w.heap.size w w':=by
 have HB0:=hid ((Below.refl w.heap.size w).alloc (le_refl _) (.cells #[.slice h.WA h.nW h.cW,.slice h.BA h.nB h.cB,.int .i32 h.D] 26))
 have HG:=hid (headGNew h.WA h.BA h.nW h.cW h.nB h.cB h.D 26 w)
 go_enter Tryd.func36,Tryd.ntmps36
 go_upto_region 1 with fail
 generalize w.alloc (.cells #[.slice h.WA h.nW h.cW,.slice h.BA h.nB h.cB,.int .i32 h.D] 26)=W0 at HB0 HG ⊢
 obtain⟨k0,k1,k2⟩:=HG.out
 by_cases w1:0 < h.nW
 ·have HTO:=hid (told_w w1)
  have ga:(h.nW:Int) > 0:=by omega
  have gb:decide ((0:Int) < (h.nW:Int))=true:=by simp;omega
  have gc:decide (0 < h.nW)=true:=by simp;omega
  clear w1
  go_wp2_with fail
  go_ret
  exact⟨by rw [HTO.out];first | done | rfl,HB0.out⟩
 have w0:h.nW=0:=by omega
 have ga:¬ (h.nW:Int) > 0:=by omega
 have gb:decide ((0:Int) < (h.nW:Int))=false:=by simp;omega
 have gc:decide (0 < h.nW)=false:=by simp;omega
 by_cases w2:0 < h.nB
 ·have HTO:=hid (told_b w2)
  have fa:(h.nB:Int) > 0:=by omega
  have fb:decide ((0:Int) < (h.nB:Int))=true:=by simp;omega
  have fc:decide (0 < h.nB)=true:=by simp;omega
  clear w2
  go_wp2_with fail
  go_ret
  exact⟨by rw [HTO.out];first | done | rfl,HB0.out⟩
 have w4:h.nB=0:=by omega
 have fa:¬ (h.nB:Int) > 0:=by omega
 have fb:decide ((0:Int) < (h.nB:Int))=false:=by simp;omega
 have fc:decide (0 < h.nB)=false:=by simp;omega
 by_cases w5:h.D=0
 ·have HTO:=hid (told_no w0 w4 w5)
  have d1:(h.D != 0)=false:=by simp [w5]
  go_wp2_with fail
  go_ret
  exact⟨by rw [HTO.out];first | done | rfl,HB0.out⟩
 ·have HTO:=hid (told_d w5)
  have d1:(h.D != 0)=true:=by simp [w5]
  go_wp2_with fail
  go_ret
  exact⟨by rw [HTO.out];first | done | rfl,HB0.out⟩
theorem vexit_to (b:Bk) (s:Ls) (o:Tri) (r:Rch) (hr:RBd r) (cl:Int) (last:Bool) (w:World) (h:BkRdy w b s) :
  Calls Tryd.prog 21 #[.agg b.val.toArray,.agg #[.int .i64 o.1,.int .i64 o.2.1,.int .i64 o.2.2],.agg #[.int .i8 r.1,.int .i8 r.2],.int .i64 cl,.bool last] w (SaysI (exZ b.hd b.ex s o r cl last) w):=by
 obtain⟨cz,hcz⟩:∃ cz,verdE o.1 o.2.1 o.2.2 b.hd.nW b.hd.nB b.hd.D cl=cz:=⟨_,rfl⟩
 obtain⟨hz,hhz⟩:∃ hz,headZ s.hw s.hb b.hd.nW b.hd.nB r.1 r.2=hz:=⟨_,rfl⟩
 have CU:=hid (fun (wx:World)=>used_to b.hd wx)
 have CK:=hid (fun (wx:World)=>chk_to o.1 o.2.1 o.2.2 b.hd.WA b.hd.BA b.hd.nW b.hd.cW b.hd.nB b.hd.cB b.hd.D cl cz hcz wx)
 have CH:Hid (∀ wx,Below w.heap.size w wx→Calls Tryd.prog 38 #[.agg #[.slice b.hd.WA b.hd.nW b.hd.cW,.slice b.hd.BA b.hd.nB b.hd.cB,.int .i32 b.hd.D],.agg #[.int .i8 r.1,.int .i8 r.2]] wx (SaysI hz wx)):=hid (fun wx hb=>by have q:=chead_at h hr hb;rw [hhz] at q;exact q)
 obtain⟨ez,hez⟩:∃ ez,exZ b.hd b.ex s o r cl last=ez:=⟨_,rfl⟩
 rw [hez]
 have HE1:=hid (fun (q:b.ex=false) (t:(last || told b.hd)=true)=>(show ez=11 by rw [← hez,q];exact exz_no t))
 have HE2:=hid (fun (q:b.ex=false) (t:(last || told b.hd)=false)=>(show ez=0 by rw [← hez,q];exact exz_none t))
 have HE3:=hid (fun (q:b.ex=true) (t:cz≠0)=>(show ez=cz by rw [← hez,q];exact exz_chk hcz t))
 have HE4:=hid (fun (q:b.ex=true) (t:cz=0)=>(show ez=hz by rw [← hez,q, ← hhz];exact exz_head (hcz.trans t)))
 obtain⟨td,htd⟩:∃ td,told b.hd=td:=⟨_,rfl⟩
 rw [htd] at CU HE1 HE2
 have b3:Below (w.heap.size+2) ((w.alloc (.cells b.val.toArray 28)).alloc (.cells #[.int .i64 o.1,.int .i64 o.2.1,.int .i64 o.2.2] 30)) (((w.alloc (.cells b.val.toArray 28)).alloc (.cells #[.int .i64 o.1,.int .i64 o.2.1,.int .i64 o.2.2] 30)).alloc (.cells #[.int .i8 r.1,.int .i8 r.2] 75)):=(Below.refl _ _).alloc (by simp) _
 have b2:Below (w.heap.size+1) (w.alloc (.cells b.val.toArray 28)) (((w.alloc (.cells b.val.toArray 28)).alloc (.cells #[.int .i64 o.1,.int .i64 o.2.1,.int .i64 o.2.2] 30)).alloc (.cells #[.int .i8 r.1,.int .i8 r.2] 75)):=((Below.refl _ _).alloc (by simp) _).trans (b3.mono (by omega))
 have b1:Below w.heap.size w (((w.alloc (.cells b.val.toArray 28)).alloc (.cells #[.int .i64 o.1,.int .i64 o.2.1,.int .i64 o.2.2] 30)).alloc (.cells #[.int .i8 r.1,.int .i8 r.2] 75)):=((Below.refl _ _).alloc (le_refl _) _).trans (b2.mono (by omega))
 have HB0:=hid b1
 have HK:=hid ((BkAt.new b 28 w).below (lt_succ_self _) b2)
 have q2:=TriAt.new o 30 (w.alloc (.cells b.val.toArray 28))
 have q3:=rchNew r.1 r.2 75 ((w.alloc (.cells b.val.toArray 28)).alloc (.cells #[.int .i64 o.1,.int .i64 o.2.1,.int .i64 o.2.2] 30))
 simp only [World.size_alloc] at q2 q3
 have HO:=hid (q2.below (lt_succ_self _) b3)
 have HR:=hid q3
 have HSZ:Hid (w.heap.size+3≤(((w.alloc (.cells b.val.toArray 28)).alloc (.cells #[.int .i64 o.1,.int .i64 o.2.1,.int .i64 o.2.2] 30)).alloc (.cells #[.int .i8 r.1,.int .i8 r.2] 75)).heap.size):=hid (by simp)
 clear b1 b2 b3 q2 q3 h hcz hhz hez htd
 go_enter Tryd.func21,Tryd.ntmps21
 go_upto_region 1 with fail
 generalize ((w.alloc (.cells b.val.toArray 28)).alloc (.cells #[.int .i64 o.1,.int .i64 o.2.1,.int .i64 o.2.2] 30)).alloc (.cells #[.int .i8 r.1,.int .i8 r.2] 75)=W0 at HK HO HR HB0 HSZ ⊢
 obtain⟨k0,k1,k2,k3,k4⟩:=HK.out
 obtain⟨o0,o1,o2⟩:=HO.out
 obtain⟨r0,r1⟩:=HR.out
 cases hex:b.ex with
 | false =>
   rw [hex] at k1
   cases last with
   | true =>
     have HE:=hid (HE1.out hex rfl)
     clear HE1 HE2 HE3 HE4 hex CU CK CH
     go_wp2_with fail
     go_ret
     exact⟨by rw [HE.out];first | done | rfl,HB0.out⟩
   | false =>
     cases td with
     | true =>
       have HE:=hid (HE1.out hex rfl)
       clear HE1 HE2 HE3 HE4 hex CK CH
       go_wp2_with (go_at_call 36;(refine (CU.out _).mono ?_);rintro e w1 ⟨rfl,hb⟩;have HB1:=hid (HB0.out.trans (hb.mono HB0.out.size));clear hb)
       go_ret
       exact⟨by rw [HE.out];first | done | rfl,HB1.out⟩
     | false =>
       have HE:=hid (HE2.out hex rfl)
       clear HE1 HE2 HE3 HE4 hex CK CH
       go_wp2_with (go_at_call 36;(refine (CU.out _).mono ?_);rintro e w1 ⟨rfl,hb⟩;have HB1:=hid (HB0.out.trans (hb.mono HB0.out.size));clear hb)
       go_ret
       exact⟨by rw [HE.out];first | done | rfl,HB1.out⟩
 | true =>
   rw [hex] at k1
   by_cases hc:cz=0
   ·have HE:=hid (HE4.out hex hc)
    clear HE1 HE2 HE3 HE4 hex CU
    subst hc
    go_wp2_with (first
     | (go_at_call 37
        refine (CK.out _).mono ?_
        rintro e w1 ⟨rfl,hb⟩
        have HB1:=hid (HB0.out.trans (hb.mono HB0.out.size))
        have HK1:=hid (HK.out.below (B':=W0.heap.size) (by have:=HSZ.out;omega) hb)
        have HR1:=hid (HR.out.below (B':=W0.heap.size) (by have:=HSZ.out;omega) hb)
        clear hb k0 k1 k2 k3 k4 o0 o1 o2 r0 r1
        obtain⟨k0,k1,k2,k3,k4⟩:=HK1.out
        obtain⟨r0,r1⟩:=HR1.out)
     | (go_at_call 38
        refine (CH.out _ HB1.out).mono ?_
        rintro e w2 ⟨rfl,hb⟩
        have HB2:=hid (HB1.out.trans (hb.mono HB1.out.size))
        clear hb))
    go_ret
    exact⟨by rw [HE.out];first | done | rfl,HB2.out⟩
   ·have hz2:(cz != 0)=true:=by simpa using hc
    have HE:=hid (HE3.out hex hc)
    clear HE1 HE2 HE3 HE4 hex CU CH hc
    go_wp2_with (go_at_call 37;(refine (CK.out _).mono ?_);rintro e w1 ⟨rfl,hb⟩;have HB1:=hid (HB0.out.trans (hb.mono HB0.out.size));clear hb)
    go_ret
    exact⟨by rw [HE.out];first | done | rfl,HB1.out⟩
end CValid
end
end Go.Proofs.YtoffcaldhojjoaaDoor
