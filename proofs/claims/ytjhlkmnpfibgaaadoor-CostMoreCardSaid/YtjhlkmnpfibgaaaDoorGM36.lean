/- -/
import Derived.Test.YtjhlkmnpfibgaaaDoorGM35
open Go.Lib (hid)
open Nat (le_refl lt_of_succ_lt lt_succ_self)
set_option linter.unusedVariables false
set_option linter.unusedSimpArgs false
set_option maxRecDepth 100000
set_option maxHeartbeats 16000000
namespace Go.Proofs.YtjhlkmnpfibgaaaDoor
namespace CConv
end CConv
namespace CFix
end CFix
namespace CKind
end CKind
namespace CSat
end CSat
namespace CShape
end CShape
namespace CTensor
end CTensor
open Go Go.ChangeShapes Go.WideShapes Go.ChangeAt Go.RowKit Go.Deep
section
namespace CGraph
open Plain CSat CFix CShape CTensor CConv CKind
def outS (X:Nat→Nd) (t0:Tri) (n:Nat):Option (Int × Int) :=
 if zaa t0.1 t0.2.1 t0.2.2=false then some (-1,5) else if n=0 then some (-1,12) else if 8 < n then some (-1,4) else (zaq X t0 n).map fun r=>((r.1:Int),r.2)
def ShpPost (X:Nat→Nd) (t0:Tri) (n:Nat) (w:World) (e:Ending) (w':World):Prop :=
 ((∃ k z,outS X t0 n=some (k,z)∧e=.returned (.tuple #[.slice none 0 0,.int .i64 k,.int .i64 z])) ∨
   (outS X t0 n=none∧∃ v,e=.returned (.tuple #[v,.int .i64 (n:Int),.int .i64 0])∧w'.ownsRow w.heap.size 30 3 v (n+1) (tvV (shL X t0 n))))∧Below w.heap.size w w'
theorem sh_cells (t:Tri) (w:World):(w.alloc (.cells #[.int .i64 t.1,.int .i64 t.2.1,.int .i64 t.2.2] 30)).cell? ⟨w.heap.size,0,none⟩=some (.int .i64 t.1)∧(w.alloc (.cells #[.int .i64 t.1,.int .i64 t.2.1,.int .i64 t.2.2] 30)).cell? ⟨w.heap.size,1,none⟩=some (.int .i64 t.2.1)∧(w.alloc (.cells #[.int .i64 t.1,.int .i64 t.2.1,.int .i64 t.2.2] 30)).cell? ⟨w.heap.size,2,none⟩=some (.int .i64 t.2.2) :=
 ⟨by rw [Kit.zaf];rfl,by rw [Kit.zaf];rfl,by rw [Kit.zaf];rfl⟩
theorem cshapes_to (X:Nat→Nd) (t0:Tri) (n c:Nat) (hn:n≤50) (A:Option Addr) (w:World) (hT:zai w) (hX:∀ j,j < n→(X j).Small) (hA:NodesAt w w.heap.size A n X) :
  Calls Tryd.prog 18 #[.slice A n c,.agg #[.int .i64 t0.1,.int .i64 t0.2.1,.int .i64 t0.2.2]] w (ShpPost X t0 n w):=by
 obtain⟨q0,q1,q2⟩:=sh_cells t0 w
 have HB0:=hid ((Below.refl w.heap.size w).alloc (le_refl _) (.cells #[.int .i64 t0.1,.int .i64 t0.2.1,.int .i64 t0.2.2] 30))
 have hsz:w.heap.size < (w.alloc (.cells #[.int .i64 t0.1,.int .i64 t0.2.1,.int .i64 t0.2.2] 30)).heap.size:=by simp
 have HSZ:=hid hsz
 have HT:=hid hT
 have HA:=hid hA
 have HX:=hid hX
 obtain⟨sb,hsb⟩:∃ sb,zaa t0.1 t0.2.1 t0.2.2=sb:=⟨_,rfl⟩
 have HSB:=hid hsb
 have hout:outS X t0 n=if sb=false then some (-1,5) else if n=0 then some (-1,12) else if 8 < n then some (-1,4) else (zaq X t0 n).map fun r=>((r.1:Int),r.2):=by unfold outS;rw [hsb]
 have HOUT:=hid hout
 have CR:=hid (fun w:World=>zaj t0.1 t0.2.1 t0.2.2 sb hsb w)
 clear hT hX hA hsb hout hsz
 go_enter Tryd.func18,Tryd.ntmps18
 go_upto_region 1 with fail
 generalize w.alloc (.cells #[.int .i64 t0.1,.int .i64 t0.2.1,.int .i64 t0.2.2] 30)=W0 at q0 q1 q2 HB0 HSZ ⊢
 cases sb with
 | false =>
   go_wp2_with (go_at_call 28;(refine (CR.out _).mono ?_);rintro e w1 ⟨rfl,hb⟩;(have HB1:=hid (HB0.out.trans (hb.mono HB0.out.size)));clear hb)
   go_ret3
   exact⟨.inl ⟨-1,5,by rw [HOUT.out];rfl,rfl⟩,HB1.out⟩
 | true =>
   by_cases h0:n=0
   ·subst h0
    go_wp2_with (go_at_call 28;(refine (CR.out _).mono ?_);rintro e w1 ⟨rfl,hb⟩;(have HB1:=hid (HB0.out.trans (hb.mono HB0.out.size)));clear hb)
    go_ret3
    exact⟨.inl ⟨-1,12,by rw [HOUT.out];rfl,rfl⟩,HB1.out⟩
   ·have h1:((n:Int) == 0)=false:=by simp;omega
    have h1b:¬ (n:Int)=0:=by omega
    by_cases h2:8 < n
    ·have h3:(n:Int) > 8:=by omega
     have ho:outS X t0 n=some (-1,4):=by rw [HOUT.out];simp [h0,h2]
     have HO:=hid ho
     clear h0 h2 ho HOUT
     go_wp2_with (go_at_call 28;(refine (CR.out _).mono ?_);rintro e w1 ⟨rfl,hb⟩;(have HB1:=hid (HB0.out.trans (hb.mono HB0.out.size)));clear hb)
     go_ret3
     exact⟨.inl ⟨-1,4,HO.out,rfl⟩,HB1.out⟩
    ·have h3:¬ (n:Int) > 8:=by omega
     have ho:outS X t0 n=(zaq X t0 n).map fun r=>((r.1:Int),r.2):=by rw [HOUT.out];simp [h0,h2]
     have HO:=hid ho
     clear h0 h2 ho HOUT
     go_wp2_with (first
      | (go_at_call 28
         refine (CR.out _).mono ?_
         rintro e w1 ⟨rfl,hb⟩
         have HB1:=hid (HB0.out.trans (hb.mono HB0.out.size))
         have g0:=(hb.cell (p:=⟨w.heap.size,0,none⟩) HSZ.out).trans q0
         have g1:=(hb.cell (p:=⟨w.heap.size,1,none⟩) HSZ.out).trans q1
         have g2:=(hb.cell (p:=⟨w.heap.size,2,none⟩) HSZ.out).trans q2
         clear hb q0 q1 q2)
      | (go_at_call 29
         refine (through_to X t0 n c hn A _ (HT.out.below HB1.out HT.out.size) HX.out ((HA.out.below HB1.out).more HB1.out.size)).mono ?_
         rintro e w2 ⟨hres,hb⟩
         have HB2:=hid (HB1.out.trans (hb.mono HB1.out.size))
         have HRES:=hid hres
         clear hb hres
         rcases HRES.out with ⟨k,z,hs,rfl⟩ | ⟨hs,v,rfl,hown⟩))
     ·go_ret3
      exact⟨.inl ⟨k,z,by rw [HO.out,hs];rfl,rfl⟩,HB2.out⟩
     ·go_ret3
      exact⟨.inr ⟨by rw [HO.out,hs];rfl,v,rfl,Kit.own_base hown HB1.out.size⟩,HB2.out⟩
end CGraph
end
end Go.Proofs.YtjhlkmnpfibgaaaDoor
