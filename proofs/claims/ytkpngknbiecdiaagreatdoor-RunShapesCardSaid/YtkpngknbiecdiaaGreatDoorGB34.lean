/- Texts of this seat, one behind the other: KindCheck, KindSame, PoolWin, PoolOf, JoinCode, ActSums, PadAll, PadBoth. -/
import Derived.Deep.CutRange
import Derived.Laws.StructEq
import Derived.BigQuiet
import Derived.Laws.AppendOwn
import Derived.Laws.MakeOwn
import Derived.Test.YtkpngknbiecdiaaGreatDoorGB5
import Derived.Test.YtkpngknbiecdiaaGreatDoorGB11
import Derived.Test.YtkpngknbiecdiaaGreatDoorGB14
import Derived.Test.YtkpngknbiecdiaaGreatDoorGB17
import Derived.Test.YtkpngknbiecdiaaGreatDoorGB22
import Derived.Test.YtkpngknbiecdiaaGreatDoorGB29
import Derived.Test.YtkpngknbiecdiaaGreatDoorGB31
import Derived.Test.YtkpngknbiecdiaaGreatDoorGB32
import Derived.Test.YtkpngknbiecdiaaGreatDoorGB33
section
namespace Go.Proofs.YtkpngknbiecdiaaGreatDoor.CKind
open Go Go.ChangeShapes Go.WideShapes Go.ChangeAt Go.RowKit Go.Deep
open Plain CSat CFix CShape CTensor CConv
set_option linter.unusedVariables false
set_option linter.unusedSimpArgs false
def Nd.checkZ (x:Nd):Int :=
 if x.kd < 1∨9 < x.kd then 6 else if x.moreB=true then 2 else if ((scaledB x.kd && !rightB x.m1 x.s1) || (x.kd == 6 && !rightB x.m2 x.s2))=true then 7 else if (scaledB x.kd && decide (x.hi < x.lo))=true then 2 else 0
end Go.Proofs.YtkpngknbiecdiaaGreatDoor.CKind
end
section
namespace Go.Proofs.YtkpngknbiecdiaaGreatDoor.CKind
open Go Go.ChangeShapes Go.WideShapes Go.ChangeAt Go.RowKit Go.Deep
open Plain CSat CShape CTensor CConv
set_option linter.unusedVariables false
set_option linter.unusedSimpArgs false
theorem eqQuantK (a b c x y z:Int) (w:World):(Op.equalIn 10000 26 (.agg #[.int .i32 a,.int .i64 b,.int .i8 c]) (.agg #[.int .i32 x,.int .i64 y,.int .i8 z])).run Tryz.prog w=.ok (a == x && (b == y && c == z)) w:=by
 have u1:=Tryz.underlying21
 have a1:=Tryz.isAgg21
 have z1:=Tryz.sizeOf21
 have u2:=Tryz.underlying22
 have a2:=Tryz.isAgg22
 have z2:=Tryz.sizeOf22
 have u3:=Tryz.underlying3
 have a3:=Tryz.isAgg3
 have z3:=Tryz.sizeOf3
 have hS:Tryz.prog.underlying 26=some (.struct (Tryz.prog.fieldsOf 26)):=by kernel_rfl
 rw [show (10000:Nat)=9999+1 from rfl,run_equalIn_agg w 9999 26 _ _ hS Tryz.stoodInHeld26]
 simp only [Program.fieldsOf,Tryz.underlying26]
 go_simp
 by_cases h1:a=x <;> by_cases h2:b=y <;> by_cases h3:c=z <;> simp [h1,h2,h3]
end Go.Proofs.YtkpngknbiecdiaaGreatDoor.CKind
end
section
namespace Go.Proofs.YtkpngknbiecdiaaGreatDoor.CPool
open Go Go.ChangeShapes Go.WideShapes Go.ChangeAt Go.RowKit
open Plain CSat CShape CTensor CConv
set_option linter.unusedVariables false
def hereL (zs:List Int) (H W C top left:Int) (o i j:Nat):List Int :=
 if 0≤top+(i:Int)∧top+(i:Int) < H∧0≤left+(j:Int)∧left+(j:Int) < W then [zs.getD (((top+(i:Int)) * W+(left+(j:Int))) * C+(o:Int)).toNat 0] else []
def colL (zs:List Int) (H W C top left:Int) (o i:Nat):Nat→List Int
 | 0=>[]
 | j+1=>colL zs H W C top left o i j ++ hereL zs H W C top left o i j
def rowsL (zs:List Int) (H W C top left:Int) (kk o:Nat):Nat→List Int
 | 0=>[]
 | i+1=>rowsL zs H W C top left kk o i ++ colL zs H W C top left o i kk
def windowL (zs:List Int) (H W C top left:Int) (kk o:Nat):List Int:=rowsL zs H W C top left kk o kk
theorem info_i8p:(Tryz.prog.info? 22).map (fun i=>(i.zero,i.size,i.bytes))=some (some (.int .i8 0),1,1):=by kernel_rfl
end Go.Proofs.YtkpngknbiecdiaaGreatDoor.CPool
end
section
namespace Go.Proofs.YtkpngknbiecdiaaGreatDoor.CPool
open Go Go.ChangeShapes Go.WideShapes Go.ChangeAt Go.RowKit
open Plain CSat CShape CTensor CConv
set_option linter.unusedVariables false
def MadeP (w:World) (H W C:Int) (n:Nat) (zs:List Int) (x:Value) (e:Ending) (w':World):Prop :=
 ∃ v,e=.returned (.tuple #[.agg #[.int .i64 H,.int .i64 W,.int .i64 C,v],x])∧w'.ownsRow w.heap.size 22 1 v n (I8s zs)∧Below w.heap.size w w'
end Go.Proofs.YtkpngknbiecdiaaGreatDoor.CPool
end
section
namespace Go.Proofs.YtkpngknbiecdiaaGreatDoor.CJoin
open Go Go.ChangeShapes Go.WideShapes Go.ChangeAt Go.RowKit Go.Deep
open Plain CSat CFix CShape CTensor CConv
set_option linter.unusedVariables false
set_option maxRecDepth 100000 in
set_option maxHeartbeats 4000000 in
theorem one_to (x y:Int) (hx1 : -128≤x) (hx2:x≤127) (hy1 : -128≤y) (hy2:y≤127) (x0 x1 x2:Value) (K S P O Z Y:Int) (WA BA:Option Addr) (nW cW nB cB:Nat) (m1 s1 z1 m2 s2 z2 lo hi:Int) (hnb:NBd Z Y m1 z1 m2 z2 lo hi) (R:Int) (hR:oneZ x y Z Y m1 s1 z1 m2 s2 lo hi=R) (w:World) :
  Calls Tryz.prog 59 #[.int .i8 x,.int .i8 y,.agg #[x0,x1,x2,.int .i64 K,.int .i64 S,.int .i64 P,.int .i64 O,.int .i8 Z,.int .i8 Y,.slice WA nW cW,.slice BA nB cB,.int .i32 m1,.int .i64 s1,.int .i8 z1,.int .i32 m2,.int .i64 s2,.int .i8 z2,.int .i8 lo,.int .i8 hi]] w fun e w'=>e=.returned (.int .i8 R)∧Below w.heap.size w w':=by
 obtain⟨⟨hZ1,hZ2⟩,⟨hY1,hY2⟩,⟨hm3,hm1⟩,⟨hz1,hz2⟩,⟨hm4,hm2⟩,⟨hz3,hz4⟩,⟨hl1,hl2⟩,⟨hh1,hh2⟩⟩:=hnb
 cases hh:(rightB m1 s1 && rightB m2 s2)
 ·unfold oneZ at hR
  rw [hh,if_neg (by decide)] at hR
  subst hR
  have HH:=Lib.hid hh
  clear hh
  go_enter Tryz.func59,Tryz.ntmps59
  go_wp2_with (first
  | (go_at_call 57
     have hal:Below w.heap.size w (w.alloc (.cells #[x0,x1,x2,.int .i64 K,.int .i64 S,.int .i64 P,.int .i64 O,.int .i8 Z,.int .i8 Y,.slice WA nW cW,.slice BA nB cB,.int .i32 m1,.int .i64 s1,.int .i8 z1,.int .i32 m2,.int .i64 s2,.int .i8 z2,.int .i8 lo,.int .i8 hi] 28)):=(Below.refl _ _).alloc (by first | exact Nat.le_refl _ | (simp;done) | (simp;omega)) _
     refine (scales_to x0 x1 x2 K S P O Z Y WA BA nW cW nB cB m1 s1 z1 m2 s2 z2 lo hi _).mono ?_
     rintro e w1 ⟨rfl,hb⟩
     have hh:Below w.heap.size w w1:=hal.trans (hb.mono hal.size)
     have qTN:=(NodeAt.new x0 x1 x2 (.int .i8 Y) (.int .i32 m1) (.int .i64 s1) (.int .i8 z1) (.int .i32 m2) (.int .i64 s2) (.int .i8 z2) (.int .i8 lo) (.int .i8 hi) K S P O Z WA BA nW cW nB cB 28) w
     try simp only [World.size_alloc] at qTN
     have TN:=Lib.hid (qTN.below (by first | (simp;done) | (simp;omega)) hb)
     have yTN:w.heap.size < w1.heap.size:=by have:=hb.size;simp at this;omega
     clear qTN
     have HBW:Hid (Below w.heap.size w w1):=Lib.hid hh
     rw [HH.out]
     clear hb hh hal)
  | (refine wpList_load_mid rfl 28 (.tmp 5) rfl (w.heap.size) 0 rfl [x0,x1,x2,.int .i64 K,.int .i64 S,.int .i64 P,.int .i64 O,.int .i8 Z,.int .i8 Y,.slice WA nW cW,.slice BA nB cB,.int .i32 m1,.int .i64 s1,.int .i8 z1,.int .i32 m2,.int .i64 s2,.int .i8 z2,.int .i8 lo,.int .i8 hi] _ (NodeAt.new x0 x1 x2 (.int .i8 Y) (.int .i32 m1) (.int .i64 s1) (.int .i8 z1) (.int .i32 m2) (.int .i64 s2) (.int .i8 z2) (.int .i8 lo) (.int .i8 hi) K S P O Z WA BA nW cW nB cB 28 w) Tryz.underlying28 rfl (by kernel_rfl) ?_))
  go_ret
  exact⟨rfl,HBW.out⟩
 ·obtain⟨hr1,hr2⟩:rightB m1 s1=true∧rightB m2 s2=true:=by simpa using hh
  obtain⟨b1,b2⟩:=round_term hx1 hx2 hZ1 hZ2 hm1 hr1
  obtain⟨b3,b4⟩:=round_term hy1 hy2 hY1 hY2 hm2 hr2
  unfold oneZ at hR
  rw [hh,if_pos rfl] at hR
  obtain⟨t1,ht1⟩:∃ t1,roundZ ((x - Z) * m1) s1.toNat=t1:=⟨_,rfl⟩
  obtain⟨t2,ht2⟩:∃ t2,roundZ ((y - Y) * m2) s2.toNat=t2:=⟨_,rfl⟩
  rw [ht1] at b1 b2 hR
  rw [ht2] at b3 b4 hR
  have w1:IntKind.i64.wrap (t1+t2)=t1+t2:=IntWalk.i64_in _ (by omega)
  have w2:IntKind.i64.wrap (t1+t2+z1)=t1+t2+z1:=IntWalk.i64_in _ (by omega)
  have w3:IntKind.i64.wrap z1=z1:=IntWalk.i64_in _ (by omega)
  have HH:=Lib.hid hh
  have HR1:=Lib.hid hr1
  have HR2:=Lib.hid hr2
  have HT1:=Lib.hid ht1
  have HT2:=Lib.hid ht2
  have HC:=Lib.hid hR
  clear hh hr1 hr2 ht1 ht2 hR
  go_enter Tryz.func59,Tryz.ntmps59
  go_wp2_with (first
  | (go_at_call 57
     have hal:Below w.heap.size w (w.alloc (.cells #[x0,x1,x2,.int .i64 K,.int .i64 S,.int .i64 P,.int .i64 O,.int .i8 Z,.int .i8 Y,.slice WA nW cW,.slice BA nB cB,.int .i32 m1,.int .i64 s1,.int .i8 z1,.int .i32 m2,.int .i64 s2,.int .i8 z2,.int .i8 lo,.int .i8 hi] 28)):=(Below.refl _ _).alloc (by first | exact Nat.le_refl _ | (simp;done) | (simp;omega)) _
     refine (scales_to x0 x1 x2 K S P O Z Y WA BA nW cW nB cB m1 s1 z1 m2 s2 z2 lo hi _).mono ?_
     rintro e w1 ⟨rfl,hb⟩
     have hh:Below w.heap.size w w1:=hal.trans (hb.mono hal.size)
     have qTN:=(NodeAt.new x0 x1 x2 (.int .i8 Y) (.int .i32 m1) (.int .i64 s1) (.int .i8 z1) (.int .i32 m2) (.int .i64 s2) (.int .i8 z2) (.int .i8 lo) (.int .i8 hi) K S P O Z WA BA nW cW nB cB 28) w
     try simp only [World.size_alloc] at qTN
     have TN:=Lib.hid (qTN.below (by first | (simp;done) | (simp;omega)) hb)
     have yTN:w.heap.size < w1.heap.size:=by have:=hb.size;simp at this;omega
     clear qTN
     have HBW:Hid (Below w.heap.size w w1):=Lib.hid hh
     rw [HH.out]
     clear hb hh hal)
  | (refine wpList_load_mid rfl 28 (.tmp 5) rfl (w.heap.size) 0 rfl [x0,x1,x2,.int .i64 K,.int .i64 S,.int .i64 P,.int .i64 O,.int .i8 Z,.int .i8 Y,.slice WA nW cW,.slice BA nB cB,.int .i32 m1,.int .i64 s1,.int .i8 z1,.int .i32 m2,.int .i64 s2,.int .i8 z2,.int .i8 lo,.int .i8 hi] _ (NodeAt.new x0 x1 x2 (.int .i8 Y) (.int .i32 m1) (.int .i64 s1) (.int .i8 z1) (.int .i32 m2) (.int .i64 s2) (.int .i8 z2) (.int .i8 lo) (.int .i8 hi) K S P O Z WA BA nW cW nB cB 28 w) Tryz.underlying28 rfl (by kernel_rfl) ?_))
  refine wp_region_held_drew (S:=fun w'=>NodeAt w.heap.size x0 x1 x2 (.int .i8 Y) (.int .i32 m1) (.int .i64 s1) (.int .i8 z1) (.int .i32 m2) (.int .i64 s2) (.int .i8 z2) (.int .i8 lo) (.int .i8 hi) K S P O Z WA BA nW cW nB cB w') (by kernel_rfl) TN.out (fun hHeld=>?_)
  replace HBW:Hid (Below w.heap.size w w1.drew):=Lib.hid HBW.out.drew
  clear TN
  replace yTN:w.heap.size < w1.drew.heap.size:=yTN
  generalize w1.drew=W1 at HBW yTN hHeld ⊢
  refine Tk.x 0 rfl ?_
  try simp only [Tk.put]
  refine Tk.x 1 rfl ?_
  try simp only [Tk.put]
  refine Tk.y 2 (v:=?_) rfl ?_ ?_
  rotate_left
  ·intro wS hSw
   have q7:=hSw.at 7 _ rfl
   clear hSw
   first | (go_simp;done) | (go_simp;with_reducible rfl)
  try simp only [Tk.put]
  refine Tk.x 3 rfl ?_
  try simp only [Tk.put]
  refine Tk.y 4 (v:=?_) rfl ?_ ?_
  rotate_left
  ·intro wS hSw
   have q11:=hSw.at 11 _ rfl;have q12:=hSw.at 12 _ rfl;have q13:=hSw.at 13 _ rfl
   clear hSw
   first | (go_simp;done) | (go_simp;with_reducible rfl)
  try simp only [Tk.put]
  refine Tk.x 6 rfl ?_
  try simp only [Tk.put]
  refine Tk.x 7 rfl ?_
  try simp only [Tk.put]
  refine Tk.y 8 (v:=?_) rfl ?_ ?_
  rotate_left
  ·intro wS hSw
   have q8:=hSw.at 8 _ rfl
   clear hSw
   first | (go_simp;done) | (go_simp;with_reducible rfl)
  try simp only [Tk.put]
  refine Tk.x 9 rfl ?_
  try simp only [Tk.put]
  refine Tk.y 10 (v:=?_) rfl ?_ ?_
  rotate_left
  ·intro wS hSw
   have q14:=hSw.at 14 _ rfl;have q15:=hSw.at 15 _ rfl;have q16:=hSw.at 16 _ rfl
   clear hSw
   first | (go_simp;done) | (go_simp;with_reducible rfl)
  try simp only [Tk.put]
  refine Tk.x 13 rfl ?_
  try simp only [Tk.put]
  refine Tk.x 14 rfl ?_
  try simp only [Tk.put]
  refine Tk.y 15 (v:=?_) rfl ?_ ?_
  rotate_left
  ·intro wS hSw
   have q13:=hSw.at 13 _ rfl
   clear hSw
   first | (go_simp;done) | (go_simp;with_reducible rfl)
  try simp only [Tk.put]
  refine Tk.x 16 rfl ?_
  try simp only [Tk.put]
  refine Tk.x 18 rfl ?_
  try simp only [Tk.put]
  refine Tk.y 19 (v:=?_) rfl ?_ ?_
  rotate_left
  ·intro wS hSw
   have q17:=hSw.at 17 _ rfl
   clear hSw
   first | (go_simp;done) | (go_simp;with_reducible rfl)
  try simp only [Tk.put]
  refine Tk.x 20 rfl ?_
  try simp only [Tk.put]
  refine Tk.y 21 (v:=?_) rfl ?_ ?_
  rotate_left
  ·intro wS hSw
   have q18:=hSw.at 18 _ rfl
   clear hSw
   first | (go_simp;done) | (go_simp;with_reducible rfl)
  try simp only [Tk.put]
  refine Tk.s 5 rfl (fun Kq hK=>?_)
  go_simp
  go_at_call 106
  refine (scaled_to x Z m1 s1 z1 t1 hx1 hx2 hZ1 hZ2 hm1 HR1.out HT1.out _).mono ?_
  rintro e W2 ⟨rfl,hb1⟩
  have hS1:NodeAt w.heap.size x0 x1 x2 (.int .i8 Y) (.int .i32 m1) (.int .i64 s1) (.int .i8 z1) (.int .i32 m2) (.int .i64 s2) (.int .i8 z2) (.int .i8 lo) (.int .i8 hi) K S P O Z WA BA nW cW nB cB W2:=hHeld.below yTN hb1
  replace HBW:=Lib.hid (HBW.out.trans (hb1.mono HBW.out.size))
  replace yTN:=Nat.lt_of_lt_of_le yTN hb1.size
  clear hHeld hb1
  dsimp only
  refine hK.out _ _ ?_ (fun hHeld=>?_)
  ·exact hS1
  clear hK Kq
  try simp only [Tk.put]
  refine Tk.s 11 rfl (fun Kq hK=>?_)
  go_simp
  go_at_call 106
  refine (scaled_to y Y m2 s2 z2 t2 hy1 hy2 hY1 hY2 hm2 HR2.out HT2.out _).mono ?_
  rintro e W3 ⟨rfl,hb1⟩
  have hS1:NodeAt w.heap.size x0 x1 x2 (.int .i8 Y) (.int .i32 m1) (.int .i64 s1) (.int .i8 z1) (.int .i32 m2) (.int .i64 s2) (.int .i8 z2) (.int .i8 lo) (.int .i8 hi) K S P O Z WA BA nW cW nB cB W3:=hHeld.below yTN hb1
  replace HBW:=Lib.hid (HBW.out.trans (hb1.mono HBW.out.size))
  replace yTN:=Nat.lt_of_lt_of_le yTN hb1.size
  clear hHeld hb1
  dsimp only
  refine hK.out _ _ ?_ (fun hHeld=>?_)
  ·exact hS1
  clear hK Kq
  try simp only [Tk.put]
  refine Tk.x 12 rfl ?_
  try simp only [Tk.put]
  refine Tk.x 17 rfl ?_
  try simp only [Tk.put]
  refine Tk.s 22 rfl (fun Kq hK=>?_)
  go_simp
  go_at_call 105
  refine (jclamp_to _ lo hi R HC.out hl1 hl2 hh1 hh2 _).mono ?_
  rintro e W4 ⟨rfl,rfl⟩
  dsimp only
  refine hK.out _ _ ?_ (fun hHeld=>?_)
  ·exact hHeld
  clear hK Kq
  try simp only [Tk.put]
  refine Tk.x 23 rfl ?_
  try simp only [Tk.put]
  refine wpAnyH_done (by kernel_rfl) ?_ _
  go_wp2_with fail
  go_ret
  exact⟨rfl,HBW.out⟩
end Go.Proofs.YtkpngknbiecdiaaGreatDoor.CJoin
end
section
namespace Go.Proofs.YtkpngknbiecdiaaGreatDoor.CAct
open Go Go.ChangeShapes Go.WideShapes Go.ChangeAt Go.RowKit Go.Deep
open Plain CSat CFix CShape CTensor CConv
set_option linter.unusedVariables false
theorem tensB_shape {H W C:Int} {n:Nat} (h:shapeB H W C=false):tensB H W C n=false:=by simp [tensB,h]
set_option maxRecDepth 100000 in
set_option maxHeartbeats 4000000 in
theorem rsums_to (H W C:Int) (A:Option Addr) (n c:Nat) (b:Bool) (hb0:tensB H W C n=b) (w:World) :
  Calls Tryz.prog 112 #[.agg #[.int .i64 H,.int .i64 W,.int .i64 C,.slice A n c]] w fun e w'=>e=.returned (.bool b)∧Below w.heap.size w w':=by
 cases hs:shapeB H W C
 ·obtain rfl:false=b:=(tensB_shape hs).symm.trans hb0
  have HS:=Lib.hid hs
  clear hs hb0
  go_enter Tryz.func112,Tryz.ntmps112
  go_wp2_with (first
  | (go_at_call 108
     have hal:Below w.heap.size w (w.alloc (.cells #[.int .i64 H,.int .i64 W,.int .i64 C,.slice A n c] 41)):=(Below.refl _ _).alloc (by first | exact Nat.le_refl _ | (simp;done) | (simp;omega)) _
     refine (fill_no H W C 0 HS.out _).mono ?_
     rintro e w1 ⟨rfl,hb⟩
     have hh:Below w.heap.size w w1:=hal.trans (hb.mono hal.size)
     have qTA:=(boxNew H W C A n c 41) w
     try simp only [World.size_alloc] at qTA
     have TA:=Lib.hid (qTA.below (by first | (simp;done) | (simp;omega)) hb)
     have yTA:w.heap.size < w1.heap.size:=by have:=hb.size;simp at this;omega
     clear qTA
     have HBW:Hid (Below w.heap.size w w1):=Lib.hid hh
     obtain⟨tap0,tap1,tap2,tap3⟩:=TA.out
     clear hb hh hal))
  go_ret
  exact⟨rfl,HBW.out.alloc HBW.out.size _⟩
 ·obtain⟨a1,a2,a3,a4,a5,a6,a7⟩:=shapeB_yes hs
  obtain⟨p1,p2⟩:=prod_bd a1 a2 a3 a4 a5 a6
  obtain⟨m,hm⟩:∃ m:Nat,H * W * C=m:=⟨(H * W * C).toNat,by omega⟩
  have hbn:decide (n=m)=b:=by
   rw [← hb0]
   unfold tensB
   rw [hs,hm]
   by_cases e:n=m <;> simp [e] <;> omega
  have HS:=Lib.hid hs
  have HM:=Lib.hid hm
  clear hs hb0 hm p1 p2 a1 a2 a3 a4 a5 a6 a7
  by_cases e:n=m
  ·obtain rfl:true=b:=by rw [← hbn];simp [e]
   have e1:((n:Int) == (m:Int))=true:=by simp [e]
   clear e hbn
   go_enter Tryz.func112,Tryz.ntmps112
   go_wp2_with (first
  | (go_at_call 108
     have hal:Below w.heap.size w (w.alloc (.cells #[.int .i64 H,.int .i64 W,.int .i64 C,.slice A n c] 41)):=(Below.refl _ _).alloc (by first | exact Nat.le_refl _ | (simp;done) | (simp;omega)) _
     refine (fill_yes H W C 0 m HS.out HM.out _).mono ?_
     rintro e w1 ⟨v1,rfl,ho1,hb⟩
     have hh:Below w.heap.size w w1:=hal.trans (hb.mono hal.size)
     have qTA:=(boxNew H W C A n c 41) w
     try simp only [World.size_alloc] at qTA
     have TA:=Lib.hid (qTA.below (by first | (simp;done) | (simp;omega)) hb)
     have yTA:w.heap.size < w1.heap.size:=by have:=hb.size;simp at this;omega
     clear qTA
     have HBW:Hid (Below w.heap.size w w1):=Lib.hid hh
     obtain⟨A1,c1,rfl, -, -, -⟩:=Kit.own_rd ho1
     clear ho1
     obtain⟨tap0,tap1,tap2,tap3⟩:=TA.out
     clear hb hh hal))
   go_ret
   exact⟨rfl,HBW.out.alloc HBW.out.size _⟩
  ·obtain rfl:false=b:=by rw [← hbn];simp [e]
   have e1:((n:Int) == (m:Int))=false:=by simp;omega
   have e2:¬ (n:Int)=(m:Int):=by omega
   clear e hbn
   go_enter Tryz.func112,Tryz.ntmps112
   go_wp2_with (first
  | (go_at_call 108
     have hal:Below w.heap.size w (w.alloc (.cells #[.int .i64 H,.int .i64 W,.int .i64 C,.slice A n c] 41)):=(Below.refl _ _).alloc (by first | exact Nat.le_refl _ | (simp;done) | (simp;omega)) _
     refine (fill_yes H W C 0 m HS.out HM.out _).mono ?_
     rintro e w1 ⟨v1,rfl,ho1,hb⟩
     have hh:Below w.heap.size w w1:=hal.trans (hb.mono hal.size)
     have qTA:=(boxNew H W C A n c 41) w
     try simp only [World.size_alloc] at qTA
     have TA:=Lib.hid (qTA.below (by first | (simp;done) | (simp;omega)) hb)
     have yTA:w.heap.size < w1.heap.size:=by have:=hb.size;simp at this;omega
     clear qTA
     have HBW:Hid (Below w.heap.size w w1):=Lib.hid hh
     obtain⟨A1,c1,rfl, -, -, -⟩:=Kit.own_rd ho1
     clear ho1
     obtain⟨tap0,tap1,tap2,tap3⟩:=TA.out
     clear hb hh hal))
   go_ret
   exact⟨rfl,HBW.out.alloc HBW.out.size _⟩
end Go.Proofs.YtkpngknbiecdiaaGreatDoor.CAct
end
section
namespace Go.Proofs.YtkpngknbiecdiaaGreatDoor.CPad
open Go Go.ChangeShapes Go.WideShapes Go.ChangeAt Go.RowKit
open Plain CSat CShape CTensor
set_option linter.unusedVariables false
def mayZ (H W C:Int) (n:Nat) (p:Int):Int:=if tensB H W C n=true then (if p < 0∨4 < p then 2 else 0) else 5
theorem tens_bd2 {H W C:Int} {n:Nat} (ht:tensB H W C n=true):1≤H∧H≤16∧1≤W∧W≤16:=by
 simp only [tensB,Bool.and_eq_true] at ht
 obtain⟨a1,a2,a3,a4, -⟩:=shapeB_yes ht.1
 exact⟨a1,a2,a3,a4⟩
theorem around_err (H W C:Int) (A:Option Addr) (n c:Nat) (p z:Int) (er:Int) (he:mayZ H W C n p=er) (h0:er≠0) (w:World) :
  Calls Tryz.prog 22 #[.agg #[.int .i64 H,.int .i64 W,.int .i64 C,.slice A n c],.int .i64 p,.int .i8 z] w (Made w 0 0 0 0 [] (.int .i64 er)):=by
 have HE:=Lib.hid (show (if tensB H W C n=true then (if p < 0∨4 < p then 2 else 0) else 5)=er from he)
 have h0b:(er != 0)=true:=by simpa using h0
 have h0c:(er == 0)=false:=by simpa using h0
 clear he
 go_enter Tryz.func22,Tryz.ntmps22
 go_wp2_with (go_at_call 63;(refine (check_to H W C A n c p er HE.out _).mono ?_);(rintro e w1 ⟨rfl,hb⟩;obtain⟨hcc,hff⟩:=Kit.bcell hb;have hz:w.heap.size+2≤w1.heap.size:=(by have:=hb.size;simp at this;omega);have hz1:w.heap.size+1 < w1.heap.size:=(by omega);have hz0:w.heap.size < w1.heap.size:=(by omega);have HB0:=Lib.hid hb;clear hb))
 refine bodyPost_ret (Kit.results_ct rfl _ _ (w.heap.size+1) 0 [.int .i64 0,.int .i64 0,.int .i64 0,.slice none 0 0] _ rfl (range_4 (by go_cell) (by go_cell) (by go_cell) (by go_cell)) Tryz.underlying32 rfl (by kernel_rfl)) rfl ?_
 have hB1:Below w.heap.size w w1:=Below.trans (((Below.refl _ _).alloc (Nat.le_refl _) _).alloc (by simp) _) (HB0.out.mono (by first | omega | (simp;done) | (simp;omega)))
 exact⟨_,rfl,World.ownsRow_nil _ _ _ _,((((hB1.setCell (p:=⟨w.heap.size+1,0,none⟩) (by simp) _).setCell (p:=⟨w.heap.size+1,1,none⟩) (by simp) _).setCell (p:=⟨w.heap.size+1,2,none⟩) (by simp) _).setCell (p:=⟨w.heap.size+1,3,none⟩) (by simp) _)⟩
set_option maxHeartbeats 2000000 in
theorem around_yes (H W C:Int) (A:Option Addr) (zs:List Int) (n c:Nat) (p z:Int) (hn:zs.length=n) (hc:n≤c) (ht:tensB H W C n=true) (p0:0≤p) (p4:p≤4) (hs:shapeB (H+2 * p) (W+2 * p) C=true) (a b d:Nat) (hU:(H+2 * p)=(a:Int)) (hV:(W+2 * p)=(b:Int)) (hC:C=(d:Int)) (m:Nat) (hm:a * b * d=m) (F:Nat→Int) (hF:∀ i j k:Nat,i < a→j < b→k < d→pixZ zs H W C (IntKind.i64.wrap ((i:Int) - p)) (IntKind.i64.wrap ((j:Int) - p)) (k:Int) z=F ((i * b+j) * d+k)) {Bz:Nat} (w:World) (hBz:Bz≤w.heap.size) (hr:Kit.Rd w Bz A (I8s zs)) :
  Calls Tryz.prog 22 #[.agg #[.int .i64 H,.int .i64 W,.int .i64 C,.slice A n c],.int .i64 p,.int .i8 z] w (Made w (H+2 * p) (W+2 * p) C m (rowL F m) (.int .i64 0)):=by
 obtain⟨g1,g2,g3,g4⟩:=tens_bd2 ht
 have HE:=Lib.hid (show (if tensB H W C n=true then (if p < 0∨4 < p then 2 else 0) else 5)=(0:Int) by rw [if_pos ht,if_neg (by omega)])
 have HS:=Lib.hid hs
 have HT:=Lib.hid ht
 have HN:=Lib.hid hn
 have HU:=Lib.hid hU
 have HV:=Lib.hid hV
 have HCd:=Lib.hid hC
 have HMm:=Lib.hid hm
 have HF:=Lib.hid hF
 have HR:=Lib.hid hr
 have hcc0:n≤c:=hc
 clear hn hU hV hC hm hF hr
 clear hs ht
 go_enter Tryz.func22,Tryz.ntmps22
 go_wp2_with (go_at_call 63;(refine (check_to H W C A n c p 0 HE.out _).mono ?_);(rintro e w1 ⟨rfl,hb⟩;obtain⟨hcc,hff⟩:=Kit.bcell hb;have hz:w.heap.size+2≤w1.heap.size:=(by have:=hb.size;simp at this;omega);have hz1:w.heap.size+1 < w1.heap.size:=(by omega);have hz0:w.heap.size < w1.heap.size:=(by omega);have HB0:=Lib.hid hb;clear hb))
 have hbx:BoxAt w.heap.size H W C A n c w1.drew:=((BoxAt.newq H W C A n c 32 w).below (Nat.lt_succ_self _) ((Below.refl _ _).alloc (by simp) (.cells #[.int .i64 0,.int .i64 0,.int .i64 0,.slice none 0 0] 32))).below (by first | omega | (simp;done) | (simp;omega)) HB0.out.drew
 have HFR:Hid (FreshT (w.heap.size+1) w1.drew):=Lib.hid ((FreshT.new 32 (w.alloc (.cells #[.int .i64 H,.int .i64 W,.int .i64 C,.slice A n c] 32)) (w.heap.size+1) (by simp)).below (by first | omega | (simp;done) | (simp;omega)) HB0.out.drew)
 have HBW:Hid (Below w.heap.size w w1.drew):=Lib.hid ((Below.trans (((Below.refl _ _).alloc (Nat.le_refl _) _).alloc (by simp) _) (HB0.out.mono (by first | omega | (simp;done) | (simp;omega)))).drew)
 have hz:w.heap.size+2≤w1.drew.heap.size:=hz
 clear hcc hff HB0 hz1 hz0
 refine wp_region_held_drew (S:=BoxAt w.heap.size H W C A n c) (by kernel_rfl) hbx (fun hHeld=>?_)
 clear hbx
 generalize w1.drew=Wa at HFR HBW hz hHeld ⊢
 refine Tk.x 0 rfl ?_
 try simp only [Tk.put]
 refine Tk.y 1 (v:=?_) rfl ?_ ?_
 rotate_left
 ·intro wS hSw
  obtain⟨s1,s2,s3,s4⟩:=hSw
  first | (go_simp;done) | (go_simp;with_reducible rfl)
 try simp only [Tk.put]
 refine Tk.x 2 rfl ?_
 try simp only [Tk.put]
 refine Tk.y 4 (v:=?_) rfl ?_ ?_
 rotate_left
 ·intro wS hSw
  obtain⟨s1,s2,s3,s4⟩:=hSw
  first | (go_simp;done) | (go_simp;with_reducible rfl)
 try simp only [Tk.put]
 refine Tk.x 5 rfl ?_
 try simp only [Tk.put]
 refine Tk.x 6 rfl ?_
 try simp only [Tk.put]
 refine Tk.x 7 rfl ?_
 try simp only [Tk.put]
 refine Tk.s 3 rfl (fun K hK=>?_)
 go_simp
 go_at_call 65
 refine (widened_to H W C p g1 g2 g3 g4 (by omega) (by omega) _).mono ?_
 rintro e Wb ⟨rfl,hb1⟩
 have hS1:=hHeld.below (B':=_) (by omega) hb1
 replace HFR:=Lib.hid (HFR.out.below (B':=_) (by omega) hb1)
 replace HBW:=Lib.hid (HBW.out.trans (hb1.mono (by omega)))
 replace hz:=Nat.le_trans hz hb1.size
 clear hb1 hHeld
 dsimp only
 refine hK.out _ _ ?_ (fun hHeld=>?_)
 ·exact hS1
 clear hK K
 try simp only [Tk.put]
 refine Tk.s 8 rfl (fun K hK=>?_)
 go_simp
 go_at_call 66
 refine (moved_to H W C A n c p p z _).mono ?_
 rintro e Wc ⟨rfl,hmv,hzm,hb2⟩
 have HMV:=Lib.hid hmv
 have hS1:=hHeld.below (B':=_) (by omega) hb2
 replace HFR:=Lib.hid (HFR.out.below (B':=_) (by omega) hb2)
 replace HBW:=Lib.hid (HBW.out.trans (hb2.mono (by omega)))
 have hzc:=Nat.le_trans hz hb2.size
 have hzg:w.heap.size+2≤Wb.heap.size:=by assumption
 clear hb2 hHeld hmv
 dsimp only
 refine hK.out _ _ ?_ (fun hHeld=>?_)
 ·exact hS1
 clear hK K
 try simp only [Tk.put]
 refine Tk.s 9 rfl (fun K hK=>?_)
 go_simp
 go_at_call 64
 refine (build_yes (H+2 * p) (W+2 * p) H W C A zs n c HN.out hcc0 HT.out HS.out a b d HU.out HV.out HCd.out m HMm.out p p z F HF.out (B:=Wb.heap.size) (Bz:=Bz) _ HMV.out hzm (Nat.le_trans hBz HBW.out.size) (HR.out.below (HBW.out.mono hBz))).mono ?_
 rintro e Wd ⟨vd,rfl,ho3,hb3⟩
 obtain⟨Ad,cd,rfl, -, -, -⟩:=Kit.own_rd ho3
 have HO:=Lib.hid (Kit.own_base ho3 (show w.heap.size+2≤Wc.heap.size by omega))
 have hS1:=hHeld.below (B':=_) (by omega) hb3
 replace HFR:=Lib.hid (HFR.out.below (B':=_) (by omega) hb3)
 replace HBW:=Lib.hid (HBW.out.trans (hb3.mono (by omega)))
 have hzd:=Nat.le_trans hzc hb3.size
 clear hb3 hHeld ho3
 obtain⟨⟨z0,z1,z2,z3⟩,z4,z5,z6,z7⟩:=HFR.out
 dsimp only
 refine hK.out _ _ ?_ (fun hHeld=>?_)
 ·exact hS1
 clear hK K
 try simp only [Tk.put]
 refine Tk.x 10 rfl ?_
 try simp only [Tk.put]
 refine Tk.x 11 rfl ?_
 try simp only [Tk.put]
 refine Tk.s 12 rfl (fun K hK=>?_)
 go_simp
 refine hK.out _ _ ?_ (fun hHeld=>?_)
 ·exact hHeld.stores (by omega) _ _ _ _
 clear hK K
 try simp only [Tk.put]
 refine Tk.x 13 rfl ?_
 try simp only [Tk.put]
 refine wpAnyH_done (by kernel_rfl) ?_ _
 go_wp2_with fail
 refine bodyPost_ret (Kit.results_ct rfl _ _ (w.heap.size+1) 0 [.int .i64 (H+2 * p),.int .i64 (W+2 * p),.int .i64 C,.slice Ad m cd] _ rfl (range_4 (by go_cell) (by go_cell) (by go_cell) (by go_cell)) Tryz.underlying32 rfl (by kernel_rfl)) rfl ?_
 refine⟨_,rfl,Kit.own_base (own_set (own_set (own_set (own_set HO.out _ _ ?_) _ _ ?_) _ _ ?_) _ _ ?_) ?_,?_⟩
 any_goals (first | omega | (simp;done) | (simp;omega))
 exact ((((HBW.out.setCell (p:=⟨w.heap.size+1,0,none⟩) (by simp) _).setCell (p:=⟨w.heap.size+1,1,none⟩) (by simp) _).setCell (p:=⟨w.heap.size+1,2,none⟩) (by simp) _).setCell (p:=⟨w.heap.size+1,3,none⟩) (by simp) _)
set_option maxHeartbeats 2000000 in
theorem around_no (H W C:Int) (A:Option Addr) (n c:Nat) (p z:Int) (ht:tensB H W C n=true) (p0:0≤p) (p4:p≤4) (hs:shapeB (H+2 * p) (W+2 * p) C=false) (w:World) :
  Calls Tryz.prog 22 #[.agg #[.int .i64 H,.int .i64 W,.int .i64 C,.slice A n c],.int .i64 p,.int .i8 z] w (Made w 0 0 0 0 [] (.int .i64 5)):=by
 obtain⟨g1,g2,g3,g4⟩:=tens_bd2 ht
 have HE:=Lib.hid (show (if tensB H W C n=true then (if p < 0∨4 < p then 2 else 0) else 5)=(0:Int) by rw [if_pos ht,if_neg (by omega)])
 have HS:=Lib.hid hs
 have HT:=Lib.hid ht
 clear hs ht
 go_enter Tryz.func22,Tryz.ntmps22
 go_wp2_with (go_at_call 63;(refine (check_to H W C A n c p 0 HE.out _).mono ?_);(rintro e w1 ⟨rfl,hb⟩;obtain⟨hcc,hff⟩:=Kit.bcell hb;have hz:w.heap.size+2≤w1.heap.size:=(by have:=hb.size;simp at this;omega);have hz1:w.heap.size+1 < w1.heap.size:=(by omega);have hz0:w.heap.size < w1.heap.size:=(by omega);have HB0:=Lib.hid hb;clear hb))
 have hbx:BoxAt w.heap.size H W C A n c w1.drew:=((BoxAt.newq H W C A n c 32 w).below (Nat.lt_succ_self _) ((Below.refl _ _).alloc (by simp) (.cells #[.int .i64 0,.int .i64 0,.int .i64 0,.slice none 0 0] 32))).below (by first | omega | (simp;done) | (simp;omega)) HB0.out.drew
 have HFR:Hid (FreshT (w.heap.size+1) w1.drew):=Lib.hid ((FreshT.new 32 (w.alloc (.cells #[.int .i64 H,.int .i64 W,.int .i64 C,.slice A n c] 32)) (w.heap.size+1) (by simp)).below (by first | omega | (simp;done) | (simp;omega)) HB0.out.drew)
 have HBW:Hid (Below w.heap.size w w1.drew):=Lib.hid ((Below.trans (((Below.refl _ _).alloc (Nat.le_refl _) _).alloc (by simp) _) (HB0.out.mono (by first | omega | (simp;done) | (simp;omega)))).drew)
 have hz:w.heap.size+2≤w1.drew.heap.size:=hz
 clear hcc hff HB0 hz1 hz0
 refine wp_region_held_drew (S:=BoxAt w.heap.size H W C A n c) (by kernel_rfl) hbx (fun hHeld=>?_)
 clear hbx
 generalize w1.drew=Wa at HFR HBW hz hHeld ⊢
 refine Tk.x 0 rfl ?_
 try simp only [Tk.put]
 refine Tk.y 1 (v:=?_) rfl ?_ ?_
 rotate_left
 ·intro wS hSw
  obtain⟨s1,s2,s3,s4⟩:=hSw
  first | (go_simp;done) | (go_simp;with_reducible rfl)
 try simp only [Tk.put]
 refine Tk.x 2 rfl ?_
 try simp only [Tk.put]
 refine Tk.y 4 (v:=?_) rfl ?_ ?_
 rotate_left
 ·intro wS hSw
  obtain⟨s1,s2,s3,s4⟩:=hSw
  first | (go_simp;done) | (go_simp;with_reducible rfl)
 try simp only [Tk.put]
 refine Tk.x 5 rfl ?_
 try simp only [Tk.put]
 refine Tk.x 6 rfl ?_
 try simp only [Tk.put]
 refine Tk.x 7 rfl ?_
 try simp only [Tk.put]
 refine Tk.s 3 rfl (fun K hK=>?_)
 go_simp
 go_at_call 65
 refine (widened_to H W C p g1 g2 g3 g4 (by omega) (by omega) _).mono ?_
 rintro e Wb ⟨rfl,hb1⟩
 have hS1:=hHeld.below (B':=_) (by omega) hb1
 replace HFR:=Lib.hid (HFR.out.below (B':=_) (by omega) hb1)
 replace HBW:=Lib.hid (HBW.out.trans (hb1.mono (by omega)))
 replace hz:=Nat.le_trans hz hb1.size
 clear hb1 hHeld
 dsimp only
 refine hK.out _ _ ?_ (fun hHeld=>?_)
 ·exact hS1
 clear hK K
 try simp only [Tk.put]
 refine Tk.s 8 rfl (fun K hK=>?_)
 go_simp
 go_at_call 66
 refine (moved_to H W C A n c p p z _).mono ?_
 rintro e Wc ⟨rfl,hmv,hzm,hb2⟩
 have HMV:=Lib.hid hmv
 have hS1:=hHeld.below (B':=_) (by omega) hb2
 replace HFR:=Lib.hid (HFR.out.below (B':=_) (by omega) hb2)
 replace HBW:=Lib.hid (HBW.out.trans (hb2.mono (by omega)))
 have hzc:=Nat.le_trans hz hb2.size
 have hzg:w.heap.size+2≤Wb.heap.size:=by assumption
 clear hb2 hHeld hmv
 dsimp only
 refine hK.out _ _ ?_ (fun hHeld=>?_)
 ·exact hS1
 clear hK K
 try simp only [Tk.put]
 refine Tk.s 9 rfl (fun K hK=>?_)
 go_simp
 go_at_call 64
 refine (build_no (H+2 * p) (W+2 * p) C HS.out _ _).mono ?_
 rintro e Wd ⟨rfl,hb3⟩
 have hS1:=hHeld.below (B':=_) (by omega) hb3
 replace HFR:=Lib.hid (HFR.out.below (B':=_) (by omega) hb3)
 replace HBW:=Lib.hid (HBW.out.trans (hb3.mono (by omega)))
 have hzd:=Nat.le_trans hzc hb3.size
 clear hb3 hHeld
 obtain⟨⟨z0,z1,z2,z3⟩,z4,z5,z6,z7⟩:=HFR.out
 dsimp only
 refine hK.out _ _ ?_ (fun hHeld=>?_)
 ·exact hS1
 clear hK K
 try simp only [Tk.put]
 refine Tk.x 10 rfl ?_
 try simp only [Tk.put]
 refine Tk.x 11 rfl ?_
 try simp only [Tk.put]
 refine Tk.s 12 rfl (fun K hK=>?_)
 go_simp
 refine hK.out _ _ ?_ (fun hHeld=>?_)
 ·exact hHeld.stores (by omega) _ _ _ _
 clear hK K
 try simp only [Tk.put]
 refine Tk.x 13 rfl ?_
 try simp only [Tk.put]
 refine wpAnyH_done (by kernel_rfl) ?_ _
 go_wp2_with fail
 refine bodyPost_ret (Kit.results_ct rfl _ _ (w.heap.size+1) 0 [.int .i64 0,.int .i64 0,.int .i64 0,.slice none 0 0] _ rfl (range_4 (by go_cell) (by go_cell) (by go_cell) (by go_cell)) Tryz.underlying32 rfl (by kernel_rfl)) rfl ?_
 exact⟨_,rfl,World.ownsRow_nil _ _ _ _,((((HBW.out.setCell (p:=⟨w.heap.size+1,0,none⟩) (by simp) _).setCell (p:=⟨w.heap.size+1,1,none⟩) (by simp) _).setCell (p:=⟨w.heap.size+1,2,none⟩) (by simp) _).setCell (p:=⟨w.heap.size+1,3,none⟩) (by simp) _)⟩
end Go.Proofs.YtkpngknbiecdiaaGreatDoor.CPad
end
section
namespace Go.Proofs.YtkpngknbiecdiaaGreatDoor.CPad
open Go Go.ChangeShapes Go.WideShapes Go.ChangeAt Go.RowKit
open Plain CSat CShape CTensor
set_option linter.unusedVariables false
def gridF (b d:Nat) (G:Nat→Nat→Nat→Int) (i:Nat):Int:=G (i / d / b) (i / d % b) (i % d)
theorem grid_at (b d:Nat) (G:Nat→Nat→Nat→Int) {i j k:Nat} (hj:j < b) (hk:k < d):gridF b d G ((i * b+j) * d+k)=G i j k:=by
 unfold gridF
 have h1:((i * b+j) * d+k) / d=i * b+j:=by rw [Nat.mul_comm,Nat.mul_add_div (by omega),Nat.div_eq_of_lt hk];rfl
 have h2:((i * b+j) * d+k) % d=k:=by rw [Nat.mul_comm,Nat.mul_add_mod,Nat.mod_eq_of_lt hk]
 have h3:(i * b+j) / b=i:=by rw [Nat.mul_comm,Nat.mul_add_div (by omega),Nat.div_eq_of_lt hj];rfl
 have h4:(i * b+j) % b=j:=by rw [Nat.mul_comm,Nat.mul_add_mod,Nat.mod_eq_of_lt hj]
 rw [h1,h2,h3,h4]
end Go.Proofs.YtkpngknbiecdiaaGreatDoor.CPad
end
