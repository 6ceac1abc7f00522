/- -/
import Derived.Test.YtfgdfignoakkaaaGreatDoorGBT24
open Go.Lib (hid)
open Nat (le_refl lt_of_succ_lt lt_succ_self)
set_option linter.unusedVariables false
set_option linter.unusedSimpArgs false
set_option maxRecDepth 100000
set_option maxHeartbeats 16000000
namespace Go.Proofs.YtfgdfignoakkaaaGreatDoor
namespace CConv
end CConv
namespace CFix
end CFix
namespace CSat
end CSat
namespace CShape
end CShape
namespace CSpan
end CSpan
namespace CTensor
end CTensor
open Go Go.ChangeShapes Go.WideShapes Go.ChangeAt Go.RowKit Go.Deep
section
namespace CKind
open Plain CSat CShape CTensor CConv
def keepL (k:Int) (l:List Int):List Int:=if sumsB k then l else []
theorem own_lenW (x:Nd) (ws:List Int) (hw:ws.length=x.nW):(keepL x.kd ws).length=(x.ownK x.kd).nW:=by
 unfold keepL Nd.ownK
 cases sumsB x.kd <;> simp [hw]
theorem own_lenB (x:Nd) (bs:List Int) (hb:bs.length=x.nB):(keepL x.kd bs).length=(x.ownK x.kd).nB:=by
 unfold keepL Nd.ownK
 cases sumsB x.kd <;> simp [hb]
theorem own_leW (x:Nd):(x.ownK x.kd).nW≤x.nW:=by unfold Nd.ownK;cases sumsB x.kd <;> simp
theorem own_leB (x:Nd):(x.ownK x.kd).nB≤x.nB:=by unfold Nd.ownK;cases sumsB x.kd <;> simp
theorem own_rdW (x:Nd) (ws:List Int) {W:World} {B:Nat} (h:Kit.Rd W B x.WA (ws.map (.int .i8))):Kit.Rd W B (x.ownK x.kd).WA ((keepL x.kd ws).map (.int .i8)):=by
 unfold keepL Nd.ownK
 cases sumsB x.kd
 ·exact fun j u hu=>by simp at hu
 ·exact h
theorem own_rdB (x:Nd) (bs:List Int) {W:World} {B:Nat} (h:Kit.Rd W B x.BA (bs.map (.int .i32))):Kit.Rd W B (x.ownK x.kd).BA ((keepL x.kd bs).map (.int .i32)):=by
 unfold keepL Nd.ownK
 cases sumsB x.kd
 ·exact fun j u hu=>by simp at hu
 ·exact h
end CKind
end
section
namespace CSpan
open Go Go.ChangeShapes Go.WideShapes Go.ChangeAt Go.RowKit
open Plain CSat CFix CShape CTensor CConv
def wsOf (ws:List Int) (each o:Nat):List Int:=(ws.drop (o * each)).take each
def rowP (ws bs:List Int) (lo hi z:Int) (g:Bool) (each o:Nat):Int:=bs.getD o 0+psum (dnF (wsOf ws each o) lo hi z g) each
def rowQ (ws bs:List Int) (lo hi z:Int) (g:Bool) (each o:Nat):Int:=bs.getD o 0+psum (upF (wsOf ws each o) lo hi z g) each
theorem wsOf_len {ws:List Int} {n nB each o:Nat} (hn:ws.length=n) (h:each * nB=n) (ho:o < nB):(wsOf ws each o).length=each:=by
 have h1:(o+1) * each≤nB * each:=Nat.mul_le_mul_right _ ho
 rw [Nat.mul_comm nB,h,Nat.add_mul,Nat.one_mul] at h1
 unfold wsOf
 rw [List.length_take,List.length_drop,hn]
 omega
theorem wsOf_I8b {ws:List Int} (h:I8b ws) (each o:Nat):I8b (wsOf ws each o):=fun q=>by
 unfold wsOf
 rw [List.getD_eq_getElem?_getD,List.getElem?_take]
 split
 ·rw [List.getElem?_drop, ← List.getD_eq_getElem?_getD];exact h _
 ·simp
theorem rowPQ_bd {ws bs:List Int} (hw:I8b ws) (hb:∀ q, -2147483648≤bs.getD q 0∧bs.getD q 0≤2147483647) {lo hi z:Int} (l1 : -128≤lo) (l2:lo≤127) (h1 : -128≤hi) (h2:hi≤127) (z1 : -128≤z) (z2:z≤127) (g:Bool) {each:Nat} (he:each≤1000000) (o:Nat) :
  (-40000000000≤rowP ws bs lo hi z g each o∧rowP ws bs lo hi z g each o≤40000000000)∧(-40000000000≤rowQ ws bs lo hi z g each o∧rowQ ws bs lo hi z g each o≤40000000000):=by
 have a:=psum_bd (G:=dnF (wsOf ws each o) lo hi z g) (b:=32640) (n:=each) (fun j _=>dnF_bd (wsOf_I8b hw each o) l1 l2 h1 h2 z1 z2 g j)
 have b:=psum_bd (G:=upF (wsOf ws each o) lo hi z g) (b:=32640) (n:=each) (fun j _=>upF_bd (wsOf_I8b hw each o) l1 l2 h1 h2 z1 z2 g j)
 have c:=hb o
 unfold rowP rowQ
 omega
end CSpan
end
section
namespace CGuard
open Plain CSat CFix CShape CTensor CConv CSpan
def lsR (F:Nat→Int):Nat→Int
 | 0=>0
 | k+1=>if k=0 then F 0 else min (lsR F k) (F k)
def grR (F:Nat→Int):Nat→Int
 | 0=>0
 | k+1=>if k=0 then F 0 else max (grR F k) (F k)
theorem lsR_bd {F:Nat→Int} {a b:Int} (h:∀ k,a≤F k∧F k≤b):∀ n,0 < n→a≤lsR F n∧lsR F n≤b
 | 0,h0=>by omega
 | n+1,_=>by
   unfold lsR
   by_cases hn:n=0
   ·rw [if_pos hn];exact h 0
   ·rw [if_neg hn];have:=lsR_bd h n (by omega);have:=h n;omega
theorem grR_bd {F:Nat→Int} {a b:Int} (h:∀ k,a≤F k∧F k≤b):∀ n,0 < n→a≤grR F n∧grR F n≤b
 | 0,h0=>by omega
 | n+1,_=>by
   unfold grR
   by_cases hn:n=0
   ·rw [if_pos hn];exact h 0
   ·rw [if_neg hn];have:=grR_bd h n (by omega);have:=h n;omega
def fitB (X Y:Int):Bool:=decide (-2147483648≤X) && decide (Y≤2147483647)
def HeadGAt (B:Nat) (WA BA:Option Addr) (nW cW nB cB:Nat) (D:Int) (wd:World):Prop :=
 wd.cell? ⟨B,0,none⟩=some (.slice WA nW cW)∧wd.cell? ⟨B,1,none⟩=some (.slice BA nB cB)∧wd.cell? ⟨B,2,none⟩=some (.int .i32 D)
theorem headGNew (WA BA:Option Addr) (nW cW nB cB:Nat) (D:Int) (T:TypeId) (w:World):HeadGAt w.heap.size WA BA nW cW nB cB D (w.alloc (.cells #[.slice WA nW cW,.slice BA nB cB,.int .i32 D] T)):=⟨Kit.zab _ _ _ _,Kit.zab _ _ _ _,Kit.zab _ _ _ _⟩
def RchAt (B:Nat) (l h:Int) (wd:World):Prop:=wd.cell? ⟨B,0,none⟩=some (.int .i8 l)∧wd.cell? ⟨B,1,none⟩=some (.int .i8 h)
theorem rchNew (l h:Int) (T:TypeId) (w:World):RchAt w.heap.size l h (w.alloc (.cells #[.int .i8 l,.int .i8 h] T)):=⟨Kit.zab _ _ _ _,Kit.zab _ _ _ _⟩
theorem RchAt.below {B B':Nat} {l h:Int} {w w':World} (q:RchAt B l h w) (hB:B < B') (hb:Below B' w w'):RchAt B l h w' :=
 ⟨(hb.cell (p:=⟨B,0,none⟩) hB).trans q.1,(hb.cell (p:=⟨B,1,none⟩) hB).trans q.2⟩
def lsW (ws bs:List Int) (nW nB:Nat) (l h z:Int) (g:Bool):Int:=lsR (rowP ws bs l h z g (nW / nB)) nB
def grW (ws bs:List Int) (nW nB:Nat) (l h z:Int) (g:Bool):Int:=grR (rowQ ws bs l h z g (nW / nB)) nB
def headZ (ws bs:List Int) (nW nB:Nat) (l h:Int):Int :=
 if 1≤nB∧nW % nB=0 then (if fitB (lsW ws bs nW nB l h 0 false) (grW ws bs nW nB l h 0 false)=true then 0 else 10) else 9
theorem each_of_shared {nW nB:Nat} (h:1≤nB∧nW % nB=0):nW / nB * nB=nW:=Nat.div_mul_cancel (Nat.dvd_of_mod_eq_zero h.2)
theorem same_b {w w':World} (h:w=w'):Below w.heap.size w w':=by subst h;exact Below.refl _ _
end CGuard
end
section
namespace CAct
open Plain CSat CFix CShape CTensor CConv
def NBd (Z Y m1 z1 m2 z2 lo hi:Int):Prop:=(-128≤Z∧Z≤127)∧(-128≤Y∧Y≤127)∧(-2147483648≤m1∧m1≤2147483647)∧(-128≤z1∧z1≤127)∧(-2147483648≤m2∧m2≤2147483647)∧(-128≤z2∧z2≤127)∧(-128≤lo∧lo≤127)∧(-128≤hi∧hi≤127)
theorem aone_to (x:Int) (hx1 : -128≤x) (hx2:x≤127) (x0 x1 x2:Value) (K S P O Z Y:Int) (WA BA:Option Addr) (nW cW nB cB:Nat) (m1 s1 z1 m2 s2 z2 lo hi:Int) (hnb:NBd Z Y m1 z1 m2 z2 lo hi) (R:Int) (hR:heldZ (x - Z) m1 s1 z1 lo hi=R) (w:World) :
  Calls Tryz.prog 170 #[.int .i8 x,.agg #[x0,x1,x2,.int .i64 K,.int .i64 S,.int .i64 P,.int .i64 O,.int .i8 Z,.int .i8 Y,.slice WA nW cW,.slice BA nB cB,.int .i32 m1,.int .i64 s1,.int .i8 z1,.int .i32 m2,.int .i64 s2,.int .i8 z2,.int .i8 lo,.int .i8 hi]] w fun e w'=>e=.returned (.int .i8 R)∧Below w.heap.size w w':=by
 obtain⟨⟨hZ1,hZ2⟩, -,⟨hm3,hm1⟩,⟨hz1,hz2⟩, -, -,⟨hl1,hl2⟩,⟨hh1,hh2⟩⟩:=hnb
 have e1:IntKind.i32.wrap x=x:=IntWalk.i32_in _ (by omega)
 have e2:IntKind.i32.wrap Z=Z:=IntWalk.i32_in _ (by omega)
 have e3:IntKind.i32.wrap (x - Z)=x - Z:=IntWalk.i32_in _ (by omega)
 have hal:Below w.heap.size w (w.alloc (.cells #[x0,x1,x2,.int .i64 K,.int .i64 S,.int .i64 P,.int .i64 O,.int .i8 Z,.int .i8 Y,.slice WA nW cW,.slice BA nB cB,.int .i32 m1,.int .i64 s1,.int .i8 z1,.int .i32 m2,.int .i64 s2,.int .i8 z2,.int .i8 lo,.int .i8 hi] 54)):=(Below.refl _ _).alloc (le_refl _) _
 have HAL:=hid hal
 have HR:=hid hR
 have TN:=zat.new x0 x1 x2 (.int .i8 Y) (.int .i32 m1) (.int .i64 s1) (.int .i8 z1) (.int .i32 m2) (.int .i64 s2) (.int .i8 z2) (.int .i8 lo) (.int .i8 hi) K S P O Z WA BA nW cW nB cB 54 w
 clear hal hR
 go_enter Tryz.func170,Tryz.ntmps170
 have n7:=TN.at 7 _ rfl
 have n11:=TN.at 11 _ rfl
 have n12:=TN.at 12 _ rfl
 have n13:=TN.at 13 _ rfl
 have n17:=TN.at 17 _ rfl
 have n18:=TN.at 18 _ rfl
 clear TN
 go_wp2_with (go_at_call 183;(refine (held _ _ _ _ _ _ (by omega) (by omega) hm3 hm1 hz1 hz2 hl1 hl2 hh1 hh2 _).mono ?_);rintro e w1 ⟨rfl,hb⟩)
 go_ret
 exact⟨congrArg (fun z=>Ending.returned (.int .i8 z)) HR.out,HAL.out.trans (hb.mono HAL.out.size)⟩
end CAct
end
section
namespace CJoin
open Plain CSat CFix CShape CTensor CConv
theorem one_to (x y:Int) (hx1 : -128≤x) (hx2:x≤127) (hy1 : -128≤y) (hy2:y≤127) (x0 x1 x2:Value) (K S P O Z Y:Int) (WA BA:Option Addr) (nW cW nB cB:Nat) (m1 s1 z1 m2 s2 z2 lo hi:Int) (hnb:NBd Z Y m1 z1 m2 z2 lo hi) (R:Int) (hR:oneZ x y Z Y m1 s1 z1 m2 s2 lo hi=R) (w:World) :
  Calls Tryz.prog 169 #[.int .i8 x,.int .i8 y,.agg #[x0,x1,x2,.int .i64 K,.int .i64 S,.int .i64 P,.int .i64 O,.int .i8 Z,.int .i8 Y,.slice WA nW cW,.slice BA nB cB,.int .i32 m1,.int .i64 s1,.int .i8 z1,.int .i32 m2,.int .i64 s2,.int .i8 z2,.int .i8 lo,.int .i8 hi]] w fun e w'=>e=.returned (.int .i8 R)∧Below w.heap.size w w':=by
 obtain⟨⟨hZ1,hZ2⟩,⟨hY1,hY2⟩,⟨hm3,hm1⟩,⟨hz1,hz2⟩,⟨hm4,hm2⟩,⟨hz3,hz4⟩,⟨hl1,hl2⟩,⟨hh1,hh2⟩⟩:=hnb
 cases hh:(zax m1 s1 && zax m2 s2)
 ·unfold oneZ at hR
  rw [hh,if_neg (by decide)] at hR
  subst hR
  have HH:=hid hh
  clear hh
  go_enter Tryz.func169,Tryz.ntmps169
  go_wp2_with (first
  | (go_at_call 180
     have hal:Below w.heap.size w (w.alloc (.cells #[x0,x1,x2,.int .i64 K,.int .i64 S,.int .i64 P,.int .i64 O,.int .i8 Z,.int .i8 Y,.slice WA nW cW,.slice BA nB cB,.int .i32 m1,.int .i64 s1,.int .i8 z1,.int .i32 m2,.int .i64 s2,.int .i8 z2,.int .i8 lo,.int .i8 hi] 54)):=(Below.refl _ _).alloc (by first | exact le_refl _ | (simp;done) | (simp;omega)) _
     refine (scales_to x0 x1 x2 K S P O Z Y WA BA nW cW nB cB m1 s1 z1 m2 s2 z2 lo hi _).mono ?_
     rintro e w1 ⟨rfl,hb⟩
     have hh:Below w.heap.size w w1:=hal.trans (hb.mono hal.size)
     have qTN:=(zat.new x0 x1 x2 (.int .i8 Y) (.int .i32 m1) (.int .i64 s1) (.int .i8 z1) (.int .i32 m2) (.int .i64 s2) (.int .i8 z2) (.int .i8 lo) (.int .i8 hi) K S P O Z WA BA nW cW nB cB 54) w
     try simp only [World.size_alloc] at qTN
     have TN:=hid (qTN.below (by first | (simp;done) | (simp;omega)) hb)
     have yTN:w.heap.size < w1.heap.size:=by have:=hb.size;simp at this;omega
     clear qTN
     have HBW:Hid (Below w.heap.size w w1):=hid hh
     rw [HH.out]
     clear hb hh hal)
  | (refine wpList_load_mid rfl 54 (.tmp 5) rfl (w.heap.size) 0 rfl [x0,x1,x2,.int .i64 K,.int .i64 S,.int .i64 P,.int .i64 O,.int .i8 Z,.int .i8 Y,.slice WA nW cW,.slice BA nB cB,.int .i32 m1,.int .i64 s1,.int .i8 z1,.int .i32 m2,.int .i64 s2,.int .i8 z2,.int .i8 lo,.int .i8 hi] _ (zat.new x0 x1 x2 (.int .i8 Y) (.int .i32 m1) (.int .i64 s1) (.int .i8 z1) (.int .i32 m2) (.int .i64 s2) (.int .i8 z2) (.int .i8 lo) (.int .i8 hi) K S P O Z WA BA nW cW nB cB 54 w) Tryz.underlying54 rfl (by kernel_rfl) ?_))
  go_ret
  exact⟨rfl,HBW.out⟩
 ·obtain⟨hr1,hr2⟩:zax m1 s1=true∧zax m2 s2=true:=by simpa using hh
  obtain⟨b1,b2⟩:=round_term hx1 hx2 hZ1 hZ2 hm1 hr1
  obtain⟨b3,b4⟩:=round_term hy1 hy2 hY1 hY2 hm2 hr2
  unfold oneZ at hR
  rw [hh,if_pos rfl] at hR
  obtain⟨t1,ht1⟩:∃ t1,zbf ((x - Z) * m1) s1.toNat=t1:=⟨_,rfl⟩
  obtain⟨t2,ht2⟩:∃ t2,zbf ((y - Y) * m2) s2.toNat=t2:=⟨_,rfl⟩
  rw [ht1] at b1 b2 hR
  rw [ht2] at b3 b4 hR
  have w1:IntKind.i64.wrap (t1+t2)=t1+t2:=IntWalk.i64_in _ (by omega)
  have w2:IntKind.i64.wrap (t1+t2+z1)=t1+t2+z1:=IntWalk.i64_in _ (by omega)
  have w3:IntKind.i64.wrap z1=z1:=IntWalk.i64_in _ (by omega)
  have HH:=hid hh
  have HR1:=hid hr1
  have HR2:=hid hr2
  have HT1:=hid ht1
  have HT2:=hid ht2
  have HC:=hid hR
  clear hh hr1 hr2 ht1 ht2 hR
  go_enter Tryz.func169,Tryz.ntmps169
  go_wp2_with (first
  | (go_at_call 180
     have hal:Below w.heap.size w (w.alloc (.cells #[x0,x1,x2,.int .i64 K,.int .i64 S,.int .i64 P,.int .i64 O,.int .i8 Z,.int .i8 Y,.slice WA nW cW,.slice BA nB cB,.int .i32 m1,.int .i64 s1,.int .i8 z1,.int .i32 m2,.int .i64 s2,.int .i8 z2,.int .i8 lo,.int .i8 hi] 54)):=(Below.refl _ _).alloc (by first | exact le_refl _ | (simp;done) | (simp;omega)) _
     refine (scales_to x0 x1 x2 K S P O Z Y WA BA nW cW nB cB m1 s1 z1 m2 s2 z2 lo hi _).mono ?_
     rintro e w1 ⟨rfl,hb⟩
     have hh:Below w.heap.size w w1:=hal.trans (hb.mono hal.size)
     have qTN:=(zat.new x0 x1 x2 (.int .i8 Y) (.int .i32 m1) (.int .i64 s1) (.int .i8 z1) (.int .i32 m2) (.int .i64 s2) (.int .i8 z2) (.int .i8 lo) (.int .i8 hi) K S P O Z WA BA nW cW nB cB 54) w
     try simp only [World.size_alloc] at qTN
     have TN:=hid (qTN.below (by first | (simp;done) | (simp;omega)) hb)
     have yTN:w.heap.size < w1.heap.size:=by have:=hb.size;simp at this;omega
     clear qTN
     have HBW:Hid (Below w.heap.size w w1):=hid hh
     rw [HH.out]
     clear hb hh hal)
  | (refine wpList_load_mid rfl 54 (.tmp 5) rfl (w.heap.size) 0 rfl [x0,x1,x2,.int .i64 K,.int .i64 S,.int .i64 P,.int .i64 O,.int .i8 Z,.int .i8 Y,.slice WA nW cW,.slice BA nB cB,.int .i32 m1,.int .i64 s1,.int .i8 z1,.int .i32 m2,.int .i64 s2,.int .i8 z2,.int .i8 lo,.int .i8 hi] _ (zat.new x0 x1 x2 (.int .i8 Y) (.int .i32 m1) (.int .i64 s1) (.int .i8 z1) (.int .i32 m2) (.int .i64 s2) (.int .i8 z2) (.int .i8 lo) (.int .i8 hi) K S P O Z WA BA nW cW nB cB 54 w) Tryz.underlying54 rfl (by kernel_rfl) ?_))
  refine wp_region_held_drew (S:=fun w'=>zat w.heap.size x0 x1 x2 (.int .i8 Y) (.int .i32 m1) (.int .i64 s1) (.int .i8 z1) (.int .i32 m2) (.int .i64 s2) (.int .i8 z2) (.int .i8 lo) (.int .i8 hi) K S P O Z WA BA nW cW nB cB w') (by kernel_rfl) TN.out (fun hHeld=>?_)
  replace HBW:Hid (Below w.heap.size w w1.drew):=hid HBW.out.drew
  clear TN
  replace yTN:w.heap.size < w1.drew.heap.size:=yTN
  generalize w1.drew=W1 at HBW yTN hHeld ⊢
  refine Tk.x 0 rfl ?_
  try simp only [Tk.put]
  refine Tk.x 1 rfl ?_
  try simp only [Tk.put]
  refine Tk.y 2 (v:=?_) rfl ?_ ?_
  rotate_left
  ·intro wS hSw
   have q7:=hSw.at 7 _ rfl
   clear hSw
   first | (go_simp;done) | (go_simp;with_reducible rfl)
  try simp only [Tk.put]
  refine Tk.x 3 rfl ?_
  try simp only [Tk.put]
  refine Tk.y 4 (v:=?_) rfl ?_ ?_
  rotate_left
  ·intro wS hSw
   have q11:=hSw.at 11 _ rfl;have q12:=hSw.at 12 _ rfl;have q13:=hSw.at 13 _ rfl
   clear hSw
   first | (go_simp;done) | (go_simp;with_reducible rfl)
  try simp only [Tk.put]
  refine Tk.x 6 rfl ?_
  try simp only [Tk.put]
  refine Tk.x 7 rfl ?_
  try simp only [Tk.put]
  refine Tk.y 8 (v:=?_) rfl ?_ ?_
  rotate_left
  ·intro wS hSw
   have q8:=hSw.at 8 _ rfl
   clear hSw
   first | (go_simp;done) | (go_simp;with_reducible rfl)
  try simp only [Tk.put]
  refine Tk.x 9 rfl ?_
  try simp only [Tk.put]
  refine Tk.y 10 (v:=?_) rfl ?_ ?_
  rotate_left
  ·intro wS hSw
   have q14:=hSw.at 14 _ rfl;have q15:=hSw.at 15 _ rfl;have q16:=hSw.at 16 _ rfl
   clear hSw
   first | (go_simp;done) | (go_simp;with_reducible rfl)
  try simp only [Tk.put]
  refine Tk.x 13 rfl ?_
  try simp only [Tk.put]
  refine Tk.x 14 rfl ?_
  try simp only [Tk.put]
  refine Tk.y 15 (v:=?_) rfl ?_ ?_
  rotate_left
  ·intro wS hSw
   have q13:=hSw.at 13 _ rfl
   clear hSw
   first | (go_simp;done) | (go_simp;with_reducible rfl)
  try simp only [Tk.put]
  refine Tk.x 16 rfl ?_
  try simp only [Tk.put]
  refine Tk.x 18 rfl ?_
  try simp only [Tk.put]
  refine Tk.y 19 (v:=?_) rfl ?_ ?_
  rotate_left
  ·intro wS hSw
   have q17:=hSw.at 17 _ rfl
   clear hSw
   first | (go_simp;done) | (go_simp;with_reducible rfl)
  try simp only [Tk.put]
  refine Tk.x 20 rfl ?_
  try simp only [Tk.put]
  refine Tk.y 21 (v:=?_) rfl ?_ ?_
  rotate_left
  ·intro wS hSw
   have q18:=hSw.at 18 _ rfl
   clear hSw
   first | (go_simp;done) | (go_simp;with_reducible rfl)
  try simp only [Tk.put]
  refine Tk.s 5 rfl (fun Kq hK=>?_)
  go_simp
  go_at_call 182
  refine (scaled_to x Z m1 s1 z1 t1 hx1 hx2 hZ1 hZ2 hm1 HR1.out HT1.out _).mono ?_
  rintro e W2 ⟨rfl,hb1⟩
  have hS1:zat w.heap.size x0 x1 x2 (.int .i8 Y) (.int .i32 m1) (.int .i64 s1) (.int .i8 z1) (.int .i32 m2) (.int .i64 s2) (.int .i8 z2) (.int .i8 lo) (.int .i8 hi) K S P O Z WA BA nW cW nB cB W2:=hHeld.below yTN hb1
  replace HBW:=hid (HBW.out.trans (hb1.mono HBW.out.size))
  replace yTN:=Nat.lt_of_lt_of_le yTN hb1.size
  clear hHeld hb1
  dsimp only
  refine hK.out _ _ ?_ (fun hHeld=>?_)
  ·exact hS1
  clear hK Kq
  try simp only [Tk.put]
  refine Tk.s 11 rfl (fun Kq hK=>?_)
  go_simp
  go_at_call 182
  refine (scaled_to y Y m2 s2 z2 t2 hy1 hy2 hY1 hY2 hm2 HR2.out HT2.out _).mono ?_
  rintro e W3 ⟨rfl,hb1⟩
  have hS1:zat w.heap.size x0 x1 x2 (.int .i8 Y) (.int .i32 m1) (.int .i64 s1) (.int .i8 z1) (.int .i32 m2) (.int .i64 s2) (.int .i8 z2) (.int .i8 lo) (.int .i8 hi) K S P O Z WA BA nW cW nB cB W3:=hHeld.below yTN hb1
  replace HBW:=hid (HBW.out.trans (hb1.mono HBW.out.size))
  replace yTN:=Nat.lt_of_lt_of_le yTN hb1.size
  clear hHeld hb1
  dsimp only
  refine hK.out _ _ ?_ (fun hHeld=>?_)
  ·exact hS1
  clear hK Kq
  try simp only [Tk.put]
  refine Tk.x 12 rfl ?_
  try simp only [Tk.put]
  refine Tk.x 17 rfl ?_
  try simp only [Tk.put]
  refine Tk.s 22 rfl (fun Kq hK=>?_)
  go_simp
  go_at_call 181
  refine (jclamp_to _ lo hi R HC.out hl1 hl2 hh1 hh2 _).mono ?_
  rintro e W4 ⟨rfl,rfl⟩
  dsimp only
  refine hK.out _ _ ?_ (fun hHeld=>?_)
  ·exact hHeld
  clear hK Kq
  try simp only [Tk.put]
  refine Tk.x 23 rfl ?_
  try simp only [Tk.put]
  refine wpAnyH_done (by kernel_rfl) ?_ _
  go_wp2_with fail
  go_ret
  exact⟨rfl,HBW.out⟩
end CJoin
end
end Go.Proofs.YtfgdfignoakkaaaGreatDoor
