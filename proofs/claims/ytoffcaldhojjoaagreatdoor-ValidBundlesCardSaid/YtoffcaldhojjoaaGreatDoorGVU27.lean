/- -/
import Derived.Test.YtoffcaldhojjoaaGreatDoorGVU26
open Go.Lib (hid)
open Nat (le_refl lt_of_succ_lt lt_succ_self)
set_option linter.unusedVariables false
set_option linter.unusedSimpArgs false
set_option maxRecDepth 100000
set_option maxHeartbeats 16000000
namespace Go.Proofs.YtoffcaldhojjoaaGreatDoor
namespace CConv
end CConv
namespace CFix
end CFix
namespace CKind
end CKind
namespace CSat
end CSat
namespace CTensor
end CTensor
open Go Go.ChangeShapes Go.WideShapes Go.ChangeAt Go.RowKit Go.Deep
section
namespace CGraph
open Plain CSat CFix CShape CTensor CConv CKind
theorem zbm {ops:Array Oper} {rest:List Oper} {op:Oper} {a:Act} {w:World} {Q:Exit→Act→World→Prop} (hgd:op.guard=none) (x:Operand) (ho:op.op=.load 61 x)
  (b o:Nat) (u:Nd) (hx:a.eval x=.pointer (some ⟨b,o,none⟩)) (hb:w.rangeAt b o u.val.toList)
  (h:wpList Tryz.prog ops Q rest (a.put op.dst (.agg u.val)) w):wpList Tryz.prog ops Q (op :: rest) a w :=
 wpList_load_mid hgd 61 x ho b o hx u.val.toList _ hb Tryz.underlying61 rfl (by kernel_rfl) h
theorem info_parts {P:Program} {t:TypeId} {z:Option Value} {s b:Nat} (h:(P.info? t).map (fun i=>(i.zero,i.size,i.bytes))=some (z,s,b)):∃ i,P.info? t=some i∧i.zero=z∧i.size=s∧i.bytes=b:=by
 cases hi:P.info? t with
 | none=>rw [hi] at h;cases h
 | some i=>rw [hi] at h;simp at h;exact⟨i,rfl,h.1,h.2.1,h.2.2⟩
theorem info_sh3:(Tryz.prog.info? 23).map (fun i=>(i.zero,i.size,i.bytes))=some (some (.agg #[.int .i64 0,.int .i64 0,.int .i64 0]),3,24):=by kernel_rfl
theorem own_new3 (w:World) (base:Nat) (hb:base≤w.heap.size) (t:Tri):(w.alloc (.cells #[.int .i64 t.1,.int .i64 t.2.1,.int .i64 t.2.2] 23)).ownsRow base 23 3 (.slice (some ⟨w.heap.size,0,none⟩) 1 1) 1 (tvV [t]) :=
 ⟨rfl,.inr ⟨w.heap.size,1,_,rfl,hb,heap_alloc_new w _,le_refl _,by unfold maxLen;omega,rfl,rfl⟩⟩
def ThrPost (X:Nat→Nd) (t0:Tri) (n:Nat) (w:World) (e:Ending) (w':World):Prop :=
 ((∃ k z,zbq X t0 n=some (k,z)∧e=.returned (.tuple #[.slice none 0 0,.int .i64 (k:Int),.int .i64 z])) ∨
   (zbq X t0 n=none∧∃ v,e=.returned (.tuple #[v,.int .i64 (n:Int),.int .i64 0])∧w'.ownsRow w.heap.size 23 3 v (n+1) (tvV (shL X t0 n))))∧Below w.heap.size w w'
theorem rd_new1 (w:World) (o:Obj) (cs:List Value) (T:TypeId):Kit.Rd ((w.alloc o).alloc (.cells cs.toArray T)) (w.heap.size+2) (some ⟨w.heap.size+1,0,none⟩) cs:=by
 have h:Kit.Rd ((w.alloc o).alloc (.cells cs.toArray T)) ((w.alloc o).heap.size+1) (some ⟨(w.alloc o).heap.size,0,none⟩) cs:=Kit.Rd.new _ _ _ (lt_succ_self _)
 have e:(w.alloc o).heap.size=w.heap.size+1:=by simp
 rw [e] at h;exact h
theorem node_small {w:World} {B:Nat} {x:Nd} (h:NdOk w B x):x.Small:=⟨h.z,h.q.2.2.2.2.2.2,h.q.2.2.2.2.1,h.q.2.2.2.2.2.1⟩
theorem through_to (X:Nat→Nd) (t0:Tri) (n c:Nat) (hn:n≤50) (A:Option Addr) (w:World) (hT:zan w) (hX:∀ j,j < n→(X j).Small) (hA:NodesAt w w.heap.size A n X) :
  Calls Tryz.prog 43 #[.slice A n c,.agg #[.int .i64 t0.1,.int .i64 t0.2.1,.int .i64 t0.2.2],.func (.func 44) #[] #[]] w (ThrPost X t0 n w):=by
 have HT:=hid hT
 have HX:=hid hX
 have HA:=hid hA
 obtain⟨i0,hi0,hi1,hi2,hi3⟩:=info_parts info_sh3
 have hO:=own_new3 (w.alloc (.cells #[.int .i64 t0.1,.int .i64 t0.2.1,.int .i64 t0.2.2] 23)) w.heap.size (by simp) t0
 rw [World.size_alloc] at hO
 have HO0:=hid hO
 have HB0:=hid (((Below.refl w.heap.size w).alloc (le_refl _) (.cells #[.int .i64 t0.1,.int .i64 t0.2.1,.int .i64 t0.2.2] 23)).alloc (by simp) (.cells #[.int .i64 t0.1,.int .i64 t0.2.1,.int .i64 t0.2.2] 23))
 clear hT hX hA hO
 go_enter Tryz.func43,Tryz.ntmps43
 go_wp2_with fail
 generalize (w.alloc (.cells #[.int .i64 t0.1,.int .i64 t0.2.1,.int .i64 t0.2.2] 23)).alloc (.cells #[.int .i64 t0.1,.int .i64 t0.2.1,.int .i64 t0.2.2] 23)=W0 at HO0 HB0 ⊢
 go_loopw [9,18] (fun v u wr=>∃ k:Nat,k≤n∧u=.int .i64 k∧Hid (zbq X t0 k=none)∧Hid (wr.ownsRow w.heap.size 23 3 v (k+1) (tvV (shL X t0 k)))∧Hid (Below w.heap.size w wr)) (fun _ u _=>n - (intOf u).toNat)
 case atStart=>exact⟨0,Nat.zero_le _,rfl,hid rfl,HO0,HB0⟩
 case round =>
  obtain⟨k,hk,rfl,hst,HO,HB⟩:=hrel
  clear HO0 HB0
  by_cases hlt:k < n
  ·obtain⟨Av,cv,rfl, -, -,hrd⟩:=Kit.own_rd HO.out
   obtain⟨ba,oa,rfl,hba,hra⟩:=(HA.out.below HB.out) k hlt
   have k0:(0:Int)≤(k:Int):=by omega
   have k1:(k:Int) < (n:Int):=by omega
   have HRA:=hid hra
   obtain⟨z,hz⟩:∃ z,stopZ (X k) (shL X t0 k)=z:=⟨_,rfl⟩
   have hcn:∀ wx:World,Below wr.heap.size wr wx→Calls Tryz.prog 44 #[.slice Av (k+1) cv,.agg (X k).val] wx fun r w'=>∃ u:Tri,r=.returned (.tuple #[.agg #[.int .i64 u.1,.int .i64 u.2.1,.int .i64 u.2.2],.int .i64 z])∧(z=0→u=nextT (X k) (shL X t0 k))∧Below wx.heap.size wx w':=by
    intro wx hb
    have h:=next_to (X k) (HX.out k hlt) (shL X t0 k) (k+1) cv (shL_len X t0 k) (by omega) Av wx (HT.out.below (HB.out.trans (hb.mono HB.out.size)) HT.out.size) ((hrd.below hb).more hb.size)
    unfold NextPost at h
    rw [hz] at h
    exact h
   have CN:=hid hcn
   have HZ:=hid hz
   clear hcn hz hrd hra hba
   by_cases hz0:z=0
   ·subst hz0
    have hgo:=stopAt_go hst.out HZ.out
    have HGO:=hid hgo
    clear hgo
    go_wp2_with (first
     | (refine zbm rfl _ rfl ba (oa+k * 19) (X k) rfl HRA.out ?_)
     | (refine za2 rfl _ _ rfl wr.heap.size nd0 (X k) rfl rfl (NdBox.new nd0 _ wr) ?_
        intro w1 hbx hbl hsz
        have HBX:=hid hbx
        have hh:Below wr.heap.size wr w1:=((Below.refl _ _).alloc (le_refl _) _).trans hbl
        have HB1:=hid (HB.out.trans (hh.mono HB.out.size))
        have HH:=hid hh
        have HO1:=hid (Kit.own_below HO.out hh)
        clear hbx hbl hsz hh)
     | (refine zac rfl _ rfl wr.heap.size (X k) rfl HBX.out.1 ?_)
     | (go_at_call 44
        refine (CN.out _ HH.out).mono ?_
        rintro e w2 ⟨u,rfl,hu,hb⟩
        have hue:=hu rfl
        have HUE:=hid hue
        have HB2:=hid (HB1.out.trans (hb.mono HB1.out.size))
        have HO2:=hid (Kit.own_below HO1.out hb)
        clear hu hue hb)
     | (at_builtin
        refine Kit.za3 _ rfl (.tmp 34) (.tmp 36) _ rfl w.heap.size 23 i0 (.agg #[.int .i64 0,.int .i64 0,.int .i64 0]) 3 24 Tryz.underlying99 hi0 hi1 hi2 hi3 rfl (by decide) _ (k+1) (tvV (shL X t0 k)) rfl ((HO2.out.alloc _).alloc _) _ _ 1 1 [.int .i64 u.1,.int .i64 u.2.1,.int .i64 u.2.2] rfl rfl (rd_new1 _ _ _ _) (Kit.zb6 .i64 [u.1,u.2.1,u.2.2]) (by unfold maxLen;omega) (by omega) (by have:=HB2.out.size;simp;omega) ?_
        intro v3 w3 hown3 hg3 hat3
        have hB3:Below w.heap.size w w3:=((HB2.out.alloc HB2.out.size _).alloc (by have:=HB2.out.size;simp;omega) _).grown hg3 (by have:=HB2.out.size;simp;omega) (fun q hq=>Kit.zbd HO2.out q hq)
        have e:tvV (shL X t0 k) ++ [.int .i64 u.1,.int .i64 u.2.1,.int .i64 u.2.2]=tvV (shL X t0 (k+1)):=by rw [shL,tvV_append, ← HUE.out];rfl
        rw [e] at hown3
        have HO3:=hid hown3
        have HB3:=hid hB3
        clear hown3 hg3 hat3 hB3 e))
    go_roundw
    case rel=>exact⟨k+1,by omega,by go_num,HGO,HO3,HB3⟩
    case measure=>simp [intOf];omega
   ·have hz1:(z != 0)=true:=by simpa using hz0
    have hend:=stopAt_end hlt hst.out (by rw [HZ.out];exact hz0)
    rw [HZ.out] at hend
    have HEND:=hid hend
    clear hend
    go_wp2_with (first
     | (refine zbm rfl _ rfl ba (oa+k * 19) (X k) rfl HRA.out ?_)
     | (refine za2 rfl _ _ rfl wr.heap.size nd0 (X k) rfl rfl (NdBox.new nd0 _ wr) ?_
        intro w1 hbx hbl hsz
        have HBX:=hid hbx
        have hh:Below wr.heap.size wr w1:=((Below.refl _ _).alloc (le_refl _) _).trans hbl
        have HB1:=hid (HB.out.trans (hh.mono HB.out.size))
        have HH:=hid hh
        clear hbx hbl hsz hh)
     | (refine zac rfl _ rfl wr.heap.size (X k) rfl HBX.out.1 ?_)
     | (go_at_call 44
        refine (CN.out _ HH.out).mono ?_
        rintro e w2 ⟨u,rfl,hu,hb⟩
        have HB2:=hid (HB1.out.trans (hb.mono HB1.out.size))
        clear hu hb))
    go_ret3
    exact⟨.inl ⟨k,z,HEND.out,rfl⟩,HB2.out.alloc HB2.out.size _⟩
  ·obtain rfl:k=n:=by omega
   go_wp2_with fail
   go_ret3
   exact⟨.inr ⟨hst.out,_,rfl,HO.out⟩,HB.out⟩
end CGraph
end
section
namespace CJoin
open Plain CSat CFix CShape CTensor CConv
def NBd (Z Y m1 z1 m2 z2 lo hi:Int):Prop:=(-128≤Z∧Z≤127)∧(-128≤Y∧Y≤127)∧(-2147483648≤m1∧m1≤2147483647)∧(-128≤z1∧z1≤127)∧(-2147483648≤m2∧m2≤2147483647)∧(-128≤z2∧z2≤127)∧(-128≤lo∧lo≤127)∧(-128≤hi∧hi≤127)
def oneZ (x y Z Y m1 s1 z1 m2 s2 lo hi:Int):Int :=
 if (za0 m1 s1 && za0 m2 s2)=true then zbt (zbb ((x - Z) * m1) s1.toNat+zbb ((y - Y) * m2) s2.toNat+z1) lo hi else 0
theorem clampZ_bd (v lo hi:Int) (hl1 : -128≤lo) (hl2:lo≤127) (hh1 : -128≤hi) (hh2:hi≤127) : -128≤zbt v lo hi∧zbt v lo hi≤127:=by
 unfold zbt;split <;> (try split) <;> omega
theorem rightB_yes {m s:Int} (h:za0 m s=true):0 < m∧0≤s∧s≤62:=by simpa [za0] using h
theorem jclamp_to (v lo hi r:Int) (h:zbt v lo hi=r) (hl1 : -128≤lo) (hl2:lo≤127) (hh1 : -128≤hi) (hh2:hi≤127) (w:World) :
  Calls Tryz.prog 93 #[.int .i64 v,.int .i8 lo,.int .i8 hi] w fun e w'=>e=.returned (.int .i8 r)∧w=w':=by
 subst h
 by_cases h1:v < lo
 ·go_enter Tryz.func93,Tryz.ntmps93
  go_wp2
  go_ret
  exact⟨zbr (by exact clampZ_lo (by omega)),rfl⟩
 ·by_cases h2:v > hi
  ·go_enter Tryz.func93,Tryz.ntmps93
   go_wp2
   go_ret
   exact⟨zbr (by exact clampZ_hi (by omega) (by omega)),rfl⟩
  ·go_enter Tryz.func93,Tryz.ntmps93
   go_wp2
   go_ret
   exact⟨zbr (by exact clampZ_in (by omega) (by omega)),rfl⟩
theorem term_abs {x Z m:Int} (hx1 : -128≤x) (hx2:x≤127) (hz1 : -128≤Z) (hz2:Z≤127) (hm1:0 < m) (hm2:m≤2147483647) : -547608329985≤(x - Z) * m∧(x - Z) * m≤547608329985:=by
 have h1:(x - Z) * m≤255 * 2147483647:=by
  by_cases h:0≤x - Z
  ·exact Int.mul_le_mul (by omega) (by omega) (by omega) (by omega)
  ·exact Int.le_trans (Int.mul_nonpos_of_nonpos_of_nonneg (by omega) (by omega)) (by omega)
 have h2:(Z - x) * m≤255 * 2147483647:=by
  by_cases h:0≤Z - x
  ·exact Int.mul_le_mul (by omega) (by omega) (by omega) (by omega)
  ·exact Int.le_trans (Int.mul_nonpos_of_nonpos_of_nonneg (by omega) (by omega)) (by omega)
 have h3:(Z - x) * m = -((x - Z) * m):=by rw [← Int.neg_mul];congr 1;omega
 omega
theorem round_term {x Z m s:Int} (hx1 : -128≤x) (hx2:x≤127) (hz1 : -128≤Z) (hz2:Z≤127) (hm2:m≤2147483647) (h:za0 m s=true) : -547608329985≤zbb ((x - Z) * m) s.toNat∧zbb ((x - Z) * m) s.toNat≤547608329985:=by
 obtain⟨h1,h2,h3⟩:=rightB_yes h
 obtain⟨b1,b2⟩:=term_abs hx1 hx2 hz1 hz2 h1 hm2
 have:=round_abs ((x - Z) * m) s.toNat (by omega) (by omega) (by omega)
 omega
theorem scaled_to (x Z m s z t:Int) (hx1 : -128≤x) (hx2:x≤127) (hz1 : -128≤Z) (hz2:Z≤127) (hm2:m≤2147483647) (h:za0 m s=true) (ht:zbb ((x - Z) * m) s.toNat=t) (w:World) :
  Calls Tryz.prog 94 #[.int .i8 x,.int .i8 Z,.agg #[.int .i32 m,.int .i64 s,.int .i8 z]] w fun e w'=>e=.returned (.int .i64 t)∧Below w.heap.size w w':=by
 obtain⟨h1,h2,h3⟩:=rightB_yes h
 obtain⟨y,hy⟩:∃ y,x - Z=y:=⟨_,rfl⟩
 have hw:IntKind.i32.wrap (x - Z)=y:=by rw [IntWalk.i32_in _ (by omega),hy]
 have e1:IntKind.i32.wrap x=x:=IntWalk.i32_in _ (by omega)
 have e2:IntKind.i32.wrap Z=Z:=IntWalk.i32_in _ (by omega)
 have y1 : -2147483648≤y:=by omega
 have y2:y≤2147483647:=by omega
 have m1 : -2147483648≤m:=by omega
 rw [hy] at ht
 have HT:=hid ht
 clear hy ht h
 go_enter Tryz.func94,Tryz.ntmps94
 go_wp2_with (go_at_call 101;refine (scale_int y m s t h2 h3 y1 y2 m1 hm2 HT.out _).mono ?_;rintro e w' ⟨rfl,rfl⟩)
 go_ret
 exact⟨rfl,(Below.refl _ _).alloc (le_refl _) _⟩
theorem zb9 (m s z:Int) (w:World):Calls Tryz.prog 74 #[.agg #[.int .i32 m,.int .i64 s,.int .i8 z]] w fun e w'=>e=.returned (.bool (za0 m s))∧Below w.heap.size w w':=by
 cases h:za0 m s
 ·exact isRight_no m s z h w
 ·exact isRight_yes m s z h w
theorem zbo (m s z:Int) (w:World):Calls Tryz.prog 36 #[.agg #[.int .i32 m,.int .i64 s,.int .i8 z]] w fun e w'=>e=.returned (.bool (za0 m s))∧Below w.heap.size w w':=by
 cases h:za0 m s
 ·exact refRight_no m s z h w
 ·exact refRight_yes m s z h w
theorem scales_to (x0 x1 x2:Value) (K S P O Z Y:Int) (WA BA:Option Addr) (nW cW nB cB:Nat) (m1 s1 z1 m2 s2 z2 lo hi:Int) (w:World) :
  Calls Tryz.prog 92 #[.agg #[x0,x1,x2,.int .i64 K,.int .i64 S,.int .i64 P,.int .i64 O,.int .i8 Z,.int .i8 Y,.slice WA nW cW,.slice BA nB cB,.int .i32 m1,.int .i64 s1,.int .i8 z1,.int .i32 m2,.int .i64 s2,.int .i8 z2,.int .i8 lo,.int .i8 hi]] w fun e w'=>e=.returned (.bool (za0 m1 s1 && za0 m2 s2))∧Below w.heap.size w w':=by
 cases h1:za0 m1 s1 <;> cases h2:za0 m2 s2
 ·have H1:=hid h1
  have H2:=hid h2
  clear h1 h2
  go_enter Tryz.func92,Tryz.ntmps92
  go_wp2_with (first
   | (go_at_call 74
      have hal:Below w.heap.size w (w.alloc (.cells #[x0,x1,x2,.int .i64 K,.int .i64 S,.int .i64 P,.int .i64 O,.int .i8 Z,.int .i8 Y,.slice WA nW cW,.slice BA nB cB,.int .i32 m1,.int .i64 s1,.int .i8 z1,.int .i32 m2,.int .i64 s2,.int .i8 z2,.int .i8 lo,.int .i8 hi] 61)):=(Below.refl _ _).alloc (by first | exact le_refl _ | (simp;done) | (simp;omega)) _
      refine (zb9 _ _ _ _).mono ?_
      rintro e w1 ⟨rfl,hb⟩
      have hh:Below w.heap.size w w1:=hal.trans (hb.mono hal.size)
      have qTN:=(zay.new x0 x1 x2 (.int .i8 Y) (.int .i32 m1) (.int .i64 s1) (.int .i8 z1) (.int .i32 m2) (.int .i64 s2) (.int .i8 z2) (.int .i8 lo) (.int .i8 hi) K S P O Z WA BA nW cW nB cB 61) w
      try simp only [World.size_alloc] at qTN
      have TN:=hid (qTN.below (by first | (simp;done) | (simp;omega)) hb)
      have yTN:w.heap.size < w1.heap.size:=by have:=hb.size;simp at this;omega
      clear qTN
      have HBW:Hid (Below w.heap.size w w1):=hid hh
      rw [H1.out]
      have n14:=TN.out.at 14 _ rfl
      have n15:=TN.out.at 15 _ rfl
      have n16:=TN.out.at 16 _ rfl
      clear hb hh hal))
  go_ret
  exact⟨rfl,HBW.out⟩
 ·have H1:=hid h1
  have H2:=hid h2
  clear h1 h2
  go_enter Tryz.func92,Tryz.ntmps92
  go_wp2_with (first
   | (go_at_call 74
      have hal:Below w.heap.size w (w.alloc (.cells #[x0,x1,x2,.int .i64 K,.int .i64 S,.int .i64 P,.int .i64 O,.int .i8 Z,.int .i8 Y,.slice WA nW cW,.slice BA nB cB,.int .i32 m1,.int .i64 s1,.int .i8 z1,.int .i32 m2,.int .i64 s2,.int .i8 z2,.int .i8 lo,.int .i8 hi] 61)):=(Below.refl _ _).alloc (by first | exact le_refl _ | (simp;done) | (simp;omega)) _
      refine (zb9 _ _ _ _).mono ?_
      rintro e w1 ⟨rfl,hb⟩
      have hh:Below w.heap.size w w1:=hal.trans (hb.mono hal.size)
      have qTN:=(zay.new x0 x1 x2 (.int .i8 Y) (.int .i32 m1) (.int .i64 s1) (.int .i8 z1) (.int .i32 m2) (.int .i64 s2) (.int .i8 z2) (.int .i8 lo) (.int .i8 hi) K S P O Z WA BA nW cW nB cB 61) w
      try simp only [World.size_alloc] at qTN
      have TN:=hid (qTN.below (by first | (simp;done) | (simp;omega)) hb)
      have yTN:w.heap.size < w1.heap.size:=by have:=hb.size;simp at this;omega
      clear qTN
      have HBW:Hid (Below w.heap.size w w1):=hid hh
      rw [H1.out]
      have n14:=TN.out.at 14 _ rfl
      have n15:=TN.out.at 15 _ rfl
      have n16:=TN.out.at 16 _ rfl
      clear hb hh hal))
  go_ret
  exact⟨rfl,HBW.out⟩
 ·have H1:=hid h1
  have H2:=hid h2
  clear h1 h2
  go_enter Tryz.func92,Tryz.ntmps92
  go_wp2_with (first
   | (go_at_call 74
      have hal:Below w.heap.size w (w.alloc (.cells #[x0,x1,x2,.int .i64 K,.int .i64 S,.int .i64 P,.int .i64 O,.int .i8 Z,.int .i8 Y,.slice WA nW cW,.slice BA nB cB,.int .i32 m1,.int .i64 s1,.int .i8 z1,.int .i32 m2,.int .i64 s2,.int .i8 z2,.int .i8 lo,.int .i8 hi] 61)):=(Below.refl _ _).alloc (by first | exact le_refl _ | (simp;done) | (simp;omega)) _
      refine (zb9 _ _ _ _).mono ?_
      rintro e w1 ⟨rfl,hb⟩
      have hh:Below w.heap.size w w1:=hal.trans (hb.mono hal.size)
      have qTN:=(zay.new x0 x1 x2 (.int .i8 Y) (.int .i32 m1) (.int .i64 s1) (.int .i8 z1) (.int .i32 m2) (.int .i64 s2) (.int .i8 z2) (.int .i8 lo) (.int .i8 hi) K S P O Z WA BA nW cW nB cB 61) w
      try simp only [World.size_alloc] at qTN
      have TN:=hid (qTN.below (by first | (simp;done) | (simp;omega)) hb)
      have yTN:w.heap.size < w1.heap.size:=by have:=hb.size;simp at this;omega
      clear qTN
      have HBW:Hid (Below w.heap.size w w1):=hid hh
      rw [H1.out]
      have n14:=TN.out.at 14 _ rfl
      have n15:=TN.out.at 15 _ rfl
      have n16:=TN.out.at 16 _ rfl
      clear hb hh hal)
   | (go_at_call 74
      have hal:Below w1.heap.size w1 w1:=Below.refl _ _
      refine (zb9 _ _ _ _).mono ?_
      rintro e w2 ⟨rfl,hb⟩
      have hh:Below w1.heap.size w1 w2:=hal.trans (hb.mono hal.size)
      replace TN:=hid (TN.out.below yTN hh)
      replace yTN:=Nat.lt_of_lt_of_le yTN hh.size
      replace HBW:=hid (HBW.out.trans (hh.mono HBW.out.size))
      clear n14 n15 n16
      rw [H2.out]
      have n14:=TN.out.at 14 _ rfl
      have n15:=TN.out.at 15 _ rfl
      have n16:=TN.out.at 16 _ rfl
      clear hb hh hal))
  go_ret
  exact⟨rfl,HBW.out⟩
 ·have H1:=hid h1
  have H2:=hid h2
  clear h1 h2
  go_enter Tryz.func92,Tryz.ntmps92
  go_wp2_with (first
   | (go_at_call 74
      have hal:Below w.heap.size w (w.alloc (.cells #[x0,x1,x2,.int .i64 K,.int .i64 S,.int .i64 P,.int .i64 O,.int .i8 Z,.int .i8 Y,.slice WA nW cW,.slice BA nB cB,.int .i32 m1,.int .i64 s1,.int .i8 z1,.int .i32 m2,.int .i64 s2,.int .i8 z2,.int .i8 lo,.int .i8 hi] 61)):=(Below.refl _ _).alloc (by first | exact le_refl _ | (simp;done) | (simp;omega)) _
      refine (zb9 _ _ _ _).mono ?_
      rintro e w1 ⟨rfl,hb⟩
      have hh:Below w.heap.size w w1:=hal.trans (hb.mono hal.size)
      have qTN:=(zay.new x0 x1 x2 (.int .i8 Y) (.int .i32 m1) (.int .i64 s1) (.int .i8 z1) (.int .i32 m2) (.int .i64 s2) (.int .i8 z2) (.int .i8 lo) (.int .i8 hi) K S P O Z WA BA nW cW nB cB 61) w
      try simp only [World.size_alloc] at qTN
      have TN:=hid (qTN.below (by first | (simp;done) | (simp;omega)) hb)
      have yTN:w.heap.size < w1.heap.size:=by have:=hb.size;simp at this;omega
      clear qTN
      have HBW:Hid (Below w.heap.size w w1):=hid hh
      rw [H1.out]
      have n14:=TN.out.at 14 _ rfl
      have n15:=TN.out.at 15 _ rfl
      have n16:=TN.out.at 16 _ rfl
      clear hb hh hal)
   | (go_at_call 74
      have hal:Below w1.heap.size w1 w1:=Below.refl _ _
      refine (zb9 _ _ _ _).mono ?_
      rintro e w2 ⟨rfl,hb⟩
      have hh:Below w1.heap.size w1 w2:=hal.trans (hb.mono hal.size)
      replace TN:=hid (TN.out.below yTN hh)
      replace yTN:=Nat.lt_of_lt_of_le yTN hh.size
      replace HBW:=hid (HBW.out.trans (hh.mono HBW.out.size))
      clear n14 n15 n16
      rw [H2.out]
      have n14:=TN.out.at 14 _ rfl
      have n15:=TN.out.at 15 _ rfl
      have n16:=TN.out.at 16 _ rfl
      clear hb hh hal))
  go_ret
  exact⟨rfl,HBW.out⟩
end CJoin
end
end Go.Proofs.YtoffcaldhojjoaaGreatDoor
