/- Texts of this seat, one behind the other: WheelAdded, WheelAddY, OpenNode. -/
import Derived.Deep.CutRange
import Derived.Test.YtkpngknbiecdiaaGreatDoorGB10
import Derived.Test.YtkpngknbiecdiaaGreatDoorGB12
section
namespace Go.Proofs.YtkpngknbiecdiaaGreatDoor.CWheel
open Go Go.ChangeShapes Go.WideShapes Go.ChangeAt Go.RowKit
open FloatNum CFour
set_option linter.unusedVariables false
abbrev I64v (zs:List Int):List Value:=zs.map (.int .i64)
def nums (F:Nat→Int) (n:Nat):List Int:=(List.range n).map F
theorem nums_len (F:Nat→Int) (n:Nat):(nums F n).length=n:=by simp [nums]
theorem nums_succ (F:Nat→Int) (n:Nat):nums F (n+1)=nums F n ++ [F n]:=by simp [nums,List.range_succ]
theorem nums_at (F:Nat→Int) {n i:Nat} (h:i < n):(nums F n)[i]?=some (F i):=by simp [nums,h]
theorem nums_getD (F:Nat→Int) {n i:Nat} (h:i < n):(nums F n).getD i 0=F i:=by rw [List.getD_eq_getElem?_getD,nums_at F h];rfl
def Own64 (w:World) (n:Nat) (zs:List Int) (e:Ending) (w':World):Prop :=
 ∃ v,e=.returned v∧w'.ownsRow w.heap.size 2 1 v n (I64v zs)∧Below w.heap.size w w'
theorem own_nil (w:World) (base:Nat) (e:TypeId) (size:Nat):w.ownsRow base e size (.slice none 0 0) 0 []:=⟨by simp,.inl ⟨rfl,rfl⟩⟩
theorem info_i64:(Tryz.prog.info? 2).map (fun i=>(i.zero,i.size,i.bytes))=some (some (.int .i64 0),1,8):=by kernel_rfl
theorem info_c4:(Tryz.prog.info? 179).map (fun i=>(i.zero,i.size,i.bytes))=some (some (.agg #[z0,z0,z0,z0]),4,64):=by kernel_rfl
theorem info_parts {T:Nat} {z:Value} {a b:Nat} (h:(Tryz.prog.info? T).map (fun i=>(i.zero,i.size,i.bytes))=some (some z,a,b)):∃ i,Tryz.prog.info? T=some i∧i.zero=some z∧i.size=a∧i.bytes=b:=by
 obtain⟨i,hi,h2⟩:=Option.map_eq_some_iff.1 h
 simp only [Prod.mk.injEq] at h2
 exact⟨i,hi,h2.1,h2.2.1,h2.2.2⟩
def WF (W:Nat→Nat→Int) (k:Nat) (F:List Value):Prop :=
 F.length=k * 4∧(∀ u∈F,u.oneCell'=true)∧∀ j,j < k→∃ S:Nat→Value,(∀ i,i < 4→IsC (S i) (wh4 (W j 0) 0 (W j 2) (W j 1) i))∧∀ i,i < 4→F[j * 4+i]?=some (S i)
theorem WF.start (W:Nat→Nat→Int):WF W 0 []:=⟨rfl,by simp,fun j hj=>by omega⟩
theorem WF.step {W:Nat→Nat→Int} {k:Nat} {F:List Value} (h:WF W k F) {S:Nat→Value} (hS:∀ i,i < 4→IsC (S i) (wh4 (W k 0) 0 (W k 2) (W k 1) i)):WF W (k+1) (F ++ [S 0,S 1,S 2,S 3]):=by
 obtain⟨h1,h2,h3⟩:=h
 refine⟨by simp [h1];omega,fun u hu=>?_,fun j hj=>?_⟩
 ·rcases List.mem_append.1 hu with h | h
  ·exact h2 u h
  ·have:=oneC hS
   simp at this
   simp at h
   rcases h with rfl | rfl | rfl | rfl
   ·exact this.1
   ·exact this.2.1
   ·exact this.2.2.1
   ·exact this.2.2.2
 ·rcases Nat.lt_or_ge j k with hjk | hjk
  ·obtain⟨S',a,b⟩:=h3 j hjk
   refine⟨S',a,fun i hi=>?_⟩
   rw [List.getElem?_append_left (by rw [h1];omega)]
   exact b i hi
  ·obtain rfl:j=k:=by omega
   refine⟨S,hS,fun i hi=>?_⟩
   rw [List.getElem?_append_right (by rw [h1];omega),h1,show j * 4+i - j * 4=i by omega]
   obtain rfl | rfl | rfl | rfl:=lt4 hi <;> rfl
def WhAt (w:World) (g n:Nat) (W:Nat→Nat→Int):Prop :=
 g < w.heap.size∧∀ k,k < n→∃ S:Nat→Value,(∀ i,i < 4→IsC (S i) (wh4 (W k 0) 0 (W k 2) (W k 1) i))∧w.rangeAt g (0+k * 4) [S 0,S 1,S 2,S 3]
theorem WhAt.wheels {w:World} {g n:Nat} {W:Nat→Nat→Int} (h:WhAt w g n W):Wheels w w.heap.size (some ⟨g,0,none⟩) n W:=fun k hk=>by
 obtain⟨S,a,b⟩:=h.2 k hk
 exact⟨g,0,S,rfl,h.1,a,b⟩
theorem WhAt.of {w:World} {g n B:Nat} {W:Nat→Nat→Int} {F:List Value} (hF:WF W n F) (hr:Kit.Rd w B (some ⟨g,0,none⟩) F) (hg:g < w.heap.size):WhAt w g n W:=⟨hg,fun k hk=>by
 obtain⟨S,a,b⟩:=hF.2.2 k hk
 refine⟨S,a,fun j v hj=>?_⟩
 have hj4:j < 4:=by
  rcases Nat.lt_or_ge j 4 with h | h
  ·exact h
  ·rw [List.getElem?_eq_none (by simpa using h)] at hj;cases hj
 obtain⟨ad,e,_,hc⟩:=hr (k * 4+j) (S j) (b j hj4)
 cases e
 rw [Go.WideShapes.add_plain] at hc
 rw [show 0+k * 4+j=0+(k * 4+j) by omega,hc]
 obtain rfl | rfl | rfl | rfl:=lt4 hj4 <;> simpa using hj⟩
theorem WhAt.grown {w w':World} {g n:Nat} {W:Nat→Nat→Int} {r:Option Nat} (h:WhAt w g n W) (hg:w.grownBy w' r) (hr:r≠some g):WhAt w' g n W:=by
 refine⟨Nat.lt_of_lt_of_le h.1 hg.size,fun k hk=>?_⟩
 obtain⟨S,a,b⟩:=h.2 k hk
 refine⟨S,a,fun j v hj=>?_⟩
 exact hg.cell (b j v hj) (fun e=>hr e.symm)
theorem WhAt.below {w w':World} {B g n:Nat} {W:Nat→Nat→Int} (h:WhAt w g n W) (hb:Below B w w') (hB:g < B):WhAt w' g n W:=by
 refine⟨Nat.lt_of_lt_of_le h.1 hb.size,fun k hk=>?_⟩
 obtain⟨S,a,b⟩:=h.2 k hk
 exact⟨S,a,range_below b hb hB⟩
theorem added_short (A:Option Addr) (rows:List (List Int)) (n cA:Nat) (WA:Value) (L:Nat) (hn:rows.length=n) (h1:1≤n) (hL:∀ row∈rows,row.length=L) (hl:L < 3) (w:World) (hr:Kit.RowsAt w w.heap.size .i16 A rows) :
  Calls Tryz.prog 122 #[.slice A n cA,WA] w fun e' w'=>e'=.returned (.slice none 0 0)∧w=w':=by
 obtain⟨ba,oa,Ak,m,ck,rfl,hba,hca,hm1,hm2,hm3,hrd⟩:=hr.row (i:=0) (by omega)
 have hmL:m=L:=by rw [← hm1];exact hL _ (List.getElem_mem _)
 subst hmL
 have k1:(0:Int) < (n:Int):=by omega
 have k2:IntKind.i64.wrap ((m:Int) - 3)=(m:Int) - 3:=IntWalk.i64_in _ (by omega)
 have k3:IntKind.i64.wrap ((m:Int) - 3+1)=(m:Int) - 3+1:=IntWalk.i64_in _ (by omega)
 have k4:(m:Int) - 3+1 < 1:=by omega
 rw [Nat.add_zero] at hca
 clear hrd hm1 hm2 hL hr hn hl hm3
 go_enter Tryz.func122,Tryz.ntmps122
 go_wp2
 refine Kit.wp_scope_once 0 rfl ?_
 go_wp2
 go_step3
 refine⟨rfl,?_⟩
 go_wp2
 rw [Exit.noGoto_ret]
 go_ret
 exact⟨rfl,rfl⟩
end Go.Proofs.YtkpngknbiecdiaaGreatDoor.CWheel
end
section
namespace Go.Proofs.YtkpngknbiecdiaaGreatDoor.CWheel
open Go Go.ChangeShapes Go.WideShapes Go.ChangeAt Go.RowKit
open FloatNum CFour
set_option linter.unusedVariables false
def Three (g:Nat) (a b c:Value) (w:World):Prop:=w.cell? ⟨g,0,none⟩=some a∧w.cell? ⟨g,1,none⟩=some b∧w.cell? ⟨g,2,none⟩=some c∧g < w.heap.size
def set3 (g:Nat) (a b c:Value) (w:World):World:=((w.setCell ⟨g,0,none⟩ a).setCell ⟨g,1,none⟩ b).setCell ⟨g,2,none⟩ c
theorem there3 (w:World) (v:Value) (T:TypeId):(w.alloc (.cells #[v,v,v] T)).there w.heap.size 0 3:=fun j hj=>by
 rw [Nat.zero_add]
 rcases j with _ | _ | _ | j
 ·exact⟨by go_cell,by go_cell⟩
 ·exact⟨by go_cell,by go_cell⟩
 ·exact⟨by go_cell,by go_cell⟩
 ·omega
theorem Three.new (w:World) (v a b c:Value) (T:TypeId):Three w.heap.size a b c (set3 w.heap.size a b c (w.alloc (.cells #[v,v,v] T))):=by
 have h:=there3 w v T
 unfold set3
 refine⟨?_,?_,?_,by simp⟩
 ·rw [World.cell?_setCell_other _ _ _ _ (by intro q;cases q),World.cell?_setCell_other _ _ _ _ (by intro q;cases q)]
  exact World.cell?_setCell_same' _ _ _ (h 0 (by omega)).1
 ·rw [World.cell?_setCell_other _ _ _ _ (by intro q;cases q)]
  refine World.cell?_setCell_same' _ _ _ ?_
  rw [World.cell?_setCell_other _ _ _ _ (by intro q;cases q)];exact (h 1 (by omega)).1
 ·refine World.cell?_setCell_same' _ _ _ ?_
  rw [World.cell?_setCell_other _ _ _ _ (by intro q;cases q),World.cell?_setCell_other _ _ _ _ (by intro q;cases q)];exact (h 2 (by omega)).1
theorem below_set3 {B g:Nat} {a w:World} (h:Below B a w) (hg:B≤g) (x y z:Value):Below B a (set3 g x y z w):=((h.setCell (p:=⟨g,0,none⟩) hg x).setCell (p:=⟨g,1,none⟩) hg y).setCell (p:=⟨g,2,none⟩) hg z
theorem one3 (a b c:Int):(#[Value.int .i8 a,.int .i8 b,.int .i8 c].all (·.oneCell'))=true :=
 all_oneCell_toArray (cs:=[Value.int .i8 a,.int .i8 b,.int .i8 c]) (by intro v hv;simp at hv;rcases hv with rfl | rfl | rfl <;> rfl)
theorem one2 (a b:Int):(#[Value.int .i64 a,.int .i64 b].all (·.oneCell'))=true :=
 all_oneCell_toArray (cs:=[Value.int .i64 a,.int .i64 b]) (by intro v hv;simp at hv;rcases hv with rfl | rfl <;> rfl)
theorem oneL {S:Nat→Value} {p:Nat→G} (h:∀ i,i < 4→IsC (S i) (p i)):∀ u∈[S 0,S 1,S 2,S 3],u.oneCell'=true:=by
 have:=oneC h
 simp at this
 intro u hu
 simp at hu
 rcases hu with rfl | rfl | rfl | rfl
 ·exact this.1
 ·exact this.2.1
 ·exact this.2.2.1
 ·exact this.2.2.2
theorem Two.rd {g:Nat} {a b:Value} {w:World} (h:Two g a b w):Kit.Rd w w.heap.size (some ⟨g,0,none⟩) [a,b]:=fun j v hj=>by
 refine⟨_,rfl,h.2.2.2,?_⟩
 rw [Go.WideShapes.add_plain]
 match j,hj with
 | 0,hj=>simpa [← hj] using h.1
 | 1,hj=>simpa [← hj] using h.2.1
theorem own_block_sums {w:World} {e:TypeId} {g c n:Nat} {xs:List Value} (h:w.ownsRow g e 1 (.slice (some ⟨g,0,none⟩) n c) n xs):g < w.heap.size:=Kit.block_lt_of_own h
set_option maxRecDepth 100000 in
set_option maxHeartbeats 8000000 in
theorem added_yes (A:Option Addr) (rows:List (List Int)) (n cA:Nat) (AW:Option Addr) (cW:Nat) (W:Nat→Nat→Int) (L m:Nat) (hn:rows.length=n) (h1:1≤n) (hN:n≤1024) (hL:∀ row∈rows,row.length=L) (hm:m+2=L) (hm1:1≤m) (hL6:L≤1000000)
  (hX:∀ k i,In16 (XR rows k i)) (hW:∀ k i,InW (W k i)) (F:Nat→Int) (hF:F=mnAt (XR rows) W n) (w:World) (hr:Kit.RowsAt w w.heap.size .i16 A rows) (hw:Wts w w.heap.size AW n W) :
  Calls Tryz.prog 122 #[.slice A n cA,.slice AW n cW] w (Own64 w m (nums F m)):=by
 obtain⟨ba,oa,Ak,m0,ck,rfl,hba,hca,e1,e2,e3,hrd⟩:=hr.row (i:=0) (by omega)
 have hmL:m0=L:=by rw [← e1];exact hL _ (List.getElem_mem _)
 subst hmL
 have k1:(0:Int) < (n:Int):=by omega
 have k2:IntKind.i64.wrap ((m0:Int) - 3)=(m0:Int) - 3:=IntWalk.i64_in _ (by omega)
 have k3:IntKind.i64.wrap ((m0:Int) - 3+1)=(m:Int):=by rw [IntWalk.i64_in _ (by omega)];omega
 have k4:¬ (m:Int) < 1:=by omega
 have hm6:m≤1000000:=by omega
 rw [Nat.add_zero] at hca
 have HN:=Lib.hid hn
 have HL:=Lib.hid hL
 have HXX:=Lib.hid hX
 have HWW:=Lib.hid hW
 have HR:=Lib.hid hr
 have HW:=Lib.hid hw
 have HCA:=Lib.hid hca
 have HMM:=Lib.hid hm
 have HFF:=Lib.hid hF
 obtain⟨i0,hi0,hi1,hi2,hi3⟩:=info_parts info_i64
 obtain⟨i4,hj0,hj1,hj2,hj3⟩:=info_parts info_c4
 have HI:=Lib.hid (And.intro hi0 (And.intro hi1 (And.intro hi2 hi3)))
 have HJ:=Lib.hid (And.intro hj0 (And.intro hj1 (And.intro hj2 hj3)))
 clear hrd e1 hL hr hn e3 hX hW hw hm hF hi0 hi1 hi2 hi3 hj0 hj1 hj2 hj3
 go_enter Tryz.func122,Tryz.ntmps122
 go_wp2
 refine Kit.wp_scope_once 0 rfl ?_
 go_upto_region 6 with (at_make;refine wpList_make_own _ rfl _ _ 110 rfl w.heap.size 2 i0 (.int .i64 0) 1 Tryz.underlying110 HI.out.1 HI.out.2.1 HI.out.2.2.1 _ _ _ m rfl rfl (by omega) (by rw [HI.out.2.2.2];omega) (by unfold maxLen;omega) (Nat.le_refl _) ?_;intro w1 hown1 hg1)
 have HO1:=Lib.hid hown1
 have hlt1:w.heap.size < w1.heap.size:=own_block_sums hown1
 have HB1:Hid (Below w.heap.size w w1):=Lib.hid ((Below.refl w.heap.size w).grown hg1 (Nat.le_refl _) (fun q hq=>by cases hq))
 clear hown1 hg1 hca
 go_wp2_with fail
 go_loopw [6,24] (fun v u wr=>∃ (k:Nat) (Fl:List Value),k≤n∧u=.int .i64 k∧Hid (WF W k Fl)∧Hid (wr.ownsRow (w.heap.size+1) 179 4 v k Fl)∧Hid (wr.ownsRow w.heap.size 2 1 (.slice (some ⟨w.heap.size,0,none⟩) 0 m) 0 (I64v (nums F 0)))∧Hid (Below w.heap.size w wr)) (fun _ u _=>n - (intOf u).toNat)
 case atStart=>exact⟨0,[],Nat.zero_le _,rfl,Lib.hid (WF.start W),Lib.hid (own_nil _ _ _ _),HO1,HB1⟩
 case round =>
  clear HO1 HB1 hlt1
  obtain⟨k,Fl,hk,rfl,HF,HO,HS,HB⟩:=hrel
  by_cases hlt:k < n
  ·have hkI:(k:Int) < (n:Int):=by omega
   have hk0:(0:Int)≤(k:Int):=by omega
   obtain⟨bw,ow,rfl,hbw,hcw⟩:=HW.out k hlt
   have HRW:=Lib.hid (range_below hcw HB.out hbw)
   have hz0:w.heap.size < wr.heap.size:=own_block_sums HS.out
   have HZ0:=Lib.hid hz0
   have hx0:=HWW.out k 0
   have hx1:=HWW.out k 1
   have hx2:=HWW.out k 2
   generalize hq0:W k 0=x0 at hx0 HRW
   generalize hq1:W k 1=x1 at hx1 HRW
   generalize hq2:W k 2=x2 at hx2 HRW
   have HQ:=Lib.hid (And.intro hq0 (And.intro hq1 hq2))
   have HXI:=Lib.hid (And.intro hx0 (And.intro hx1 hx2))
   clear hcw hq0 hq1 hq2 hx0 hx1 hx2
   go_upto_region 9 with (first
    | (refine wpList_load_mid rfl 154 (.tmp 26) rfl bw (ow+k * 3) rfl [.int .i8 x0,.int .i8 x1,.int .i8 x2] _ HRW.out Tryz.underlying154 rfl (by kernel_rfl) ?_)
    | (refine wpList_store_mid rfl 154 (.tmp 9) (.tmp 27) rfl wr.heap.size 0 #[.int .i8 x0,.int .i8 x1,.int .i8 x2] rfl rfl (there3 wr (.int .i8 0) 154) (by kernel_rfl) (one3 _ _ _) ?_;change wpList _ _ _ _ _ (set3 wr.heap.size (.int .i8 x0) (.int .i8 x1) (.int .i8 x2) (wr.alloc (.cells #[.int .i8 0,.int .i8 0,.int .i8 0] 154)))))
   have hal:Below wr.heap.size wr (set3 wr.heap.size (.int .i8 x0) (.int .i8 x1) (.int .i8 x2) (wr.alloc (.cells #[.int .i8 0,.int .i8 0,.int .i8 0] 154))):=below_set3 ((Below.refl wr.heap.size wr).alloc (Nat.le_refl _) (.cells #[.int .i8 0,.int .i8 0,.int .i8 0] 154)) (Nat.le_refl _) _ _ _
   obtain⟨c0,c1,c2,hg3⟩:=Three.new wr (.int .i8 0) (.int .i8 x0) (.int .i8 x1) (.int .i8 x2) 154
   replace HO:=Lib.hid (Kit.own_below HO.out hal)
   replace HS:=Lib.hid (Kit.own_below HS.out hal)
   replace HB:=Lib.hid (HB.out.trans (hal.mono HB.out.size))
   generalize set3 wr.heap.size (.int .i8 x0) (.int .i8 x1) (.int .i8 x2) (wr.alloc (.cells #[.int .i8 0,.int .i8 0,.int .i8 0] 154))=w2 at c0 c1 c2 hg3 HO HS HB ⊢
   clear hal HRW hz0
   go_wp2_with (first
    | (go_at_call 144;refine (rolled_to x0 x1 x2 HXI.out.1 HXI.out.2.1 HXI.out.2.2 _).mono ?_;rintro e w3' ⟨⟨S,rfl,hS⟩,hb⟩;have HSS:=Lib.hid hS;replace HO:=Lib.hid (Kit.own_below HO.out hb);replace HS:=Lib.hid (Kit.own_below HS.out hb);replace HB:=Lib.hid (HB.out.trans (hb.mono HB.out.size));clear hb hS)
    | (at_builtin;refine Kit.wpList_append_rd _ rfl (.tmp 28) (.tmp 31) _ rfl (w.heap.size+1) 179 i4 (.agg #[z0,z0,z0,z0]) 4 64 Tryz.underlying177 HJ.out.1 HJ.out.2.1 HJ.out.2.2.1 HJ.out.2.2.2 rfl (by decide) _ k Fl rfl (Kit.own_below HO.out ((Below.refl _ _).alloc (Nat.le_refl _) _)) _ _ 1 1 [S 0,S 1,S 2,S 3] rfl rfl (Kit.Rd.new _ _ _ (Nat.lt_succ_self _)) ?_ ?_ ?_ ?_ ?_;(exact oneL HSS.out);(unfold maxLen;omega);(omega);(have:=own_block_sums HS.out;simp;omega);intro v2 w4 hown2 hg2 hat2;have hS4:=(Kit.own_below HS.out ((Below.refl w3'.heap.size w3').alloc (Nat.le_refl _) (.cells #[S 0,S 1,S 2,S 3] 179))).kept hg2 (.inr (fun e=>absurd (Kit.own_block_ge HO.out w.heap.size e.symm) (Nat.not_succ_le_self _)));have hB4:Below w.heap.size w w4:=(HB.out.alloc HB.out.size _).grown hg2 (by have:=HB.out.size;simp;omega) (fun q hq=>by have:=Kit.own_block_ge HO.out q hq;omega);have HF2:=Lib.hid (HF.out.step (S:=S) (by rw [HQ.out.1,HQ.out.2.1,HQ.out.2.2];exact HSS.out));have HO4:=Lib.hid hown2;have HS4:=Lib.hid hS4;have HB4:=Lib.hid hB4;clear hS4 hB4 hown2 hg2 hat2 c0 c1 c2 hg3))
   go_roundw
   case rel=>exact⟨k+1,_,by omega,by go_num,HF2,HO4,HS4,HB4⟩
   case measure=>simp [intOf];omega
  ·obtain rfl:k=n:=by omega
   obtain⟨gW,capW,rfl,hgW,hc1,hc2,hrw⟩:=Kit.own_form HO.out (by omega)
   have hwa:=WhAt.of HF.out hrw (Kit.block_lt_of_own HO.out)
   have HWA:=Lib.hid hwa
   have hnw:¬ w.heap.size=gW:=by omega
   have hca:=(HB.out.cell (p:=⟨ba,oa,none⟩) hba).trans HCA.out
   obtain⟨Bn,hBn⟩:∃ Bn,(m0 - 1) / 2=Bn:=⟨_,rfl⟩
   have hBi:(Bn:Int)=if (m0:Int) < 3 then 0 else ((m0:Int) - 1) / 2:=by have:=HMM.out;rw [if_neg (by omega)];omega
   have HBI:=Lib.hid hBi
   have hBb:2 * Bn≤m+1∧m≤2 * Bn:=by have:=HMM.out;omega
   have HBN:=Lib.hid hBb
   clear hrw hwa hBi HF HO hBn hBb hc1 hc2
   go_wp2_with (go_at_call 145;refine (blocks_to (m0:Int) (by omega) (by omega) (Bn:Int) HBI.out _).mono ?_;rintro e w2 ⟨rfl,rfl⟩)
   clear hca
   go_loopw [5,39] (fun v u wx=>∃ (b s:Nat),b≤Bn∧u=.int .i64 b∧s=min (b * 2) m∧Hid (wx.ownsRow w.heap.size 2 1 v s (I64v (nums F s)))∧Hid (WhAt wx gW k W)∧Hid (v.ownBlock≠some gW)∧Hid (Below w.heap.size w wx)) (fun _ u _=>Bn - (intOf u).toNat)
   case atStart=>exact⟨0,0,Nat.zero_le _,rfl,by simp,HS,HWA,Lib.hid (fun e=>hnw (Option.some.inj e)),HB⟩
   case round =>
    clear HS HWA HB
    obtain⟨b,s,hb,rfl,hs,HO,HWA,HNE,HB⟩:=hrel
    have hB2:=HBN.out
    by_cases hlt2:b < Bn
    ·obtain⟨f,hf⟩:∃ f,b * 2=f:=⟨_,rfl⟩
     obtain rfl:s=f:=by omega
     have k5:IntKind.i64.wrap ((b:Int) * 2)=(s:Int):=by rw [IntWalk.i64_in _ (by omega)];omega
     have k6:(b:Int) < (Bn:Int):=by omega
     have hsm:s < m:=by omega
     obtain⟨As,cs,rfl,hs1,hs2,hs3⟩:=Kit.own_rd HO.out
     obtain⟨y0,hy0⟩:∃ y,F s=y:=⟨_,rfl⟩
     obtain⟨y1,hy1⟩:∃ y,F (s+1)=y:=⟨_,rfl⟩
     have HY0:=Lib.hid hy0
     have HY1:=Lib.hid hy1
     have HSB:=Lib.hid (And.intro hf hs)
     have HFM:Hid (s+3≤m0):=Lib.hid (by have:=HMM.out;omega)
     clear hs3 hy0 hy1 hf hs
     go_upto_region 15 with (first
      | (go_at_call 147;refine (turned_to (some ⟨ba,oa,none⟩) rows k cA (some ⟨gW,0,none⟩) capW W m0 s HN.out hN HL.out HFM.out HXX.out HWW.out _ ((HR.out.below HB.out).more HB.out.size) HWA.out.wheels).mono ?_;rintro e w2 ⟨⟨S,p,rfl,hS,hT⟩,hbb⟩;have HSS:=Lib.hid hS;have HTT:=Lib.hid hT;replace HO:=Lib.hid (Kit.own_below HO.out hbb);replace HWA:=Lib.hid (HWA.out.below hbb HWA.out.1);replace HB:=Lib.hid (HB.out.trans (hbb.mono HB.out.size));clear hbb hS hT)
      | (go_at_call 146;refine (unrolled_to S p (k * 134217728) (by omega) HSS.out HTT.out.bound _ HTT.out.back y0 y1 (by rw [← HY0.out,HFF.out];rfl) (by rw [← HY1.out,HFF.out];rfl) _).mono ?_;rintro e w3' ⟨rfl,hbb⟩;replace HO:=Lib.hid (Kit.own_below HO.out hbb);replace HWA:=Lib.hid (HWA.out.below hbb HWA.out.1);replace HB:=Lib.hid (HB.out.trans (hbb.mono HB.out.size));clear hbb)
      | (refine wpList_store_mid rfl 181 (.tmp 11) (.tmp 47) rfl w3'.heap.size 0 #[.int .i64 y0,.int .i64 y1] rfl rfl (Two.new w3' (.int .i64 0) (.int .i64 0) 181).there (by kernel_rfl) (one2 _ _) ?_;change wpList _ _ _ _ _ (CFour.set2 w3'.heap.size (.int .i64 y0) (.int .i64 y1) (w3'.alloc (.cells #[.int .i64 0,.int .i64 0] 181)))))
     have hal:Below w3'.heap.size w3' (CFour.set2 w3'.heap.size (.int .i64 y0) (.int .i64 y1) (w3'.alloc (.cells #[.int .i64 0,.int .i64 0] 181))):=below_set2 ((Below.refl w3'.heap.size w3').alloc (Nat.le_refl _) (.cells #[.int .i64 0,.int .i64 0] 181)) (Nat.le_refl _) _ _
     have h181:=(Two.new w3' (.int .i64 0) (.int .i64 0) 181).set2 (.int .i64 y0) (.int .i64 y1)
     replace HO:=Lib.hid (Kit.own_below HO.out hal)
     replace HWA:=Lib.hid (HWA.out.below hal HWA.out.1)
     replace HB:=Lib.hid (HB.out.trans (hal.mono HB.out.size))
     generalize CFour.set2 w3'.heap.size (.int .i64 y0) (.int .i64 y1) (w3'.alloc (.cells #[.int .i64 0,.int .i64 0] 181))=w4 at h181 HO HWA HB ⊢
     have H181:=Lib.hid (Two.rd h181)
     clear hal h181
     by_cases h2:s+2≤m
     ·have q1:IntKind.i64.wrap ((m:Int) - (s:Int))=(m:Int) - (s:Int):=IntWalk.i64_in _ (by omega)
      have q2:(2:Int)≤(m:Int) - (s:Int):=by omega
      have q3:¬ (m:Int) - (s:Int) < 2:=by omega
      go_wp2_with (at_builtin;refine Kit.wpList_append_rd _ rfl (.tmp 48) (.tmp 54) _ rfl w.heap.size 2 i0 (.int .i64 0) 1 8 Tryz.underlying110 HI.out.1 HI.out.2.1 HI.out.2.2.1 HI.out.2.2.2 rfl (by decide) _ s (I64v (nums F s)) rfl HO.out _ _ 2 2 [.int .i64 y0,.int .i64 y1] rfl rfl H181.out ?_ ?_ ?_ ?_ ?_;(exact (Kit.ints_one .i64 [y0,y1]));(unfold maxLen;omega);(omega);(exact HB.out.size);intro v2 w5 hown2 hg2 hat2)
      have hne2:v2.ownBlock≠some gW:=by
       rcases hat2 with h | h
       ·rw [h];exact HNE.out
       ·rw [h];intro e;have:=HWA.out.1;have e2:=Option.some.inj e;omega
      have HWA5:=Lib.hid (HWA.out.grown hg2 HNE.out)
      have HB5:Hid (Below w.heap.size w w5):=Lib.hid (HB.out.grown hg2 HB.out.size (fun q hq=>Kit.own_block_ge HO.out q hq))
      have e5:I64v (nums F s) ++ [.int .i64 y0,.int .i64 y1]=I64v (nums F (s+2)):=by rw [show s+2=s+1+1 from rfl];simp only [nums_succ,List.map_append,List.append_assoc];rw [HY0.out,HY1.out];rfl
      rw [e5] at hown2
      have HO5:=Lib.hid hown2
      have HNE5:=Lib.hid hne2
      clear hown2 hg2 hat2 hne2 e5
      go_roundw
      case rel=>exact⟨b+1,s+2,by omega,by go_num,by have:=HSB.out;omega,HO5,HWA5,HNE5,HB5⟩
      case measure=>simp [intOf];omega
     ·have q1:IntKind.i64.wrap ((m:Int) - (s:Int))=1:=by rw [IntWalk.i64_in _ (by omega)];omega
      go_wp2_with (at_builtin;refine Kit.wpList_append_rd _ rfl (.tmp 48) (.tmp 54) _ rfl w.heap.size 2 i0 (.int .i64 0) 1 8 Tryz.underlying110 HI.out.1 HI.out.2.1 HI.out.2.2.1 HI.out.2.2.2 rfl (by decide) _ s (I64v (nums F s)) rfl HO.out _ _ 1 2 [.int .i64 y0] rfl rfl (H181.out.take 1) ?_ ?_ ?_ ?_ ?_;(exact (Kit.ints_one .i64 [y0]));(unfold maxLen;omega);(omega);(exact HB.out.size);intro v2 w5 hown2 hg2 hat2)
      have hne2:v2.ownBlock≠some gW:=by
       rcases hat2 with h | h
       ·rw [h];exact HNE.out
       ·rw [h];intro e;have:=HWA.out.1;have e2:=Option.some.inj e;omega
      have HWA5:=Lib.hid (HWA.out.grown hg2 HNE.out)
      have HB5:Hid (Below w.heap.size w w5):=Lib.hid (HB.out.grown hg2 HB.out.size (fun q hq=>Kit.own_block_ge HO.out q hq))
      have e5:I64v (nums F s) ++ [.int .i64 y0]=I64v (nums F (s+1)):=by rw [nums_succ,HY0.out];show _=(nums F s ++ [y0]).map _;rw [List.map_append];rfl
      rw [e5] at hown2
      have HO5:=Lib.hid hown2
      have HNE5:=Lib.hid hne2
      clear hown2 hg2 hat2 hne2 e5
      go_roundw
      case rel=>exact⟨b+1,s+1,by omega,by go_num,by have:=HSB.out;omega,HO5,HWA5,HNE5,HB5⟩
      case measure=>simp [intOf];omega
    ·obtain rfl:b=Bn:=by omega
     obtain rfl:s=m:=by omega
     obtain⟨As,cs,rfl, -, -, -⟩:=Kit.own_rd HO.out
     go_wp2
     go_step3
     go_wp2
     go_ret
     exact⟨_,rfl,HO.out,HB.out⟩
end Go.Proofs.YtkpngknbiecdiaaGreatDoor.CWheel
end
section
namespace Go.Proofs.YtkpngknbiecdiaaGreatDoor.Kit
open Go Go.ChangeShapes Go.WideShapes Go.ChangeAt Go.RowKit Go.Deep
set_option linter.unusedVariables false
section
variable {H:Type} {enc:TypeId × Value→H} {P:Program} {w:World} {base b0:Nat} {spare:Nat→Bool} {held:Bool} {r:Reach}
theorem size_19 {cs:Array Value} (h:cs.size=19):∃ a0 a1 a2 a3 a4 a5 a6 a7 a8 a9 a10 a11 a12 a13 a14 a15 a16 a17 a18,cs=#[a0,a1,a2,a3,a4,a5,a6,a7,a8,a9,a10,a11,a12,a13,a14,a15,a16,a17,a18]:=by
 obtain⟨l⟩:=cs
 match l,h with
 | [a0,a1,a2,a3,a4,a5,a6,a7,a8,a9,a10,a11,a12,a13,a14,a15,a16,a17,a18],_=>exact⟨a0,a1,a2,a3,a4,a5,a6,a7,a8,a9,a10,a11,a12,a13,a14,a15,a16,a17,a18,rfl⟩
theorem trod_islice_n {d e:TypeId} {k:IntKind} {c3:Value} {n:Nat} {x:DataW H × List MemPlace} (hd:P.underlying d=some (.slice e)) (he:P.underlying e=some (.int k)) (hce:P.cellsOf e=1) (h1:DataW.trod enc P w base spare held n d [c3]=some x) :
  ∃ (A:Option Addr) (zs:List Int) (c:Nat),c3=.slice A zs.length c∧zs.length≤c∧c≤maxLen∧(∀ n∈zs,(Lit.int k n).wf=true)∧Rd w w.heap.size A (zs.map (.int k)):=by
 obtain⟨a3,len,cap,e3⟩:=Go.Joins.slice_form hd h1
 simp at e3
 subst e3
 rcases open_ints hd he hce h1 with ⟨hcs,_⟩ | ⟨a,len',cap',zs,hcs,_,hl,hm,hz,_,hcell,hwz⟩
 ·simp at hcs
  obtain⟨rfl,rfl,rfl⟩:=hcs
  exact⟨none,[],0,rfl,by simp,by simp,by simp,Rd.nil⟩
 ·simp at hcs
  obtain⟨rfl,rfl,rfl⟩:=hcs
  have hlz:len≤zs.length:=by rw [hz];split <;> omega
  refine⟨some a,zs.take len,cap,?_,?_,hm,fun n hn=>hwz n (List.mem_of_mem_take hn),fun j u hu=>?_⟩
  ·rw [List.length_take,Nat.min_eq_left hlz]
  ·rw [List.length_take,Nat.min_eq_left hlz];exact hl
  ·rw [List.getElem?_map,List.getElem?_take] at hu
   split at hu
   ·rename_i hj
    have hjz:j < zs.length:=by omega
    rw [List.getElem?_eq_getElem hjz] at hu
    simp only [Option.map_some,Option.some.injEq] at hu
    subst hu
    have h9:=hcell j hjz
    rw [List.getD_eq_getElem?_getD,List.getElem?_eq_getElem hjz,Option.getD_some] at h9
    exact⟨a,rfl,by have:=block_lt h9;rwa [add_block] at this,h9⟩
   ·simp at hu
theorem open_node {t i b8 d e d2 e2:TypeId} {fs:Array Field} {f3 f4 f5 f6 f7 f9 f10:Field} {v:Value} {D:DataW H} {ps:List MemPlace}
  (ht:P.underlying t=some (.struct fs)) (hct:P.cellsOf t=19) (hi:P.underlying i=some (.int .i64)) (hci:P.cellsOf i=1) (hb:P.underlying b8=some (.int .i8)) (hcb:P.cellsOf b8=1)
  (hd:P.underlying d=some (.slice e)) (he:P.underlying e=some (.int .i8)) (hce:P.cellsOf e=1) (hcd:P.cellsOf d=1) (hd2:P.underlying d2=some (.slice e2)) (he2:P.underlying e2=some (.int .i32)) (hce2:P.cellsOf e2=1) (hcd2:P.cellsOf d2=1)
  (q3:fs[3]?=some f3) (q4:fs[4]?=some f4) (q5:fs[5]?=some f5) (q6:fs[6]?=some f6) (q7:fs[7]?=some f7) (q9:fs[9]?=some f9) (q10:fs[10]?=some f10)
  (o3:f3.type=i∧f3.offset=3) (o4:f4.type=i∧f4.offset=4) (o5:f5.type=i∧f5.offset=5) (o6:f6.type=i∧f6.offset=6) (o7:f7.type=b8∧f7.offset=7) (o9:f9.type=d∧f9.offset=9) (o10:f10.type=d2∧f10.offset=10)
  (hv:Value.okWide P w r b0 t v) (h:DataW.Trod enc P w base spare held t v D ps) :
  ∃ (a0 a1 a2 a8 a11 a12 a13 a14 a15 a16 a17 a18:Value) (K S Q O Z:Int) (A:Option Addr) (ws:List Int) (c:Nat) (B:Option Addr) (bs:List Int) (c2:Nat),
   v=.agg #[a0,a1,a2,.int .i64 K,.int .i64 S,.int .i64 Q,.int .i64 O,.int .i8 Z,a8,.slice A ws.length c,.slice B bs.length c2,a11,a12,a13,a14,a15,a16,a17,a18]∧(Lit.int .i8 Z).wf=true ∧
   ws.length≤c∧c≤maxLen∧(∀ n∈ws,(Lit.int .i8 n).wf=true)∧Rd w w.heap.size A (ws.map (.int .i8)) ∧
   bs.length≤c2∧c2≤maxLen∧(∀ n∈bs,(Lit.int .i32 n).wf=true)∧Rd w w.heap.size B (bs.map (.int .i32)):=by
 obtain⟨cs,rfl,hsz⟩:=okWide_struct ht hv
 rw [hct] at hsz
 obtain⟨a0,a1,a2,a3,a4,a5,a6,a7,a8,a9,a10,a11,a12,a13,a14,a15,a16,a17,a18,rfl⟩:=size_19 hsz
 obtain⟨fuel,hfu⟩:=h
 obtain⟨xs,n,_,_,_,hlen,hx⟩:=DataW.trod_struct ht hfu
 have hl:∀ (j:Nat) (f:Field),fs[j]?=some f→j < xs.length:=fun j f hj=>by rw [hlen];exact (Array.getElem?_eq_some_iff.1 hj).1
 have g3:=hx 3 f3 q3
 rw [o3.1,o3.2,hci,List.getElem?_eq_getElem (hl 3 f3 q3)] at g3
 rw [show ((Value.agg #[a0,a1,a2,a3,a4,a5,a6,a7,a8,a9,a10,a11,a12,a13,a14,a15,a16,a17,a18]).cells.toList.drop 3).take 1=[a3] from rfl] at g3
 have g4:=hx 4 f4 q4
 rw [o4.1,o4.2,hci,List.getElem?_eq_getElem (hl 4 f4 q4)] at g4
 rw [show ((Value.agg #[a0,a1,a2,a3,a4,a5,a6,a7,a8,a9,a10,a11,a12,a13,a14,a15,a16,a17,a18]).cells.toList.drop 4).take 1=[a4] from rfl] at g4
 have g5:=hx 5 f5 q5
 rw [o5.1,o5.2,hci,List.getElem?_eq_getElem (hl 5 f5 q5)] at g5
 rw [show ((Value.agg #[a0,a1,a2,a3,a4,a5,a6,a7,a8,a9,a10,a11,a12,a13,a14,a15,a16,a17,a18]).cells.toList.drop 5).take 1=[a5] from rfl] at g5
 have g6:=hx 6 f6 q6
 rw [o6.1,o6.2,hci,List.getElem?_eq_getElem (hl 6 f6 q6)] at g6
 rw [show ((Value.agg #[a0,a1,a2,a3,a4,a5,a6,a7,a8,a9,a10,a11,a12,a13,a14,a15,a16,a17,a18]).cells.toList.drop 6).take 1=[a6] from rfl] at g6
 have g7:=hx 7 f7 q7
 rw [o7.1,o7.2,hcb,List.getElem?_eq_getElem (hl 7 f7 q7)] at g7
 rw [show ((Value.agg #[a0,a1,a2,a3,a4,a5,a6,a7,a8,a9,a10,a11,a12,a13,a14,a15,a16,a17,a18]).cells.toList.drop 7).take 1=[a7] from rfl] at g7
 have g9:=hx 9 f9 q9
 rw [o9.1,o9.2,hcd,List.getElem?_eq_getElem (hl 9 f9 q9)] at g9
 rw [show ((Value.agg #[a0,a1,a2,a3,a4,a5,a6,a7,a8,a9,a10,a11,a12,a13,a14,a15,a16,a17,a18]).cells.toList.drop 9).take 1=[a9] from rfl] at g9
 have g10:=hx 10 f10 q10
 rw [o10.1,o10.2,hcd2,List.getElem?_eq_getElem (hl 10 f10 q10)] at g10
 rw [show ((Value.agg #[a0,a1,a2,a3,a4,a5,a6,a7,a8,a9,a10,a11,a12,a13,a14,a15,a16,a17,a18]).cells.toList.drop 10).take 1=[a10] from rfl] at g10
 obtain⟨K,eK,_,_⟩:=DataW.trod_int hi g3
 obtain⟨S,eS,_,_⟩:=DataW.trod_int hi g4
 obtain⟨Q,eQ,_,_⟩:=DataW.trod_int hi g5
 obtain⟨O,eO,_,_⟩:=DataW.trod_int hi g6
 obtain⟨Z,eZ,_,wZ⟩:=DataW.trod_int hb g7
 simp at eK eS eQ eO eZ
 subst eK eS eQ eO eZ
 obtain⟨A,ws,c,rfl,p1,p2,p3,p4⟩:=trod_islice_n hd he hce g9
 obtain⟨B,bs,c2,rfl,p5,p6,p7,p8⟩:=trod_islice_n hd2 he2 hce2 g10
 exact⟨a0,a1,a2,a8,a11,a12,a13,a14,a15,a16,a17,a18,K,S,Q,O,Z,A,ws,c,B,bs,c2,rfl,wZ,p1,p2,p3,p4,p5,p6,p7,p8⟩
end
end Go.Proofs.YtkpngknbiecdiaaGreatDoor.Kit
end
