/- -/
import Derived.Test.YtchpdhhpkljdhaaGreatDoorGD26
open Go.Value renaming int→Jj
open Go.IntKind renaming i64→Jq
open Go.Lib (hid)
open Nat (le_refl lt_of_succ_lt lt_succ_self)
set_option linter.unusedVariables false
set_option linter.unusedSimpArgs false
set_option maxRecDepth 100000
set_option maxHeartbeats 16000000
namespace Go.Proofs.YtchpdhhpkljdhaaGreatDoor
namespace CConv
end CConv
namespace CSat
end CSat
open Go Go.ChangeShapes Go.WideShapes Go.ChangeAt Go.RowKit Go.Deep
section
namespace CKind
open Plain CSat CShape CTensor CConv
theorem refMore_to (x:Nd):MoreIs x:=by
 by_cases h0:x.kd < 1∨9 < x.kd
 ·exact more_o x h0
 ·have:x.kd=1∨x.kd=2∨x.kd=3∨x.kd=4∨x.kd=5∨x.kd=6∨x.kd=7∨x.kd=8∨x.kd=9:=by omega
  rcases this with h | h | h | h | h | h | h | h | h
  ·exact more_1 x h
  ·exact more_2 x h
  ·exact more_3 x h
  ·exact more_4 x h
  ·exact more_5 x h
  ·exact more_6 x h
  ·exact more_7 x h
  ·exact more_8 x h
  ·exact more_9 x h
end CKind
end
section
namespace CKind
open Plain CSat CFix CShape CTensor CConv
def kname (k:Int):ByteArray :=
 if k=1 then ⟨#[99,111,110,118]⟩ else if k=2 then ⟨#[100,101,112,116,104]⟩ else if k=3 then ⟨#[100,101,110,115,101]⟩ else if k=4 then ⟨#[109,97,120,112,111,111,108]⟩ else if k=5 then ⟨#[97,118,103,112,111,111,108]⟩ else if k=6 then ⟨#[106,111,105,110]⟩ else if k=7 then ⟨#[97,99,116]⟩ else if k=8 then ⟨#[112,97,100]⟩ else if k=9 then ⟨#[102,108,97,116]⟩ else ⟨#[]⟩
theorem kname_no {k:Int} (h:k < 1∨9 < k):kname k=⟨#[]⟩:=by
 unfold kname
 simp only [show ¬ k=1 by omega,show ¬ k=2 by omega,show ¬ k=3 by omega,show ¬ k=4 by omega,show ¬ k=5 by omega,show ¬ k=6 by omega,show ¬ k=7 by omega,show ¬ k=8 by omega,show ¬ k=9 by omega,if_false]
theorem refName_to (k:Int) (w:World):Calls Tryz.prog 61 #[Jj Jq k] w fun e w'=>e=.returned (.string (kname k))∧Below w.heap.size w w':=by
 by_cases h:k < 0∨9 < k
 ·have HK:=hid (kname_no (k:=k) Zb3)
  rcases h with h | h
  all_goals
   go_enter Tryz.func61,Tryz.ntmps61
   go_wp2_with fail
   go_ret
   exact⟨by rw [HK.out];rfl,(Below.refl _ _).alloc (le_refl _) _⟩
 ·have:k=0∨k=1∨k=2∨k=3∨k=4∨k=5∨k=6∨k=7∨k=8∨k=9:=by omega
  clear h
  rcases this with rfl | rfl | rfl | rfl | rfl | rfl | rfl | rfl | rfl | rfl
  all_goals
   go_enter Tryz.func61,Tryz.ntmps61
   go_wp2_with fail
   exact Z1a
def zbv (w:World):Prop:=∀ n:Nat,n < 10→w.cell? ⟨0,n,none⟩=some (.string (kname n))
theorem zbv.size {w:World} (h:zbv w):0 < w.heap.size:=by
 have h0:=h 0 Zbc
 unfold World.cell? at h0
 rcases Nat.lt_or_ge 0 w.heap.size with hlt | hge
 ·exact hlt
 ·rw [show w.heap[(⟨0,0,none⟩:Addr).block]?=none from Array.getElem?_eq_none hge] at h0
  cases h0
theorem zbv.below {w w':World} {n:Nat} (h:zbv w) (hb:Below n w w') (hn:0 < n):zbv w':=fun j hj=>(hb.cell (p:=⟨0,j,none⟩) hn).trans (h j hj)
theorem zbv.grown {w w':World} (h:zbv w) (hb:Below w.heap.size w w'):zbv w':=h.below hb h.size
theorem name_to (k:Int) (w:World) (hT:zbv w):Calls Tryz.prog 92 #[Jj Jq k] w fun e w'=>e=.returned (.string (kname k))∧w=w':=by
 by_cases h:k < 0∨9 < k
 ·have HK:=hid (kname_no (k:=k) Zb3)
  rcases h with h | h
  ·go_enter Tryz.func92,Tryz.ntmps92
   go_wp2_with fail
   go_ret
   exact⟨by rw [HK.out];rfl,rfl⟩
  ·have h2:¬ k < 0:=by omega
   have h3:(10:Int)≤k:=by omega
   go_enter Tryz.func92,Tryz.ntmps92
   go_wp2_with fail
   go_ret
   exact⟨by rw [HK.out];rfl,rfl⟩
 ·obtain⟨n,rfl⟩:∃ n:Nat,k=(n:Int):=⟨k.toNat,by omega⟩
  have h9:n < 10:=by omega
  have hc:=hT n h9
  obtain⟨s,hs⟩:∃ s,kname (n:Int)=s:=⟨_,rfl⟩
  rw [hs] at hc ⊢
  have h0:¬ (n:Int) < 0:=by omega
  have h10:¬ (10:Int)≤(n:Int):=by omega
  have h11:(n:Int) < 10:=by omega
  clear hs hT h
  go_enter Tryz.func92,Tryz.ntmps92
  exact Z1f
def knownB (k:Int):Bool:=decide (1≤k∧k≤9)
theorem kname_ne (k:Int):(kname k).toList.isEmpty = !knownB k:=by
 rw [ByteArray.toList_eq]
 by_cases h:k < 1∨9 < k
 ·rw [kname_no h,show knownB k=false from decide_eq_false Zb3];decide
 ·exact Z2d
theorem known_to (k:Int) (w:World) (hT:zbv w):Calls Tryz.prog 38 #[Jj Jq k] w fun e w'=>e=.returned (.bool (knownB k))∧w=w':=by
 have HN:=hid (name_to k w hT)
 have hne:=kname_ne k
 clear hT
 obtain⟨s,hs⟩:∃ s,kname k=s:=⟨_,rfl⟩
 rw [hs] at HN hne
 clear hs
 cases hb:knownB k
 all_goals
  rw [hb] at hne
  simp only [Bool.not_false,Bool.not_true] at hne
  clear hb
  go_enter Tryz.func38,Tryz.ntmps38
  go_wp2_with (go_at_call 92;(with_reducible refine HN.out.mono ?_);rintro e w1 ⟨rfl,rfl⟩)
  go_ret
  exact⟨rfl,rfl⟩
theorem sums_to (k:Int) (w:World):Calls Tryz.prog 94 #[Jj Jq k] w fun e w'=>e=.returned (.bool (sumsB k))∧w=w':=by
 go_enter Tryz.func94,Tryz.ntmps94
 go_wp2_with fail
 all_goals go_ret
 all_goals exact⟨by simp_all [sumsB],rfl⟩
theorem scaled_to (k:Int) (w:World):Calls Tryz.prog 41 #[Jj Jq k] w fun e w'=>e=.returned (.bool (zaf k))∧w=w':=by
 have HS:=hid (sums_to k)
 obtain⟨b,hb⟩:∃ b,sumsB k=b:=⟨_,rfl⟩
 have HZ:Hid (zaf k=(b || k == 6 || k == 7)):=hid (by rw [← hb];rfl)
 rw [hb] at HS
 clear hb
 cases b
 all_goals
  go_enter Tryz.func41,Tryz.ntmps41
  go_wp2_with (go_at_call 94;(with_reducible refine (HS.out _).mono ?_);rintro e w1 ⟨rfl,rfl⟩)
  all_goals go_ret
  all_goals exact⟨by rw [HZ.out];simp_all,rfl⟩
end CKind
end
section
namespace CConv
open Go Go.ChangeShapes Go.WideShapes Go.ChangeAt Go.RowKit
open Plain CSat CShape CTensor
theorem own_cells {w:World} {base:Nat} {e:TypeId} {n:Nat} {v:Value} {xs:List Value} (h:w.ownsRow base e 1 v n xs) (hn:0 < n) :
  ∃ g cap,v=.slice (some ⟨g,0,none⟩) n cap∧base≤g∧g < w.heap.size∧n≤cap∧cap≤maxLen∧(∀ j u,xs[j]?=some u→w.cell? ⟨g,j,none⟩=some u)∧(∀ j,w.frozen? ⟨g,j,none⟩=false):=by
 rcases h.2 with ⟨_,h0⟩ | ⟨g,cap,cur,rfl,hb,hh,hnc,hcm,hs,ht⟩
 ·omega
 ·refine⟨g,cap,rfl,hb,(Array.getElem?_eq_some_iff.1 hh).1,hnc,hcm,fun j u hu=>?_,fun j=>?_⟩
  ·rw [← ht] at hu
   unfold World.cell?
   rw [hh]
   have hj:j < n * 1:=by
    rcases Nat.lt_or_ge j (n * 1) with hlt | hge
    ·exact hlt
    ·rw [List.getElem?_eq_none Zba] at hu;cases hu
   rw [List.getElem?_take_of_lt hj] at hu
   simpa using hu
  ·unfold World.frozen?;rw [hh];simp
end CConv
end
section
namespace CPool
open Go Go.ChangeShapes Go.WideShapes Go.ChangeAt Go.RowKit Go.Shelf
open Plain CSat CShape CTensor CConv
attribute [local go_sem] Oper.semAt_some
def hereI (H W C top left:Int) (o i j:Nat):List Nat :=
 if 0≤top+(i:Int)∧top+(i:Int) < H∧0≤left+(j:Int)∧left+(j:Int) < W then [(((top+(i:Int)) * W+(left+(j:Int))) * C+(o:Int)).toNat] else []
def colI (H W C top left:Int) (o i:Nat):Nat→List Nat
 | 0=>[]
 | j+1=>colI H W C top left o i j ++ hereI H W C top left o i j
def rowsI (H W C top left:Int) (kk o:Nat):Nat→List Nat
 | 0=>[]
 | i+1=>rowsI H W C top left kk o i ++ colI H W C top left o i kk
theorem hereI_L (zs:List Int) (H W C top left:Int) (o i j:Nat):hereL zs H W C top left o i j=(hereI H W C top left o i j).map (fun k=>zs.getD k 0):=by
 unfold hereL hereI;split <;> rfl
theorem colI_L (zs:List Int) (H W C top left:Int) (o i:Nat):∀ j,colL zs H W C top left o i j=(colI H W C top left o i j).map (fun k=>zs.getD k 0)
 | 0=>rfl
 | j+1=>by
   show colL zs H W C top left o i j ++ hereL zs H W C top left o i j=(colI H W C top left o i j ++ hereI H W C top left o i j).map _
   rw [List.map_append,colI_L zs H W C top left o i j,hereI_L]
theorem rowsI_L (zs:List Int) (H W C top left:Int) (kk o:Nat):∀ i,rowsL zs H W C top left kk o i=(rowsI H W C top left kk o i).map (fun k=>zs.getD k 0)
 | 0=>rfl
 | i+1=>by
   show rowsL zs H W C top left kk o i ++ colL zs H W C top left o i kk=(rowsI H W C top left kk o i ++ colI H W C top left o i kk).map _
   rw [List.map_append,rowsI_L zs H W C top left kk o i,colI_L]
theorem hereI_len (H W C top left:Int) (o i j:Nat):(hereI H W C top left o i j).length≤1:=by unfold hereI;split <;> simp
theorem colI_len (H W C top left:Int) (o i:Nat):∀ j,(colI H W C top left o i j).length≤j
 | 0=>le_refl _
 | j+1=>by
   show (colI H W C top left o i j ++ hereI H W C top left o i j).length≤j+1
   rw [List.length_append]
   have:=colI_len H W C top left o i j
   have:=hereI_len H W C top left o i j
   omega
theorem rowsI_len (H W C top left:Int) (kk o:Nat):∀ i,(rowsI H W C top left kk o i).length≤i * kk
 | 0=>by simp [rowsI]
 | i+1=>by
   show (rowsI H W C top left kk o i ++ colI H W C top left o i kk).length≤(i+1) * kk
   rw [List.length_append,Nat.add_mul,Nat.one_mul]
   have:=rowsI_len H W C top left kk o i
   have:=colI_len H W C top left o i kk
   omega
def CapAt (g:Nat) (H W C:Int) (A:Option Addr) (N c:Nat) (side top left ch:Int) (wd:World):Prop :=
 BoxAt g H W C A N c wd∧wd.cell? ⟨g+1,0,none⟩=some (Jj Jq side)∧wd.cell? ⟨g+2,0,none⟩=some (Jj Jq top)∧wd.cell? ⟨g+3,0,none⟩=some (Jj Jq left)∧wd.cell? ⟨g+4,0,none⟩=some (Jj Jq ch)
theorem CapAt.below {g n₀:Nat} {H W C:Int} {A:Option Addr} {N c:Nat} {side top left ch:Int} {w w':World} (h:CapAt g H W C A N c side top left ch w) (hg:g+4 < n₀) (hb:Below n₀ w w'):CapAt g H W C A N c side top left ch w' :=
 ⟨h.1.below Zb3 hb,(hb.cell (p:=⟨g+1,0,none⟩) (show g+1 < n₀ by omega)).trans h.2.1,(hb.cell (p:=⟨g+2,0,none⟩) (show g+2 < n₀ by omega)).trans h.2.2.1,(hb.cell (p:=⟨g+3,0,none⟩) (show g+3 < n₀ by omega)).trans h.2.2.2.1,(hb.cell (p:=⟨g+4,0,none⟩) hg).trans h.2.2.2.2⟩
theorem pwin_to (H W C:Int) (A:Option Addr) (N c:Nat) (side top left ch:Int) (w:World) :
  Calls Tryz.prog 99 #[.agg #[Jj Jq H,Jj Jq W,Jj Jq C,.slice A N c],Jj Jq side,Jj Jq top,Jj Jq left,Jj Jq ch] w fun e w'=>e=.returned (.func (.func 135) #[] #[.pointer (some ⟨w.heap.size+1,0,none⟩),.pointer (some ⟨w.heap.size,0,none⟩),.pointer (some ⟨w.heap.size+2,0,none⟩),.pointer (some ⟨w.heap.size+3,0,none⟩),.pointer (some ⟨w.heap.size+4,0,none⟩)])∧CapAt w.heap.size H W C A N c side top left ch w'∧Below w.heap.size w w'∧w'.heap.size=w.heap.size+5:=by
 go_enter Tryz.func99,Tryz.ntmps99
 go_wp2_with fail
 go_ret
 have hb:Below w.heap.size w (((((w.alloc (.cells #[Jj Jq H,Jj Jq W,Jj Jq C,.slice A N c] 32)).alloc (.cells #[Jj Jq side] 3)).alloc (.cells #[Jj Jq top] 3)).alloc (.cells #[Jj Jq left] 3)).alloc (.cells #[Jj Jq ch] 3)):=by
  refine Below.alloc (Below.alloc (Below.alloc (Below.alloc (Below.alloc (Below.refl _ _) (le_refl _) _) ?_ _) ?_ _) ?_ _) ?_ _
  all_goals (simp;try omega)
 refine⟨rfl,⟨?_,?_,?_,?_,?_⟩,hb,by simp⟩
 ·refine (zav H W C A N c 32 w).below (B':=w.heap.size+1) Zb3 ?_
  refine Below.alloc (Below.alloc (Below.alloc (Below.alloc (Below.refl _ _) ?_ _) ?_ _) ?_ _) ?_ _
  all_goals (simp;try omega)
 ·have h:=Kit.zan (w.alloc (.cells #[Jj Jq H,Jj Jq W,Jj Jq C,.slice A N c] 32)) #[Jj Jq side] 3 0
  simp only [World.size_alloc] at h
  rw [World.cell?_alloc_lt _ _ _ Zb9,World.cell?_alloc_lt _ _ _ Zb9,World.cell?_alloc_lt _ _ _ Zb7]
  exact h
 ·have h:=Kit.zan ((w.alloc (.cells #[Jj Jq H,Jj Jq W,Jj Jq C,.slice A N c] 32)).alloc (.cells #[Jj Jq side] 3)) #[Jj Jq top] 3 0
  simp only [World.size_alloc] at h
  rw [World.cell?_alloc_lt _ _ _ Zb9,World.cell?_alloc_lt _ _ _ Zb7]
  exact h
 ·have h:=Kit.zan (((w.alloc (.cells #[Jj Jq H,Jj Jq W,Jj Jq C,.slice A N c] 32)).alloc (.cells #[Jj Jq side] 3)).alloc (.cells #[Jj Jq top] 3)) #[Jj Jq left] 3 0
  simp only [World.size_alloc] at h
  rw [World.cell?_alloc_lt _ _ _ Zb7]
  exact h
 ·have h:=Kit.zan ((((w.alloc (.cells #[Jj Jq H,Jj Jq W,Jj Jq C,.slice A N c] 32)).alloc (.cells #[Jj Jq side] 3)).alloc (.cells #[Jj Jq top] 3)).alloc (.cells #[Jj Jq left] 3)) #[Jj Jq ch] 3 0
  simp only [World.size_alloc] at h
  exact h
theorem pwin_in (n:Nat) (hn:1≤n) (l g n₀ b off:Nat) (H W C:Int) (N c kk o d:Nat) (top left:Int) (G:Nat→Int) (ht:tensB H W C N=true) (hd:C=(d:Int)) (ho:o < d) (hk7:kk≤7)
  (t1 : -1000≤top) (t2:top≤1000) (l1 : -1000≤left) (l2:left≤1000) (hg:g+4 < n₀) (hb:b < n₀) (J Jx:List Nat→World→Prop) (hJ:∀ pre W W',J pre W→Below W.heap.size W W'→J pre W')
  (hY:∀ pre x W,J pre W→pre.length < 64→YieldAt Fence.wide (n - 1) Tryz.prog l #[.int .i8 (G x)] W fun e W' =>
    (e=.returned (.bool true)∧J (pre ++ [x]) W'∧Below n₀ W W')∨(e=.returned (.bool false)∧Jx (pre ++ [x]) W'))
  (w0:World) (hn₀:n₀≤w0.heap.size) (hcap:CapAt g H W C (some ⟨b,off,none⟩) N c (kk:Int) top left (o:Int) w0)
  (hc:∀ j,j < N→w0.cell? ⟨b,off+j,none⟩=some (.int .i8 (G j))) (h0:J [] w0) :
  CallsIn Fence.wide n Tryz.prog 135 (#[.func (.yield l) #[] #[]] ++ #[.pointer (some ⟨g+1,0,none⟩),.pointer (some ⟨g,0,none⟩),.pointer (some ⟨g+2,0,none⟩),.pointer (some ⟨g+3,0,none⟩),.pointer (some ⟨g+4,0,none⟩)]) w0 fun e W'=>(∃ v,e=.returned v) ∧
   ((∃ ls,ls=rowsI H W C top left kk o kk∧J ls W')∨(∃ pre,Jx pre W')):=by
 refine Zb2 ?_;intro hs
 have hN:(N:Int)=H * W * C:=by have:=ht;unfold tensB at this;simp at this;exact this.2
 obtain⟨g1,g2,g3,g4,g5,g6,g7⟩:=zac hs
 refine callsIn_of_wp Tryz.func135 rfl trivial ?_ rfl
 simp only [Tryz.ntmps135,List.size_toArray,List.length_cons,List.length_nil,Nat.reduceAdd,Nat.reduceSub,Array.replicate_succ,Array.replicate_zero,List.push_toArray,List.append_toArray,List.nil_append,List.cons_append]
 have hwide:∀ f,Fence.wide.fn f:=fun _=>trivial
 have HY:=hid hY
 have HC:=hid hc
 have HJ:=hid hJ
 have HCAP:=hid hcap
 have HS:=hid hs
 have HN:=hid hN
 have HD:=hid hd
 have c1:=hcap.2.1
 clear hY hc hJ hcap hs hN hd ht g7
 gi_wp2
 gi_loopw [12] (fun u wr=>∃ i:Nat,i≤kk∧u=Jj Jq i∧Hid (J (rowsI H W C top left kk o i) wr)∧Hid (Below n₀ w0 wr)∧n₀≤wr.heap.size)
  (fun u _=>kk - (intOf u).toNat)
 case atStart=>exact⟨0,Nat.zero_le _,rfl,hid h0,hid (Below.refl _ _),hn₀⟩
 case round =>
  obtain⟨i,hi,rfl,hJs,hB,hz⟩:=hrel
  clear c1
  by_cases hlt:i < kk
  ·have hiI:(i:Int) < (kk:Int):=by omega
   have c1:=(HCAP.out.below hg hB.out).2.1
   have hJ0:Hid (J (rowsI H W C top left kk o i ++ colI H W C top left o i 0) wr):=hid (by simpa [colI] using hJs.out)
   clear hJs
   gi_wp2
   gi_loopw [16] (fun u wr=>∃ j:Nat,j≤kk∧u=Jj Jq j∧Hid (J (rowsI H W C top left kk o i ++ colI H W C top left o i j) wr)∧Hid (Below n₀ w0 wr)∧n₀≤wr.heap.size)
    (fun u _=>kk - (intOf u).toNat)
   case atStart=>exact⟨0,Nat.zero_le _,rfl,hJ0,hB,hz⟩
   case round =>
    clear hJ0 hB hz c1
    obtain⟨j,hj,rfl,hJs,hB,hz⟩:=hrel
    by_cases hltj:j < kk
    ·have hjI:(j:Int) < (kk:Int):=by omega
     obtain⟨⟨k0,k1,k2,k3⟩,c1,c2,c3,c4⟩:=HCAP.out.below hg hB.out
     obtain⟨yv,hyv⟩:∃ yv,top+(i:Int)=yv:=⟨_,rfl⟩
     obtain⟨xv,hxv⟩:∃ xv,left+(j:Int)=xv:=⟨_,rfl⟩
     have e1:IntKind.i64.wrap (top+(i:Int))=yv:=by rw [IntWalk.i64_in _ Zb3,hyv]
     have e2:IntKind.i64.wrap (left+(j:Int))=xv:=by rw [IntWalk.i64_in _ Zb3,hxv]
     have hlen:(rowsI H W C top left kk o i ++ colI H W C top left o i j).length < 64:=by
      have q1:=rowsI_len H W C top left kk o i
      have q2:=colI_len H W C top left o i j
      have q3:i * kk≤49:=Nat.le_trans (Nat.mul_le_mul (show i≤7 by omega) hk7) Zb3
      rw [List.length_append];omega
     have hnx:rowsI H W C top left kk o i ++ colI H W C top left o i (j+1)=(rowsI H W C top left kk o i ++ colI H W C top left o i j) ++ hereI H W C top left o i j:=by
      rw [List.append_assoc];rfl
     obtain⟨L1,hL1⟩:∃ L1,rowsI H W C top left kk o i ++ colI H W C top left o i j=L1:=⟨_,rfl⟩
     rw [hL1] at hJs hlen hnx
     have hCd:=HD.out
     by_cases hin:0≤yv∧yv < H∧0≤xv∧xv < W
     ·obtain⟨hy0,hyH,hx0,hxW⟩:=hin
      have hins:inB H W C yv xv (o:Int)=true:=by unfold inB;rw [HS.out];simp;omega
      obtain⟨pos,hpos⟩:∃ pos,(yv * W+xv) * C+(o:Int)=pos:=⟨_,rfl⟩
      obtain⟨p1,p2,p3,p4,p5⟩:=at_bd (c:=(o:Int)) HS.out hy0 hyH hx0 hxW Zb3 Zb3
      have hp0:0≤pos:=by omega
      obtain⟨ix,hix⟩:∃ ix:Nat,pos=(ix:Int):=⟨pos.toNat,by omega⟩
      have hixN:ix < N:=by have:=HN.out;omega
      have hhere:hereI H W C top left o i j=[ix]:=by
       unfold hereI;rw [hyv,hxv,if_pos ⟨hy0,hyH,hx0,hxW⟩,hpos,hix];simp
      have HIX:Hid (indexZ H W C yv xv (o:Int) 0=(ix:Int)):=hid (by rw [indexZ_yes hins,hpos,hix])
      have HINS:=hid hins
      have HNX:Hid (rowsI H W C top left kk o i ++ colI H W C top left o i (j+1)=L1 ++ [ix]):=hid (by rw [hnx,hhere])
      have hixI:(ix:Int) < (N:Int):=by omega
      have hix0:(0:Int)≤(ix:Int):=by omega
      clear hnx hhere hyv hxv hins hpos p1 p2 p3 p4 p5 hp0 hix hCd
      gi_wp2_with (gi_at_call 130;(refine ((callsIn_wide (n:=n - 1)).2 (index_to H W C yv xv (o:Int) (ix:Int) true HINS.out HIX.out _)).mono ?_);(rintro e w2 ⟨rfl,hb2⟩;have hJ2:=HJ.out _ _ _ hJs.out hb2;have hB2:=hB.out.trans (hb2.mono hz);obtain⟨⟨_,_,_,k3⟩,_,_,_,_⟩:=HCAP.out.below hg hB2;have hcx:=(hB2.cell (p:=⟨b,off+ix,none⟩) hb).trans (HC.out ix hixN);have hz2:=Nat.le_trans hz hb2.size;obtain⟨fn,tmps,assign,body,hy,hR⟩:=HY.out _ ix w2 hJ2 hlen;generalize G ix=x at hcx hR hy))
      refine hR.mono ?_
      rintro e W3 (⟨rfl,hJ3,hk3⟩ | ⟨rfl,hJx3⟩)
      ·have HJ3:Hid (J (rowsI H W C top left kk o i ++ colI H W C top left o i (j+1)) W3):=hid (by rw [HNX.out];exact hJ3)
       have HB3:=hid (hB2.trans hk3)
       have hz3:=Nat.le_trans hz2 hk3.size
       clear hJ3 hk3 hcx hy hR
       gi_wp2
       go_roundw
       case rel=>exact⟨j+1,by omega,by simp,HJ3,HB3,hz3⟩
       case measure=>simp [intOf];omega
      ·gi_wp2
       exact Z32
     ·have hins:inB H W C yv xv (o:Int)=false:=by unfold inB;rw [HS.out];simp;omega
      have hhere:hereI H W C top left o i j=[]:=by unfold hereI;rw [hyv,hxv,if_neg hin]
      have HIX:Hid (indexZ H W C yv xv (o:Int) 0=0):=hid (indexZ_no hins)
      have HINS:=hid hins
      have HNX:Hid (rowsI H W C top left kk o i ++ colI H W C top left o i (j+1)=L1):=hid (by rw [hnx,hhere,List.append_nil])
      clear hnx hhere hyv hxv hins hin hCd
      gi_wp2_with (gi_at_call 130;(refine ((callsIn_wide (n:=n - 1)).2 (index_to H W C yv xv (o:Int) 0 false HINS.out HIX.out _)).mono ?_);(rintro e w2 ⟨rfl,hb2⟩;have hJ2:=HJ.out _ _ _ hJs.out hb2;have hB2:=hB.out.trans (hb2.mono hz);have hz2:=Nat.le_trans hz hb2.size))
      go_roundw
      case rel=>exact⟨j+1,by omega,by simp,hid (by rw [HNX.out];exact hJ2),hid hB2,hz2⟩
      case measure=>simp [intOf];omega
    ·obtain rfl:j=kk:=by omega
     gi_wp2
     go_roundw
     case rel=>exact⟨i+1,by omega,by simp,hJs,hB,hz⟩
     case measure=>simp [intOf];omega
  ·obtain rfl:i=kk:=by omega
   gi_wp2
   go_end0
   exact⟨⟨_,rfl⟩,.inl ⟨_,rfl,hJs.out⟩⟩
theorem abides_below {β:Type} {B:Nat} {J:β→World→Prop} (h:AbidesFrom B J) (s:β) (W W':World) (hs:J s W) (hb:Below W.heap.size W W'):J s W' :=
 h s W W' none hs (Kit.zbh hb none) (fun r e=>by cases e)
theorem seq_window (n:Nat) (hn:1≤n) (g n₀ b off:Nat) (H W C:Int) (N c kk o d:Nat) (top left:Int) (G:Nat→Int) (ht:tensB H W C N=true) (hd:C=(d:Int)) (ho:o < d) (hk7:kk≤7)
  (t1 : -1000≤top) (t2:top≤1000) (l1 : -1000≤left) (l2:left≤1000) (hg:g+4 < n₀) (hb:b < n₀) (w:World) (hn₀:n₀≤w.heap.size) (hcap:CapAt g H W C (some ⟨b,off,none⟩) N c (kk:Int) top left (o:Int) w)
  (hc:∀ j,j < N→w.cell? ⟨b,off+j,none⟩=some (.int .i8 (G j))) :
  SeqStopsK Fence.wide n Tryz.prog 135 #[.pointer (some ⟨g+1,0,none⟩),.pointer (some ⟨g,0,none⟩),.pointer (some ⟨g+2,0,none⟩),.pointer (some ⟨g+3,0,none⟩),.pointer (some ⟨g+4,0,none⟩)] (fun x:Nat=>#[Value.int .i8 (G x)]) (Below n₀) (fun ls=>ls=rowsI H W C top left kk o kk) (fun _=>True) 64 w:=by
 intro l J Jx W0 hW hJ _ hY h0
 have hW':=hW.mono hn₀
 refine (pwin_in n hn l g n₀ b off H W C N c kk o d top left G ht hd ho hk7 t1 t2 l1 l2 hg hb J Jx (abides_below hJ) hY W0 (Nat.le_trans hn₀ hW.size) (hcap.below hg hW') (fun j hj=>(hW'.cell (p:=⟨b,off+j,none⟩) hb).trans (hc j hj)) h0).mono ?_
 exact Z2i
attribute [local go_sem] Oper.semAt_some
def sumL (l:List Int):Int:=l.foldl (· + ·) 0
theorem sumL_snoc (l:List Int) (x:Int):sumL (l ++ [x])=sumL l+x:=by simp [sumL]
theorem sumL_psum (l:List Int):∀ k,k≤l.length→sumL (l.take k)=psum (fun i=>l.getD i 0) k
 | 0,_=>rfl
 | k+1,h=>by
   have e:l.take (k+1)=l.take k ++ [l[k]]:=by rw [List.take_add_one,List.getElem?_eq_getElem Zb3];rfl
   rw [e,sumL_snoc,sumL_psum l k Zb3]
   show _=psum (fun i=>l.getD i 0) k+l.getD k 0
   rw [List.getD_eq_getElem?_getD,List.getElem?_eq_getElem Zb3];rfl
theorem sumL_bd (l:List Int) (h:∀ x∈l, -128≤x∧x≤127) : -(128 * (l.length:Int))≤sumL l∧sumL l≤128 * (l.length:Int):=by
 have key:∀ (l:List Int) (a:Int),(∀ x∈l, -128≤x∧x≤127)→a - 128 * (l.length:Int)≤l.foldl (· + ·) a∧l.foldl (· + ·) a≤a+128 * (l.length:Int):=by
  intro l
  induction l with
  | nil=>intro a _;simp
  | cons y l ih =>
    intro a h
    obtain⟨y1,y2⟩:=h y Zb7
    obtain⟨i1,i2⟩:=ih (a+y) (fun x hx=>h x (by simp [hx]))
    simp only [List.foldl_cons,List.length_cons]
    omega
 have:=key l 0 h
 unfold sumL
 omega
theorem meanZ_sum (l:List Int):meanZ l=IntKind.i8.wrap (nearZ (sumL l) l.length):=by
 unfold meanZ
 have h:=sumL_psum l l.length (le_refl _)
 rw [List.take_length] at h
 rw [h]
theorem meanC_to (g b off:Nat) (H W C:Int) (N c kk o d:Nat) (top left:Int) (G:Nat→Int) (hbz:∀ k, -128≤G k∧G k≤127) (ht:tensB H W C N=true) (hd:C=(d:Int)) (ho:o < d) (hk7:kk≤7)
  (t1 : -1000≤top) (t2:top≤1000) (l1 : -1000≤left) (l2:left≤1000) (R:Int) (hR:meanZ ((rowsI H W C top left kk o kk).map G)=R)
  (w:World) (hg:g+4 < w.heap.size) (hb:b < w.heap.size) (hcap:CapAt g H W C (some ⟨b,off,none⟩) N c (kk:Int) top left (o:Int) w) (hc:∀ j,j < N→w.cell? ⟨b,off+j,none⟩=some (.int .i8 (G j))) :
  Calls Tryz.prog 47 #[.func (.func 135) #[] #[.pointer (some ⟨g+1,0,none⟩),.pointer (some ⟨g,0,none⟩),.pointer (some ⟨g+2,0,none⟩),.pointer (some ⟨g+3,0,none⟩),.pointer (some ⟨g+4,0,none⟩)]] w fun e w'=>e=.returned (.int .i8 R)∧Below w.heap.size w w':=by
 have hR2:IntKind.i8.wrap (nearZ (sumL ((rowsI H W C top left kk o kk).map G)) ((rowsI H W C top left kk o kk).length:Int))=R:=by
  rw [← hR,meanZ_sum,List.length_map]
 have HR:=hid hR2
 have HBZ:=hid hbz
 have hlw:=rowsI_len H W C top left kk o kk
 have hkk:kk * kk≤49:=Nat.le_trans (Nat.mul_le_mul hk7 hk7) Zb3
 have hll:(rowsI H W C top left kk o kk).length≤49:=Nat.le_trans hlw hkk
 have hall:∀ pre:List Nat,∀ x∈pre.map G, -128≤x∧x≤127:=by
  intro pre x hx
  obtain⟨k, -,rfl⟩:=List.mem_map.1 hx
  exact hbz k
 have HALL:=hid hall
 clear hR hR2 hlw hkk hall
 refine (callsIn_wide (n:=5)).1 ?_
 refine callsIn_of_wp_marks Tryz.func47 rfl trivial ?_ rfl
 simp only [Tryz.ntmps47,List.size_toArray,List.length_cons,List.length_nil,Nat.reduceAdd,Nat.reduceSub,Array.replicate_succ,Array.replicate_zero,List.push_toArray,List.append_toArray,List.nil_append,List.cons_append]
 refine wpIn_wide.2 ?_
 go_wp2_with fail
 have bX:=(Boxed.new w 3 (Jj Jq 0)).alloc (.cells #[Jj Jq 0] 3)
 have bM:=Boxed.new (w.alloc (.cells #[Jj Jq 0] 3)) 3 (Jj Jq 0)
 rw [World.size_alloc] at bM
 have hbW:Below w.heap.size w ((w.alloc (.cells #[Jj Jq 0] 3)).alloc (.cells #[Jj Jq 0] 3)):=((Below.refl _ _).alloc (le_refl _) _).alloc Zb7 _
 have hsW:((w.alloc (.cells #[Jj Jq 0] 3)).alloc (.cells #[Jj Jq 0] 3)).heap.size=w.heap.size+2:=by simp
 generalize (w.alloc (.cells #[Jj Jq 0] 3)).alloc (.cells #[Jj Jq 0] 3)=W1 at bX bM hbW hsW ⊢
 refine (wpIn_wide (n:=5)).1 ?_
 refine wpIn_rangeFunc_ownG (F:=Fence.wide) (n:=5) rfl Zb3 (gf:=135) (lb:=#[.pointer (some ⟨g+1,0,none⟩),.pointer (some ⟨g,0,none⟩),.pointer (some ⟨g+2,0,none⟩),.pointer (some ⟨g+3,0,none⟩),.pointer (some ⟨g+4,0,none⟩)]) rfl trivial (enters_of Tryz.func135 Zb5 rfl)
  (seq_window (5 - 1) Zb3 g w.heap.size b off H W C N c kk o d top left G ht hd ho hk7 t1 t2 l1 l2 hg hb W1 Zb3 (hcap.below hg hbW) (fun j hj=>(hbW.cell (p:=⟨b,off+j,none⟩) hb).trans (hc j hj))) belowK_t (belowK_b Zb3) (Below.refl _ _) (fun _=>rfl)
  (fun pre W=>(Boxed W w.heap.size 3 (Jj Jq (sumL (pre.map G)))∧Boxed W (w.heap.size+1) 3 (Jj Jq (pre.length:Int)))∧Below w.heap.size w W)
  (fun _ _ _=>False)
  (OwnFrom.and (OwnFrom.and (Own.from (boxed_own w.heap.size 3 (fun pre:List Nat=>(Jj Jq (sumL (pre.map G))))) _) (Own.from (boxed_own (w.heap.size+1) 3 (fun pre:List Nat=>Jj Jq (pre.length:Int))) _)) (ownFrom_below Zb3 Zb3))
  (fun _ _ _ _ _ hs _ _=>hs)
  ⟨⟨bX,bM⟩,hbW⟩
  ?a1 ?assign ?body ?done ?stop
 case assign =>
  intro l x W K hK
  gi_wp2
  exact hK
 case body =>
  rintro l pre x W ⟨⟨hX,hM⟩,hB⟩ hlt
  have hs:=sumL_snoc (pre.map G) (G x)
  have hm:(pre ++ [x]).map G=pre.map G ++ [G x]:=by simp
  have hbd:=sumL_bd _ (HALL.out pre)
  rw [List.length_map] at hbd
  rw [← hm] at hs
  obtain⟨y1,y2⟩:=HBZ.out x
  clear hm
  obtain⟨m0,hm0⟩:∃ m0,sumL (pre.map G)=m0:=⟨_,rfl⟩
  rw [hm0] at hs hX hbd
  generalize G x=y at hs y1 y2 ⊢
  have w1:IntKind.i64.wrap y=y:=IntWalk.i64_in _ Zb3
  have w2:IntKind.i64.wrap (m0+y)=m0+y:=IntWalk.i64_in _ Zb3
  have w3:IntKind.i64.wrap ((pre.length:Int)+1)=(pre.length:Int)+1:=IntWalk.i64_in _ Zb3
  have hpl:(((pre ++ [x]).length:Nat):Int)=(pre.length:Int)+1:=by simp
  have HPL:=hid hpl
  generalize (pre.length:Int)=pl at w3 hM HPL ⊢
  have HS:=hid hs
  have HX:=hid hX
  have HM:=hid hM
  have HB:=hid hB
  have hcx:=hX.cell
  have hfx:=hX.frozen
  have hcm:=hM.cell
  have hfm:=hM.frozen
  clear hs hX hM hB hm0 hbz bX bM hbW hcap hc ht hpl hbd
  gi_wp2
  exact⟨((KeepsOthers.setCell _ _ _).trans (KeepsOthers.setCell _ _ _)).from _,((Below.refl _ _).setCell (p:=⟨w.heap.size,0,none⟩) (le_refl _) _).setCell (p:=⟨w.heap.size+1,0,none⟩) (show w.heap.size≤w.heap.size+1 by omega) _,
   ⟨by rw [HS.out];exact (HX.out.set _).other Zb3 _,by rw [HPL.out];exact (HM.out.other Zb3 _).set _⟩,(HB.out.setCell (p:=⟨w.heap.size,0,none⟩) (le_refl _) _).setCell (p:=⟨w.heap.size+1,0,none⟩) (show w.heap.size≤w.heap.size+1 by omega) _⟩
 case done =>
  rintro D ls Wd hD rfl ⟨⟨hX,hM⟩,hB⟩ hK
  have hbd:=sumL_bd _ (HALL.out (rowsI H W C top left kk o kk))
  rw [List.length_map] at hbd
  obtain⟨R0,hR0⟩:∃ R0,nearZ (sumL ((rowsI H W C top left kk o kk).map G)) ((rowsI H W C top left kk o kk).length:Int)=R0:=⟨_,rfl⟩
  have hwr:=HR.out
  rw [hR0] at hwr
  generalize sumL ((rowsI H W C top left kk o kk).map G)=s0 at hX hbd hR0
  generalize hml:((rowsI H W C top left kk o kk).length:Int)=m0 at hM hbd hR0
  have hm9:0≤m0∧m0≤49:=by omega
  obtain⟨hm1,hm2⟩:=hm9
  have hcx:=hX.cell
  have hcm:=hM.cell
  have HB:=hid hB
  have HK:=hid hK
  have HD:=hid hD
  have HR0:=hid hR0
  have hs1 : -4611686018427387904≤s0:=by omega
  have hs2:s0≤4611686018427387904:=by omega
  have hm3:m0≤9223372036854775807:=by omega
  clear hX hM hB hK hD hbz bX bM hbW hcap hc ht hml hbd hR0 hm1 hm2
  go_wp2_with (go_at_call 48;(refine (near_to s0 m0 hs1 hs2 hm3 R0 HR0.out _).mono ?_);rintro e w1 ⟨rfl,q1,rfl⟩)
  have HK2:(Wd.drewN q1).heap[D]?=some (.deferred (some [])):=HK.out
  refine⟨by simp,.inl ⟨_,_,rfl,run_takeDeferred HK2,?_⟩⟩
  refine⟨.int .i8 R,?_,rfl,(Kit.below_drewN HB.out _).trans (belowK_b (w:=w) (le_refl _) _ D _ _ (by have:=HD.out;omega) HK2 rfl rfl)⟩
  simp [results,Tryz.f47,go_sem]
 case stop =>
  rintro D c pre W _ _ h _
  exact h.elim
end CPool
end
section
namespace CJoin
open Plain CSat CFix CShape CTensor CConv
theorem oneZ_turned (x y Z Y m1 s1 z1 m2 s2 lo hi:Int):oneZ y x Y Z m2 s2 z1 m1 s1 lo hi=oneZ x y Z Y m1 s1 z1 m2 s2 lo hi:=by
 unfold oneZ
 rw [Bool.and_comm,Int.add_comm (zbo ((y - Y) * m2) s2.toNat)]
end CJoin
end
end Go.Proofs.YtchpdhhpkljdhaaGreatDoor
