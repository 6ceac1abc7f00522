/- -/
import Derived.Shelf.SlSortCmp.NoneTotal
import Derived.Test.YtdphhfijgckhiaaDoorGQ4
import Derived.Test.YtdphhfijgckhiaaDoorGQ41
open Nat (le_refl lt_of_succ_lt lt_succ_self)
set_option linter.unusedVariables false
set_option linter.unusedSimpArgs false
set_option maxRecDepth 100000
set_option maxHeartbeats 16000000
namespace Go.Proofs.YtdphhfijgckhiaaDoor
open Go Go.ChangeShapes Go.WideShapes Go.ChangeAt Go.RowKit
section
namespace CArena
open Plain
section
open Go.Sort
variable {α:Type} [Inhabited α] {enc:α→Value} {w:World} {blk off m:Nat} {dk:Array α} {os:Array Obj}
theorem sw_old {k:Nat} (hk:k < w.heap.size) (hn:blk≠k):(sortWorld enc w blk off m dk os).heap[k]?=w.heap[k]?:=by
 unfold sortWorld
 rw [Sort.heap_grow_old _ _ (by simpa using hk)]
 simp [Sort.putRow,Sort.mapBlock,Array.getElem?_modify,hn]
theorem sw_row {cur:Array Value} {e:TypeId} {fr:Nat × Nat} (hb:w.heap[blk]?=some (.cells cur e fr)):(sortWorld enc w blk off m dk os).heap[blk]?=some (.cells (Sort.putCells enc off dk cur) e fr):=by
 have hlt:blk < w.heap.size:=by
  rcases Nat.lt_or_ge blk w.heap.size with h | h
  ·exact h
  ·rw [Array.getElem?_eq_none h] at hb;cases hb
 unfold sortWorld
 rw [Sort.heap_grow_old _ _ (by simpa using hlt)]
 simp [Sort.putRow,Sort.mapBlock,Array.getElem?_modify,hb,Sort.onCells]
theorem sw_grown:w.grownBy (sortWorld enc w blk off m dk os) (some blk):=by
 refine⟨rfl,rfl,rfl,?_,fun k hk hn=>sw_old hk (fun e=>hn (by rw [e]))⟩
 unfold sortWorld Sort.grow
 simp
end
theorem frozen_none {w:World} {b o T:Nat} {cur:Array Value} (h:w.heap[b]?=some (.cells cur T (0,0))):w.frozen? ⟨b,o,none⟩=false:=by
 simp [World.frozen?,h]
def enc2 (x:Int × Int):List Value:=[.int .i64 x.1,.int .i64 x.2]
theorem flat_prV (d:Array (Int × Int)):(Sort.flatK enc2 2 d).toList=prV d.toList:=by
 refine List.ext_getElem? fun t=>?_
 rw [prV_get]
 by_cases h:t < d.size * 2
 ·have h2:=Sort.get_flatK enc2 2 d t h
  have hs:t < (Sort.flatK enc2 2 d).size:=by rw [Sort.size_flatK];exact h
  have h3:t / 2 < d.size:=by omega
  rw [getElem!_pos _ t hs] at h2
  rw [Array.getElem?_toList,Array.getElem?_eq_getElem hs,h2,Array.getElem?_toList,Array.getElem?_eq_getElem h3,getElem!_pos d (t / 2) h3,Option.map_some]
  congr 1
  rcases Nat.mod_two_eq_zero_or_one t with e | e
  ·rw [e];rfl
  ·rw [e];rfl
 ·rw [List.getElem?_eq_none (by simp;omega),List.getElem?_eq_none (by simp;omega)];rfl
theorem put_take (F cur:Array Value) (h:F.size≤cur.size):(Sort.putCells id 0 F cur).toList.take F.size=F.toList:=by
 refine List.ext_getElem? fun k=>?_
 rw [List.getElem?_take]
 by_cases hk:k < F.size
 ·rw [if_pos hk,Array.getElem?_toList,Array.getElem?_toList]
  simp only [Sort.putCells,Array.getElem?_mapIdx]
  rw [Array.getElem?_eq_getElem (show k < cur.size by omega),Array.getElem?_eq_getElem hk]
  simp [hk]
 ·rw [if_neg hk,List.getElem?_eq_none (by simp;omega)]
theorem closure_to (x y:Int × Int) (W:World):Calls Tryd.prog 48 #[.agg #[.int .i64 x.1,.int .i64 x.2],.agg #[.int .i64 y.1,.int .i64 y.2]] W fun e w'=>e=.returned (.int .i64 (Lib.compareInt x.1 y.1))∧∃ q os',w'=Sort.grow (W.drewN q) os':=by
 have hcon:=fun W'=>Tryd.cmp_Compare_int x.1 y.1 W'
 generalize Lib.compareInt x.1 y.1=r at hcon ⊢
 go_enter Tryd.func48,Tryd.ntmps48
 go_wp2_with (go_at_call 49;refine (hcon _).mono ?_;rintro e w' ⟨rfl,rfl⟩)
 go_ret
 exact⟨rfl,0,_,by rw [Sort.alloc_eq_grow,Sort.alloc_eq_grow,Sort.grow_grow];rfl⟩
theorem ltLo (x y:Int × Int):ltOf (fun x y:Int × Int=>Lib.compareInt x.1 y.1) x y=decide (x.1 < y.1):=by
 unfold ltOf Lib.compareInt
 by_cases h1:x.1 < y.1
 ·simp [h1]
 ·by_cases h2:y.1 < x.1 <;> simp [h1,h2]
theorem swoLo:Sort.SWO (ltOf fun x y:Int × Int=>Lib.compareInt x.1 y.1) where
 irrefl x:=by rw [ltLo];simp
 trans x y z h1 h2:=by rw [ltLo] at *;simp at *;omega
 ntrans x y z h1 h2:=by rw [ltLo] at *;simp at *;omega
theorem own_cell {w:World} {base T n b c:Nat} {xs:List Value} (h:w.ownsRow base T 2 (.slice (some ⟨b,0,none⟩) n c) n xs):∃ cur:Array Value,w.heap[b]?=some (.cells cur T (0,0))∧cur.size=c * 2∧cur.toList.take (n * 2)=xs∧base≤b∧n≤c∧c≤maxLen:=by
 rcases h.2 with ⟨h0,_⟩ | ⟨g,cap,cur,h0,hb,hh,hnc,hm,hs,ht⟩
 ·cases h0
 ·cases h0
  exact⟨cur,hh,hs,ht,hb,hnc,hm⟩
theorem sort_to (L:List (Int × Int)) (n:Nat) (hn:L.length=n) (h0:0 < n) (h1:n≤4000) (b c base:Nat) (w:World) (hown:w.ownsRow base 88 2 (.slice (some ⟨b,0,none⟩) n c) n (prV L)) :
  Calls Tryd.prog 47 #[.slice (some ⟨b,0,none⟩) n c,.func (.func 48) #[] #[]] w fun e w' =>
   e=.returned (.tuple #[])∧∃ L':List (Int × Int),L'.length=n∧(∀ a,a∈L'↔a∈L)∧L'.Pairwise (fun a b=>a.1≤b.1)∧w'.ownsRow base 88 2 (.slice (some ⟨b,0,none⟩) n c) n (prV L')∧w.grownBy w' (some b):=by
 obtain⟨cur,hcur,hsz,hlist,hbase,hnc,hmax⟩:=own_cell hown
 have hblk:b < w.heap.size:=Kit.za7 hown
 have eg:∀ args w,(callFunc 48 args).run Tryd.prog w=.ok (.enter 48 args) w:=enters_of Tryd.func48 (by kernel_rfl) rfl
 have hd:L.toArray.size=n:=by simpa using hn
 have hH:Sort.HoldsK enc2 2 w b 0 L.toArray:=by
  intro j hj
  have hj2:j < n * 2:=by rw [Sort.size_flatK,hd] at hj;exact hj
  refine⟨?_,frozen_none hcur⟩
  have e1:(prV L)[j]?=some (Sort.flatK enc2 2 L.toArray)[j]!:=by
   have:=flat_prV L.toArray
   rw [List.toList_toArray] at this
   rw [← this,Array.getElem?_toList,Array.getElem?_eq_getElem hj,getElem!_pos _ j hj]
  rw [← hlist,List.getElem?_take,if_pos hj2] at e1
  rw [Nat.zero_add,cell_of_row _ _ _ _ _ _ hcur, ← Array.getElem?_toList,e1]
  rfl
 have hcmp:CmpLays Tryd.prog 48 #[] enc2 2 (fun x y=>Lib.compareInt x.1 y.1) b 0 L.toArray.size w:=fun _ _ _ _ x y=>closure_to x y _
 have h:=AnyQ.slices_SortFunc Tryd.sortIv 2 (fun w=>Tryd.isAgg88 w) (fun w=>Tryd.sizeOf88 w) enc2 (fun _=>rfl) (fun x v hv=>by simp [enc2] at hv;rcases hv with rfl | rfl <;> rfl) (fun x y:Int × Int=>Lib.compareInt x.1 y.1) swoLo 48 #[] b 0 c L.toArray w eg hcmp hH hblk (by rw [hd];omega)
 rw [hd] at h
 change Calls Tryd.prog 47 _ _ _ at h
 refine h.mono fun e w' ⟨he,d',m,os,⟨hp1,_,hp3⟩,hs,hw⟩=>⟨he,d'.toList,by simpa [hd] using hp1,?_,?_,?_,?_⟩
 ·intro a
  have e1:d'.extract 0 n=d':=by rw [show n=d'.size by omega];exact Array.extract_size
  have e2:L.toArray.extract 0 n=L.toArray:=by rw [← hd];exact Array.extract_size
  rw [e1,e2] at hp3
  simpa using hp3.mem_iff (a:=a)
 ·rw [List.pairwise_iff_getElem]
  intro i j hi hj hij
  have h2:=hs i j (Nat.zero_le _) hij (by simpa [hp1,hd] using hj)
  rw [ltLo] at h2
  simp only [Array.length_toList] at hi hj
  rw [getElem!_pos d' j hj,getElem!_pos d' i hi] at h2
  simp only [Array.getElem_toList]
  simp only [decide_eq_false_iff_not] at h2
  omega
 ·subst hw
  have hs2:(Sort.flatK enc2 2 d').size=n * 2:=by rw [Sort.size_flatK,hp1,hd]
  refine⟨by rw [prV_len];simp [hp1,hd],.inr ⟨b,c,_,rfl,hbase,sw_row (enc:=id) (dk:=Sort.flatK enc2 2 d') hcur,hnc,hmax,?_,?_⟩⟩
  ·simp [Sort.putCells,hsz]
  ·rw [← hs2,put_take _ _ (by rw [hs2,hsz];omega),flat_prV]
 ·subst hw;exact sw_grown (enc:=id) (dk:=Sort.flatK enc2 2 d')
theorem sort_none (A:Option Addr) (c:Nat) (fv:Value) (w:World) :
  Calls Tryd.prog 47 #[.slice A 0 c,fv] w fun e w'=>e=.returned (.tuple #[])∧w'=w :=
 AnyF.slices_SortFunc_none Tryd.sortIv A c fv w
end CArena
end
end Go.Proofs.YtdphhfijgckhiaaDoor
