/- -/
import Derived.Shelf.Bits.Mul64
import Derived.Shelf.SlicesG.Cmp
import Derived.Shelf.SlSortCmp.NoneTotal
import Derived.Test.YtdphhfijgckhiaaDoorGP5
section
namespace Go.Proofs
open Go.Shelf
def Tryd.lays264_ren:Go.Shelf.Ren:=⟨fun | 264=>63 | n=>n,fun | 53=>104 | 46=>110 | n=>n,fun | n=>n⟩
theorem Tryd.lays264:Go.Proofs.Lays.n264 Tryd.prog Tryd.lays264_ren := {
 mixed:=by kernel_rfl
 f264:=Tryd.func63.trans (congrArg some (by kernel_rfl))
 t46:=Tryd.underlying110
 a46:=Tryd.isAgg110
 z46:=Tryd.sizeOf110
 v46:=Tryd.zeroValue110
 t53:=Tryd.underlying104
 a53:=Tryd.isAgg104
 z53:=Tryd.sizeOf104
 v53:=Tryd.zeroValue104 }
open Go.RowKit Go.Lib in
theorem Tryd.bits_Mul64 (x y:Nat) (hx:x < 18446744073709551616) (hy:y < 18446744073709551616) (w:World) :
  Calls Tryd.prog 63 #[.int .u64 x,.int .u64 y] w fun e w'=>e=.returned (.tuple #[.int .u64 ((x * y / 18446744073709551616:Nat):Int),.int .u64 ((x * y % 18446744073709551616:Nat):Int)])∧w'=w:=Any.bits_Mul64 Tryd.lays264 x y hx hy w
def Tryd.laysSlC25_f49_ren:Go.Shelf.Ren:=⟨fun | 5=>49 | 7=>67 | n=>n,fun | 22=>3 | 3=>3 | 4=>4 | n=>n,fun | n=>n⟩
theorem Tryd.laysSlC25_f49:Go.Proofs.SlLaysC2.n5 Tryd.prog Tryd.laysSlC25_f49_ren := {
 mixed:=by kernel_rfl
 f5:=⟨Tryd.f49.name,by decide,Tryd.func49.trans (congrArg some (by kernel_rfl))⟩
 f7:=⟨Tryd.f67.name,by decide,Tryd.func67.trans (congrArg some (by kernel_rfl))⟩
 t3:=Tryd.underlying3
 a3:=Tryd.isAgg3
 z3:=Tryd.sizeOf3
 v3:=Tryd.zeroValue3
 t4:=Tryd.underlying4
 a4:=Tryd.isAgg4
 z4:=Tryd.sizeOf4
 v4:=Tryd.zeroValue4
 t22:=Tryd.underlying3
 a22:=Tryd.isAgg3
 z22:=Tryd.sizeOf3
 v22:=Tryd.zeroValue3 }
open Go.Lib in
theorem Tryd.cmp_Compare_int (x y:Int) (w:World) :
  Calls Tryd.prog 49 #[.int .i64 x,.int .i64 y] w fun e w'=>e=.returned (.int .i64 (Lib.compareInt x y))∧w'=w:=AnyG.cmp_Compare_int Tryd.laysSlC25_f49 x y w
def Tryd.sortIv_ren:Go.Shelf.Ren:=⟨fun | 6=>47 | 15=>66 | 14=>65 | 28=>81 | 29=>82 | 20=>73 | 21=>74 | 22=>75 | 23=>76 | 24=>77 | 25=>78 | 26=>79 | 27=>80 | 46=>83 | 47=>84 | 48=>85 | 49=>86 | 50=>87 | 57=>88 | n=>n,fun | 22=>72 | 24=>88 | 25=>93 | 3=>3 | 39=>110 | 0=>0 | 53=>123 | 55=>104 | 4=>4 | 46=>117 | 45=>116 | 50=>68 | 5=>5 | 9=>9 | 66=>126 | 70=>130 | 76=>132 | 77=>95 | n=>n,fun | n=>n⟩
theorem Tryd.sortIv:Go.Proofs.SlLaysF0.n6 Tryd.prog Tryd.sortIv_ren := {
 mixed:=by kernel_rfl
 f6:=⟨Tryd.f47.name,by decide,Tryd.func47.trans (congrArg some (by kernel_rfl))⟩
 f14:=⟨Tryd.f65.name,by decide,Tryd.func65.trans (congrArg some (by kernel_rfl))⟩
 f15:=Tryd.func66.trans (congrArg some (by kernel_rfl))
 f20:=⟨Tryd.f73.name,by decide,Tryd.func73.trans (congrArg some (by kernel_rfl))⟩
 f21:=⟨Tryd.f74.name,by decide,Tryd.func74.trans (congrArg some (by kernel_rfl))⟩
 f22:=⟨Tryd.f75.name,by decide,Tryd.func75.trans (congrArg some (by kernel_rfl))⟩
 f23:=⟨Tryd.f76.name,by decide,Tryd.func76.trans (congrArg some (by kernel_rfl))⟩
 f24:=⟨Tryd.f77.name,by decide,Tryd.func77.trans (congrArg some (by kernel_rfl))⟩
 f25:=⟨Tryd.f78.name,by decide,Tryd.func78.trans (congrArg some (by kernel_rfl))⟩
 f26:=⟨Tryd.f79.name,by decide,Tryd.func79.trans (congrArg some (by kernel_rfl))⟩
 f27:=⟨Tryd.f80.name,by decide,Tryd.func80.trans (congrArg some (by kernel_rfl))⟩
 f28:=Tryd.func81.trans (congrArg some (by kernel_rfl))
 f29:=Tryd.func82.trans (congrArg some (by kernel_rfl))
 f46:=⟨Tryd.f83.name,by decide,Tryd.func83.trans (congrArg some (by kernel_rfl))⟩
 f47:=Tryd.func84.trans (congrArg some (by kernel_rfl))
 f48:=Tryd.func85.trans (congrArg some (by kernel_rfl))
 f49:=⟨Tryd.f86.name,by decide,Tryd.func86.trans (congrArg some (by kernel_rfl))⟩
 f50:=⟨Tryd.f87.name,by decide,Tryd.func87.trans (congrArg some (by kernel_rfl))⟩
 f57:=⟨Tryd.f88.name,by decide,Tryd.func88.trans (congrArg some (by kernel_rfl))⟩
 t0:=Tryd.underlying0
 a0:=Tryd.isAgg0
 z0:=Tryd.sizeOf0
 v0:=Tryd.zeroValue0
 t3:=Tryd.underlying3
 a3:=Tryd.isAgg3
 z3:=Tryd.sizeOf3
 v3:=Tryd.zeroValue3
 t4:=Tryd.underlying4
 a4:=Tryd.isAgg4
 z4:=Tryd.sizeOf4
 v4:=Tryd.zeroValue4
 t5:=Tryd.underlying5
 a5:=Tryd.isAgg5
 z5:=Tryd.sizeOf5
 v5:=Tryd.zeroValue5
 t9:=Tryd.underlying9
 a9:=Tryd.isAgg9
 z9:=Tryd.sizeOf9
 v9:=Tryd.zeroValue9
 t22:=Tryd.underlying72
 a22:=Tryd.isAgg72
 z22:=Tryd.sizeOf72
 v22:=Tryd.zeroValue72
 t25:=Tryd.underlying93
 a25:=Tryd.isAgg93
 z25:=Tryd.sizeOf93
 v25:=Tryd.zeroValue93
 t39:=Tryd.underlying110
 a39:=Tryd.isAgg110
 z39:=Tryd.sizeOf110
 v39:=Tryd.zeroValue110
 t45:=Tryd.underlying116
 a45:=Tryd.isAgg116
 z45:=Tryd.sizeOf116
 v45:=Tryd.zeroValue116
 t46:=Tryd.underlying117
 a46:=Tryd.isAgg117
 z46:=Tryd.sizeOf117
 v46:=Tryd.zeroValue117
 t50:=Tryd.underlying68
 a50:=Tryd.isAgg68
 z50:=Tryd.sizeOf68
 v50:=Tryd.zeroValue68
 t53:=Tryd.underlying123
 a53:=Tryd.isAgg123
 z53:=Tryd.sizeOf123
 v53:=Tryd.zeroValue123
 t55:=Tryd.underlying104
 a55:=Tryd.isAgg104
 z55:=Tryd.sizeOf104
 v55:=Tryd.zeroValue104
 t66:=Tryd.underlying126
 a66:=Tryd.isAgg126
 z66:=Tryd.sizeOf126
 v66:=Tryd.zeroValue126
 t70:=Tryd.underlying130
 a70:=Tryd.isAgg130
 z70:=Tryd.sizeOf130
 v70:=Tryd.zeroValue130
 t76:=Tryd.underlying132
 a76:=Tryd.isAgg132
 z76:=Tryd.sizeOf132
 v76:=Tryd.zeroValue132
 t77:=Tryd.underlying95
 a77:=Tryd.isAgg95
 z77:=Tryd.sizeOf95
 v77:=Tryd.zeroValue95 }
end Go.Proofs
end
section
namespace Go.Proofs.YtdphhfijgckhiaaDoor.CArena
open Go Go.ChangeShapes Go.WideShapes Go.ChangeAt Go.RowKit
open Plain
set_option linter.unusedVariables false
section
open Go.Sort
variable {α:Type} [Inhabited α] {enc:α→Value} {w:World} {blk off m:Nat} {dk:Array α} {os:Array Obj}
theorem sw_old {k:Nat} (hk:k < w.heap.size) (hn:blk≠k):(sortWorld enc w blk off m dk os).heap[k]?=w.heap[k]?:=by
 unfold sortWorld
 rw [Sort.heap_grow_old _ _ (by simpa using hk)]
 simp [Sort.putRow,Sort.mapBlock,Array.getElem?_modify,hn]
theorem sw_row {cur:Array Value} {e:TypeId} {fr:Nat × Nat} (hb:w.heap[blk]?=some (.cells cur e fr)):(sortWorld enc w blk off m dk os).heap[blk]?=some (.cells (Sort.putCells enc off dk cur) e fr):=by
 have hlt:blk < w.heap.size:=by
  rcases Nat.lt_or_ge blk w.heap.size with h | h
  ·exact h
  ·rw [Array.getElem?_eq_none h] at hb;cases hb
 unfold sortWorld
 rw [Sort.heap_grow_old _ _ (by simpa using hlt)]
 simp [Sort.putRow,Sort.mapBlock,Array.getElem?_modify,hb,Sort.onCells]
theorem sw_grown:w.grownBy (sortWorld enc w blk off m dk os) (some blk):=by
 refine⟨rfl,rfl,rfl,?_,fun k hk hn=>sw_old hk (fun e=>hn (by rw [e]))⟩
 unfold sortWorld Sort.grow
 simp
end
theorem frozen_none {w:World} {b o T:Nat} {cur:Array Value} (h:w.heap[b]?=some (.cells cur T (0,0))):w.frozen? ⟨b,o,none⟩=false:=by
 simp [World.frozen?,h]
def enc2 (x:Int × Int):List Value:=[.int .i64 x.1,.int .i64 x.2]
theorem flat_prV (d:Array (Int × Int)):(Sort.flatK enc2 2 d).toList=prV d.toList:=by
 refine List.ext_getElem? fun t=>?_
 rw [prV_get]
 by_cases h:t < d.size * 2
 ·have h2:=Sort.get_flatK enc2 2 d t h
  have hs:t < (Sort.flatK enc2 2 d).size:=by rw [Sort.size_flatK];exact h
  have h3:t / 2 < d.size:=by omega
  rw [getElem!_pos _ t hs] at h2
  rw [Array.getElem?_toList,Array.getElem?_eq_getElem hs,h2,Array.getElem?_toList,Array.getElem?_eq_getElem h3,getElem!_pos d (t / 2) h3,Option.map_some]
  congr 1
  rcases Nat.mod_two_eq_zero_or_one t with e | e
  ·rw [e];rfl
  ·rw [e];rfl
 ·rw [List.getElem?_eq_none (by simp;omega),List.getElem?_eq_none (by simp;omega)];rfl
theorem put_take (F cur:Array Value) (h:F.size≤cur.size):(Sort.putCells id 0 F cur).toList.take F.size=F.toList:=by
 refine List.ext_getElem? fun k=>?_
 rw [List.getElem?_take]
 by_cases hk:k < F.size
 ·rw [if_pos hk,Array.getElem?_toList,Array.getElem?_toList]
  simp only [Sort.putCells,Array.getElem?_mapIdx]
  rw [Array.getElem?_eq_getElem (show k < cur.size by omega),Array.getElem?_eq_getElem hk]
  simp [hk]
 ·rw [if_neg hk,List.getElem?_eq_none (by simp;omega)]
set_option maxHeartbeats 1000000 in
theorem closure_to (x y:Int × Int) (W:World):Calls Tryd.prog 48 #[.agg #[.int .i64 x.1,.int .i64 x.2],.agg #[.int .i64 y.1,.int .i64 y.2]] W fun e w'=>e=.returned (.int .i64 (Lib.compareInt x.1 y.1))∧∃ q os',w'=Sort.grow (W.drewN q) os':=by
 have hcon:=fun W'=>Tryd.cmp_Compare_int x.1 y.1 W'
 generalize Lib.compareInt x.1 y.1=r at hcon ⊢
 go_enter Tryd.func48,Tryd.ntmps48
 go_wp2_with (go_at_call 49;refine (hcon _).mono ?_;rintro e w' ⟨rfl,rfl⟩)
 go_ret
 exact⟨rfl,0,_,by rw [Sort.alloc_eq_grow,Sort.alloc_eq_grow,Sort.grow_grow];rfl⟩
theorem ltLo (x y:Int × Int):ltOf (fun x y:Int × Int=>Lib.compareInt x.1 y.1) x y=decide (x.1 < y.1):=by
 unfold ltOf Lib.compareInt
 by_cases h1:x.1 < y.1
 ·simp [h1]
 ·by_cases h2:y.1 < x.1 <;> simp [h1,h2]
theorem swoLo:Sort.SWO (ltOf fun x y:Int × Int=>Lib.compareInt x.1 y.1) where
 irrefl x:=by rw [ltLo];simp
 trans x y z h1 h2:=by rw [ltLo] at *;simp at *;omega
 ntrans x y z h1 h2:=by rw [ltLo] at *;simp at *;omega
theorem own_cell {w:World} {base T n b c:Nat} {xs:List Value} (h:w.ownsRow base T 2 (.slice (some ⟨b,0,none⟩) n c) n xs):∃ cur:Array Value,w.heap[b]?=some (.cells cur T (0,0))∧cur.size=c * 2∧cur.toList.take (n * 2)=xs∧base≤b∧n≤c∧c≤maxLen:=by
 rcases h.2 with ⟨h0,_⟩ | ⟨g,cap,cur,h0,hb,hh,hnc,hm,hs,ht⟩
 ·cases h0
 ·cases h0
  exact⟨cur,hh,hs,ht,hb,hnc,hm⟩
set_option maxHeartbeats 1000000 in
theorem sort_to (L:List (Int × Int)) (n:Nat) (hn:L.length=n) (h0:0 < n) (h1:n≤4000) (b c base:Nat) (w:World) (hown:w.ownsRow base 88 2 (.slice (some ⟨b,0,none⟩) n c) n (prV L)) :
  Calls Tryd.prog 47 #[.slice (some ⟨b,0,none⟩) n c,.func (.func 48) #[] #[]] w fun e w' =>
   e=.returned (.tuple #[])∧∃ L':List (Int × Int),L'.length=n∧(∀ a,a∈L'↔a∈L)∧L'.Pairwise (fun a b=>a.1≤b.1)∧w'.ownsRow base 88 2 (.slice (some ⟨b,0,none⟩) n c) n (prV L')∧w.grownBy w' (some b):=by
 obtain⟨cur,hcur,hsz,hlist,hbase,hnc,hmax⟩:=own_cell hown
 have hblk:b < w.heap.size:=Kit.zbm hown
 have eg:∀ args w,(callFunc 48 args).run Tryd.prog w=.ok (.enter 48 args) w:=enters_of Tryd.func48 (by kernel_rfl) rfl
 have hd:L.toArray.size=n:=by simpa using hn
 have hH:Sort.HoldsK enc2 2 w b 0 L.toArray:=by
  intro j hj
  have hj2:j < n * 2:=by rw [Sort.size_flatK,hd] at hj;exact hj
  refine⟨?_,frozen_none hcur⟩
  have e1:(prV L)[j]?=some (Sort.flatK enc2 2 L.toArray)[j]!:=by
   have:=flat_prV L.toArray
   rw [List.toList_toArray] at this
   rw [← this,Array.getElem?_toList,Array.getElem?_eq_getElem hj,getElem!_pos _ j hj]
  rw [← hlist,List.getElem?_take,if_pos hj2] at e1
  rw [Nat.zero_add,cell_of_row _ _ _ _ _ _ hcur, ← Array.getElem?_toList,e1]
  rfl
 have hcmp:CmpLays Tryd.prog 48 #[] enc2 2 (fun x y=>Lib.compareInt x.1 y.1) b 0 L.toArray.size w:=fun _ _ _ _ x y=>closure_to x y _
 have h:=AnyQ.slices_SortFunc Tryd.sortIv 2 (fun w=>Tryd.isAgg88 w) (fun w=>Tryd.sizeOf88 w) enc2 (fun _=>rfl) (fun x v hv=>by simp [enc2] at hv;rcases hv with rfl | rfl <;> rfl) (fun x y:Int × Int=>Lib.compareInt x.1 y.1) swoLo 48 #[] b 0 c L.toArray w eg hcmp hH hblk (by rw [hd];omega)
 rw [hd] at h
 change Calls Tryd.prog 47 _ _ _ at h
 refine h.mono fun e w' ⟨he,d',m,os,⟨hp1,_,hp3⟩,hs,hw⟩=>⟨he,d'.toList,by simpa [hd] using hp1,?_,?_,?_,?_⟩
 ·intro a
  have e1:d'.extract 0 n=d':=by rw [show n=d'.size by omega];exact Array.extract_size
  have e2:L.toArray.extract 0 n=L.toArray:=by rw [← hd];exact Array.extract_size
  rw [e1,e2] at hp3
  simpa using hp3.mem_iff (a:=a)
 ·rw [List.pairwise_iff_getElem]
  intro i j hi hj hij
  have h2:=hs i j (Nat.zero_le _) hij (by simpa [hp1,hd] using hj)
  rw [ltLo] at h2
  simp only [Array.length_toList] at hi hj
  rw [getElem!_pos d' j hj,getElem!_pos d' i hi] at h2
  simp only [Array.getElem_toList]
  simp only [decide_eq_false_iff_not] at h2
  omega
 ·subst hw
  have hs2:(Sort.flatK enc2 2 d').size=n * 2:=by rw [Sort.size_flatK,hp1,hd]
  refine⟨by rw [prV_len];simp [hp1,hd],.inr ⟨b,c,_,rfl,hbase,sw_row (enc:=id) (dk:=Sort.flatK enc2 2 d') hcur,hnc,hmax,?_,?_⟩⟩
  ·simp [Sort.putCells,hsz]
  ·rw [← hs2,put_take _ _ (by rw [hs2,hsz];omega),flat_prV]
 ·subst hw;exact sw_grown (enc:=id) (dk:=Sort.flatK enc2 2 d')
theorem sort_none (A:Option Addr) (c:Nat) (fv:Value) (w:World) :
  Calls Tryd.prog 47 #[.slice A 0 c,fv] w fun e w'=>e=.returned (.tuple #[])∧w'=w :=
 AnyF.slices_SortFunc_none Tryd.sortIv A c fv w
end Go.Proofs.YtdphhfijgckhiaaDoor.CArena
end
