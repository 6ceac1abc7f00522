/- -/
import Derived.Test.YtahekhpeomcfjaaGreatDoorGJ14
open Go.Lib (hid)
open Nat (le_refl lt_of_succ_lt lt_succ_self)
set_option linter.unusedVariables false
set_option linter.unusedSimpArgs false
set_option maxRecDepth 100000
set_option maxHeartbeats 16000000
namespace Go.Proofs.YtahekhpeomcfjaaGreatDoor
namespace CConv
end CConv
namespace CSat
end CSat
namespace CShape
end CShape
namespace CTensor
end CTensor
namespace CWheel
end CWheel
open Go Go.ChangeShapes Go.WideShapes Go.ChangeAt Go.RowKit
section
namespace CLane
open Plain CSat CShape CTensor CConv FloatNum CFour CWheel
theorem psum_sumN (G:Nat→Int):∀ n,psum G n=sumN G n
 | 0=>rfl
 | n+1=>by show psum G n+G n=sumN G n+G n;rw [psum_sumN G n]
theorem sumN_add (f:Nat→Int) (n:Nat):∀ m,sumN f (n+m)=sumN f n+sumN (fun k=>f (n+k)) m
 | 0=>by simp [sumN]
 | m+1=>by
   show sumN f (n+m)+f (n+m)=sumN f n+(sumN (fun k=>f (n+k)) m+f (n+m))
   rw [sumN_add f n m];omega
theorem sumN_three (f g h:Nat→Int):∀ n,sumN (fun k=>f k+g k+h k) n=sumN f n+sumN g n+sumN h n
 | 0=>rfl
 | n+1=>by
   show sumN (fun k=>f k+g k+h k) n+(f n+g n+h n)=(sumN f n+f n)+(sumN g n+g n)+(sumN h n+h n)
   rw [sumN_three f g h n];omega
theorem sumN_zero {f:Nat→Int} {n:Nat} (h:∀ k,k < n→f k=0):sumN f n=0:=by
 rw [zcs h]
 clear h
 induction n with
 | zero=>rfl
 | succ n ih=>show sumN (fun _=>0) n+0=0;rw [ih];rfl
def laneF (zs:List Int) (Z:Int) (st d pp Wn c x:Nat):Int:=if pp≤x∧x < pp+Wn then zs.getD (st+(x - pp) * d+c) 0 - Z else 0
def laneRow (zs:List Int) (Z:Int) (st d pp Wn M c:Nat):List Int:=nums (laneF zs Z st d pp Wn c) M
def zbe (zs:List Int) (Z:Int) (st d pp Wn M k:Nat):List (List Int):=(List.range k).map (laneRow zs Z st d pp Wn M)
def zb6 (p k:Nat):List Int:=(List.range k).map (fun c=>((p+c:Nat):Int))
theorem laneRows_succ (zs:List Int) (Z:Int) (st d pp Wn M k:Nat):zbe zs Z st d pp Wn M (k+1)=zbe zs Z st d pp Wn M k ++ [laneRow zs Z st d pp Wn M k]:=by simp [zbe,List.range_succ]
theorem lanePs_succ (p k:Nat):zb6 p (k+1)=zb6 p k ++ [((p+k:Nat):Int)]:=by simp [zb6,List.range_succ]
theorem zch (zs:List Int) (Z:Int) (st d pp Wn M k:Nat):(zbe zs Z st d pp Wn M k).length=k:=by simp [zbe]
theorem lanePs_len (p k:Nat):(zb6 p k).length=k:=by simp [zb6]
theorem laneRows_at (zs:List Int) (Z:Int) {st d pp Wn M k c:Nat} (h:c < k):(zbe zs Z st d pp Wn M k).getD c []=laneRow zs Z st d pp Wn M c:=by
 rw [List.getD_eq_getElem?_getD];simp [zbe,h]
theorem lanePs_at {p k c:Nat} (h:c < k):(zb6 p k).getD c 0=((p+c:Nat):Int):=by
 rw [List.getD_eq_getElem?_getD];simp [zb6,h]
def za4 (zs:List Int) (Z H W C top:Int) (d pp Wn M:Nat):Nat→List (List Int)
 | 0=>[]
 | i+1=>za4 zs Z H W C top d pp Wn M i ++ (if 0≤top+(i:Int)∧top+(i:Int) < H then zbe zs Z ((top+(i:Int)) * W * C).toNat d pp Wn M d else [])
def psTo (H top:Int) (d:Nat):Nat→List Int
 | 0=>[]
 | i+1=>psTo H top d i ++ (if 0≤top+(i:Int)∧top+(i:Int) < H then zb6 (i * 3 * d) d else [])
theorem len_to (zs:List Int) (Z H W C top:Int) (d pp Wn M:Nat):∀ i,(za4 zs Z H W C top d pp Wn M i).length=(psTo H top d i).length
 | 0=>rfl
 | i+1=>by
   unfold za4 psTo
   rw [List.length_append,List.length_append,len_to zs Z H W C top d pp Wn M i]
   split
   ·rw [zch,lanePs_len]
   ·rfl
theorem mem_rows (zs:List Int) (Z H W C top:Int) (d pp Wn M:Nat):∀ i row,row∈za4 zs Z H W C top d pp Wn M i→∃ st c,row=laneRow zs Z st d pp Wn M c
 | 0,row,h=>by cases h
 | i+1,row,h=>by
   unfold za4 at h
   rcases List.mem_append.1 h with h | h
   ·exact mem_rows zs Z H W C top d pp Wn M i row h
   ·split at h
    ·obtain⟨c,_,rfl⟩:=List.mem_map.1 h
     exact⟨_,c,rfl⟩
    ·cases h
theorem lane_in {zs:List Int} (hz:I8b zs) {Z:Int} (z1 : -128≤Z) (z2:Z≤127) (st d pp Wn c x:Nat) : -255≤laneF zs Z st d pp Wn c x∧laneF zs Z st d pp Wn c x≤255:=by
 unfold laneF
 split
 ·have:=hz (st+(x - pp) * d+c);omega
 ·omega
theorem rows_in {zs:List Int} (hz:I8b zs) {Z:Int} (z1 : -128≤Z) (z2:Z≤127) (H W C top:Int) (d pp Wn M i:Nat):∀ row∈za4 zs Z H W C top d pp Wn M i,∀ v∈row,(Lit.int .i16 v).wf=true:=by
 intro row hr v hv
 obtain⟨st,c,rfl⟩:=mem_rows zs Z H W C top d pp Wn M i row hr
 obtain⟨x,_,rfl⟩:=List.mem_map.1 hv
 have:=lane_in hz z1 z2 st d pp Wn c x
 exact WalkArith.wf_i16 (by omega)
theorem rows_len (zs:List Int) (Z H W C top:Int) (d pp Wn M i:Nat):∀ row∈za4 zs Z H W C top d pp Wn M i,row.length=M:=by
 intro row hr
 obtain⟨st,c,rfl⟩:=mem_rows zs Z H W C top d pp Wn M i row hr
 exact nums_len _ _
theorem len_if (zs:List Int) (Z H W C top:Int) (d pp Wn M i:Nat):(za4 zs Z H W C top d pp Wn M (i+1)).length=(za4 zs Z H W C top d pp Wn M i).length+(if 0≤top+(i:Int)∧top+(i:Int) < H then d else 0):=by
 show (za4 zs Z H W C top d pp Wn M i ++ _).length=_
 rw [List.length_append]
 split
 ·rw [zch]
 ·rfl
theorem rows_many {zs:List Int} {Z H W C top:Int} {d pp Wn M:Nat} (hs:zad H W C=true) (hd:C=(d:Int)) (hp:pp≤2) (t1 : -(pp:Int)≤top) (t2:top≤H+(pp:Int) - 3) :
  1≤(za4 zs Z H W C top d pp Wn M 3).length∧(za4 zs Z H W C top d pp Wn M 3).length≤1024:=by
 obtain⟨g1,g2,g3,g4,g5,g6,g7⟩:=zab hs
 have hHC:H * (d:Int)≤1024:=by
  have h1:H * 1 * (d:Int)≤H * W * C:=by
   rw [← hd]
   exact Int.mul_le_mul_of_nonneg_right (Int.mul_le_mul_of_nonneg_left g3 (by omega)) (by omega)
  rw [Int.mul_one] at h1;omega
 have hd1:1≤d:=by omega
 rw [len_if,len_if,len_if]
 show 1≤0+_+_+_∧0+_+_+_≤1024
 rw [show (((0:Nat):Nat):Int)=0 from rfl,show (((1:Nat):Nat):Int)=1 from rfl,show (((2:Nat):Nat):Int)=2 from rfl]
 rcases (show H=1∨H=2∨3≤H by omega) with rfl | rfl | h3
 ·constructor
  ·split <;> split <;> split <;> omega
  ·split <;> split <;> split <;> omega
 ·constructor
  ·split <;> split <;> split <;> omega
  ·split <;> split <;> split <;> omega
 ·have h4:3 * (d:Int)≤H * (d:Int):=Int.mul_le_mul_of_nonneg_right h3 (by omega)
  constructor
  ·split <;> split <;> split <;> omega
  ·split <;> split <;> split <;> omega
/-! ### the sums -/
def wAt (ws:List Int) (base d:Nat) (p:Int) (j:Nat):Int:=ws.getD (base+p.toNat+j * d) 0
def Wl (ws:List Int) (base d:Nat) (ps:List Int) (k j:Nat):Int:=wAt ws base d (ps.getD k 0) j
theorem Wl_in {ws:List Int} (h:I8b ws) (base d:Nat) (ps:List Int) (k j:Nat):InW (Wl ws base d ps k j):=h _
def tot (ws:List Int) (base d:Nat) (rows:List (List Int)) (ps:List Int) (v:Nat):Int:=sumN (fun k=>slAt (XR rows k) (Wl ws base d ps k) v) rows.length
theorem tot_mn (ws:List Int) (base d:Nat) (rows:List (List Int)) (ps:List Int) (v:Nat):mnAt (XR rows) (Wl ws base d ps) rows.length v=tot ws base d rows ps v:=rfl
theorem tot_append (ws:List Int) (base d:Nat) (rows r2:List (List Int)) (ps p2:List Int) (h:rows.length=ps.length) (v:Nat):tot ws base d (rows ++ r2) (ps ++ p2) v=tot ws base d rows ps v+tot ws base d r2 p2 v:=by
 unfold tot
 rw [List.length_append,sumN_add]
 congr 1
 ·refine zcs fun k hk=>?_
  have e1:XR (rows ++ r2) k=XR rows k:=by funext j;unfold XR;rw [List.getD_eq_getElem?_getD (l:=rows ++ r2),List.getElem?_append_left hk,List.getD_eq_getElem?_getD (l:=rows)]
  have e2:Wl ws base d (ps ++ p2) k=Wl ws base d ps k:=by funext j;unfold Wl;rw [List.getD_eq_getElem?_getD (l:=ps ++ p2),List.getElem?_append_left (by omega),List.getD_eq_getElem?_getD (l:=ps)]
  rw [e1,e2]
 ·refine zcs fun k hk=>?_
  have e1:XR (rows ++ r2) (rows.length+k)=XR r2 k:=by funext j;unfold XR;rw [List.getD_eq_getElem?_getD (l:=rows ++ r2),List.getElem?_append_right (by omega),Nat.add_sub_cancel_left,List.getD_eq_getElem?_getD (l:=r2)]
  have e2:Wl ws base d (ps ++ p2) (rows.length+k)=Wl ws base d p2 k:=by funext j;unfold Wl;rw [List.getD_eq_getElem?_getD (l:=ps ++ p2),List.getElem?_append_right (by omega),h,Nat.add_sub_cancel_left,List.getD_eq_getElem?_getD (l:=p2)]
  rw [e1,e2]
theorem tot_nil (ws:List Int) (base d v:Nat) (ps:List Int):tot ws base d [] ps v=0:=rfl
theorem tot_lane (zs ws:List Int) (Z W C y left:Int) (o i d pp Wn M v:Nat) (hd:C=(d:Int)) (hW:W=(Wn:Int)) (hl:left=(v:Int) - (pp:Int)) (hM:M=Wn+2 * pp) (hv:v+2 < M) (y0:0≤y) (Hh:Int) (y1:y < Hh) (top:Int) (hy:top+(i:Int)=y) :
  tot ws (o * 3 * 3 * d) d (zbe zs Z (y * W * C).toNat d pp Wn M d) (zb6 (i * 3 * d) d) v=rowF zs ws Hh W C top left d 3 o Z i:=by
 have hplace:∀ j,j < 3→sumN (fun c=>laneF zs Z (y * W * C).toNat d pp Wn c (v+j) * ws.getD (o * 3 * 3 * d+(i * 3 * d+c)+j * d) 0) d=placeF zs ws Hh W C top left d 3 o Z i j:=by
  intro j hj
  unfold placeF
  rw [hy]
  by_cases hin:0≤left+(j:Int)∧left+(j:Int) < W
  ·rw [if_pos ⟨y0,y1,hin⟩,psum_sumN]
   refine zcs fun c hc=>?_
   unfold laneF termF
   rw [if_pos (by omega)]
   have hw0:0≤y * W:=Int.mul_nonneg y0 (by omega)
   have hw1:0≤y * W * C:=Int.mul_nonneg hw0 (by omega)
   have e1:((y * W+(left+(j:Int))) * C).toNat=(y * W * C).toNat+(v+j - pp) * d:=by
    have e:(y * W+(left+(j:Int))) * C=y * W * C+((((v+j - pp) * d:Nat)):Int):=by
     rw [Int.add_mul,hd,Int.natCast_mul]
     congr 2
     omega
    rw [e,Int.toNat_add hw1 (by omega)]
    rfl
   have e2:o * 3 * 3 * d+(i * 3 * d+c)+j * d=((o * 3+i) * 3+j) * d+c:=by
    rw [Nat.add_mul,Nat.add_mul,Nat.add_mul];omega
   rw [e1,e2,Int.mul_comm]
  ·rw [if_neg (by intro h;exact hin ⟨h.2.2.1,h.2.2.2⟩)]
   refine sumN_zero fun c hc=>?_
   unfold laneF
   rw [if_neg (by omega),Int.zero_mul]
 unfold tot
 rw [zch]
 have hbody:∀ c,c < d→slAt (XR (zbe zs Z (y * W * C).toNat d pp Wn M d) c) (Wl ws (o * 3 * 3 * d) d (zb6 (i * 3 * d) d) c) v =
   laneF zs Z (y * W * C).toNat d pp Wn c (v+0) * ws.getD (o * 3 * 3 * d+(i * 3 * d+c)+0 * d) 0+laneF zs Z (y * W * C).toNat d pp Wn c (v+1) * ws.getD (o * 3 * 3 * d+(i * 3 * d+c)+1 * d) 0+laneF zs Z (y * W * C).toNat d pp Wn c (v+2) * ws.getD (o * 3 * 3 * d+(i * 3 * d+c)+2 * d) 0:=by
  intro c hc
  have e:∀ j,v+j < M→XR (zbe zs Z (y * W * C).toNat d pp Wn M d) c (v+j)=laneF zs Z (y * W * C).toNat d pp Wn c (v+j):=fun j hj=>by
   unfold XR;rw [laneRows_at zs Z hc];exact nums_getD _ hj
  have f:∀ j,Wl ws (o * 3 * 3 * d) d (zb6 (i * 3 * d) d) c j=ws.getD (o * 3 * 3 * d+(i * 3 * d+c)+j * d) 0:=fun j=>by
   unfold Wl wAt;rw [lanePs_at hc];rfl
  unfold slAt
  rw [f,f,f,e 1 (by omega),e 2 (by omega)]
  have e0:=e 0 (by omega)
  rw [Nat.add_zero] at e0
  rw [e0]
  rfl
 rw [zcs hbody,sumN_three,hplace 0 (by omega),hplace 1 (by omega),hplace 2 (by omega)]
 unfold rowF
 show _=(0+_+_+_:Int)
 rw [Int.zero_add]
theorem row_out (zs ws:List Int) (Z W C left H:Int) (o i d:Nat) (top:Int) (h:¬ (0≤top+(i:Int)∧top+(i:Int) < H)):rowF zs ws H W C top left d 3 o Z i=0:=by
 unfold rowF
 rw [psum_sumN]
 refine sumN_zero fun j hj=>?_
 unfold placeF
 rw [if_neg (by intro h';exact h ⟨h'.1,h'.2.1⟩)]
theorem lane_win (zs ws:List Int) (Z H W C top left:Int) (o d pp Wn M v:Nat) (hd:C=(d:Int)) (hW:W=(Wn:Int)) (hl:left=(v:Int) - (pp:Int)) (hM:M=Wn+2 * pp) (hv:v+2 < M) :
  ∀ i,tot ws (o * 3 * 3 * d) d (za4 zs Z H W C top d pp Wn M i) (psTo H top d i) v=psum (rowF zs ws H W C top left d 3 o Z) i
 | 0=>rfl
 | i+1=>by
   unfold za4 psTo
   rw [tot_append _ _ _ _ _ _ _ (len_to zs Z H W C top d pp Wn M i),lane_win zs ws Z H W C top left o d pp Wn M v hd hW hl hM hv i]
   show _=psum (rowF zs ws H W C top left d 3 o Z) i+rowF zs ws H W C top left d 3 o Z i
   congr 1
   split
   ·rename_i h
    exact tot_lane zs ws Z W C (top+(i:Int)) left o i d pp Wn M v hd hW hl hM hv h.1 H h.2 top rfl
   ·rename_i h
    rw [tot_nil,row_out zs ws Z W C left H o i d top h]
end CLane
end
section
namespace CPatch
open Plain CSat CShape CTensor CConv
def I16v (zs:List Int):List Value:=zs.map (.int .i16)
def upto (F:Nat→Int) (m t:Nat):Int:=if t < m then F t else 0
def listF (F:Nat→Int) (N:Nat):List Int:=(List.range N).map F
theorem zca (F:Nat→Int) (N:Nat):(listF F N).length=N:=by simp [listF]
theorem zc2 (F:Nat→Int) {N i:Nat} (h:i < N):(listF F N)[i]?=some (F i):=by simp [listF,h]
theorem listF_congr {F G:Nat→Int} {n:Nat} (h:∀ i,i < n→F i=G i):listF F n=listF G n:=by
 apply List.ext_getElem?
 intro i
 by_cases hi:i < n
 ·rw [zc2 F hi,zc2 G hi,h i hi]
 ·rw [List.getElem?_eq_none (by rw [zca];omega),List.getElem?_eq_none (by rw [zca];omega)]
theorem listF_set (F:Nat→Int) {N m:Nat} (x:Int) (hx:F m=x):(listF (upto F m) N).set m x=listF (upto F (m+1)) N:=by
 apply List.ext_getElem?
 intro i
 rw [List.getElem?_set]
 by_cases hi:i < N
 ·by_cases e:m=i
  ·subst e
   rw [if_pos rfl,if_pos (by rw [zca];exact hi),zc2 _ hi]
   simp [upto,hx]
  ·rw [if_neg e,zc2 _ hi,zc2 _ hi]
   simp only [upto]
   by_cases h1:i < m
   ·rw [if_pos h1,if_pos (by omega)]
   ·rw [if_neg h1,if_neg (by omega)]
 ·have e1:(listF (upto F (m+1)) N)[i]?=none:=List.getElem?_eq_none (by rw [zca];omega)
  have e2:(listF (upto F m) N)[i]?=none:=List.getElem?_eq_none (by rw [zca];omega)
  rw [e1,e2]
  by_cases e:m=i
  ·rw [if_pos e,if_neg (by rw [zca];omega)]
  ·rw [if_neg e]
theorem I16v_set (ys:List Int) (i:Nat) (x:Int):(I16v ys).set i (.int .i16 x)=I16v (ys.set i x):=by simp [I16v,List.map_set]
def zbr (B:Nat) (M Wd:Int) (gd N:Nat) (w:World):Prop :=
 w.cell? ⟨B,0,none⟩=some (.int .i64 M)∧w.cell? ⟨B,1,none⟩=some (.int .i64 Wd)∧w.cell? ⟨B,2,none⟩=some (.slice (some ⟨gd,0,none⟩) N N)
theorem BoxAt_grown {B gd:Nat} {H W C:Int} {A:Option Addr} {n c:Nat} {w w':World} (h:BoxAt B H W C A n c w) (hg:w.grownBy w' (some gd)) (hne:gd≠B):BoxAt B H W C A n c w':=by
 have hB:B < w.heap.size:=Kit.block_lt h.1
 exact⟨(hg.cell_far ⟨B,0,none⟩ hB (by simp;omega)).trans h.1,(hg.cell_far ⟨B,1,none⟩ hB (by simp;omega)).trans h.2.1,(hg.cell_far ⟨B,2,none⟩ hB (by simp;omega)).trans h.2.2.1,(hg.cell_far ⟨B,3,none⟩ hB (by simp;omega)).trans h.2.2.2⟩
theorem RowsAt_grown {B gd N gr:Nat} {M Wd:Int} {w w':World} (h:zbr B M Wd gd N w) (hg:w.grownBy w' (some gr)) (hne:gr≠B):zbr B M Wd gd N w':=by
 have hB:B < w.heap.size:=Kit.block_lt h.1
 exact⟨(hg.cell_far ⟨B,0,none⟩ hB (by simp;omega)).trans h.1,(hg.cell_far ⟨B,1,none⟩ hB (by simp;omega)).trans h.2.1,(hg.cell_far ⟨B,2,none⟩ hB (by simp;omega)).trans h.2.2⟩
theorem NodeAt_size {B:Nat} {x0 x1 x2 x8 x11 x12 x13 x14 x15 x16 x17 x18:Value} {K S P O Z:Int} {WA BA:Option Addr} {nW cW nB cB:Nat} {w:World} (h:zai B x0 x1 x2 x8 x11 x12 x13 x14 x15 x16 x17 x18 K S P O Z WA BA nW cW nB cB w):B < w.heap.size:=Kit.block_lt (h.at 0 _ rfl)
theorem Rd_grown {w w':World} {B gd:Nat} {A:Option Addr} {xs:List Value} (h:Kit.Rd w B A xs) (hg:w.grownBy w' (some gd)) (hB:B≤w.heap.size) (hgd:B≤gd):Kit.Rd w' B A xs :=
 h.keep fun p hp=>hg.cell_far p (by omega) (by simp;omega)
theorem grown_set (w:World) (g o:Nat) (v:Value):w.grownBy (w.setCell ⟨g,o,none⟩ v) (some g):=⟨rfl,rfl,rfl,by simp,fun k _ hk=>Below.heap_setCell _ _ _ k (fun e=>hk (by rw [e]))⟩
def OfAt (pt pn pr gd B0:Nat) (H W C:Int) (A:Option Addr) (n c:Nat) (x0 x1 x2 x8 x11 x12 x13 x14 x15 x16 x17 x18:Value) (K S P O Z:Int) (WA BA:Option Addr) (nW cW nB cB:Nat) (M Wd:Int) (N:Nat) (zs:List Int) (F:Nat→Int) (d k:Nat) (v:World):Prop :=
 BoxAt pt H W C A n c v∧zai pn x0 x1 x2 x8 x11 x12 x13 x14 x15 x16 x17 x18 K S P O Z WA BA nW cW nB cB v∧zbr pr M Wd gd N v∧v.ownsRow B0 204 1 (.slice (some ⟨gd,0,none⟩) N N) N (I16v (listF (upto F (k * d)) N))∧Kit.Rd v B0 A (I8s zs)∧B0≤v.heap.size
theorem OfAt.stay {pt pn pr gd B0:Nat} {H W C:Int} {A:Option Addr} {n c:Nat} {x0 x1 x2 x8 x11 x12 x13 x14 x15 x16 x17 x18:Value} {K S P O Z:Int} {WA BA:Option Addr} {nW cW nB cB:Nat} {M Wd:Int} {N:Nat} {zs:List Int} {F:Nat→Int} {d k:Nat} {v v':World}
  (h:OfAt pt pn pr gd B0 H W C A n c x0 x1 x2 x8 x11 x12 x13 x14 x15 x16 x17 x18 K S P O Z WA BA nW cW nB cB M Wd N zs F d k v) (hb:Below v.heap.size v v'):OfAt pt pn pr gd B0 H W C A n c x0 x1 x2 x8 x11 x12 x13 x14 x15 x16 x17 x18 K S P O Z WA BA nW cW nB cB M Wd N zs F d k v':=by
 obtain⟨h1,h2,h3,h4,h5,h6⟩:=h
 have z3:pr < v.heap.size:=Kit.block_lt h3.1
 exact⟨h1.below (B':=v.heap.size) (Kit.block_lt h1.1) hb,h2.below (B':=v.heap.size) (NodeAt_size h2) hb,
  ⟨(hb.cell (p:=⟨pr,0,none⟩) z3).trans h3.1,(hb.cell (p:=⟨pr,1,none⟩) z3).trans h3.2.1,(hb.cell (p:=⟨pr,2,none⟩) z3).trans h3.2.2⟩,Kit.own_below h4 hb,h5.below (hb.mono h6),Nat.le_trans h6 hb.size⟩
theorem visit_of (pt pn pr gd B0:Nat) (n1:gd≠pt) (n2:gd≠pn) (n3:gd≠pr) (hgB:B0≤gd) (H W C:Int) (bz oz n c:Nat) (x0 x1 x2 x8 x11 x12 x13 x14 x15 x16 x17 x18:Value) (K S P O Z:Int) (WA BA:Option Addr) (nW cW nB cB:Nat) (M Wd:Int) (N:Nat) (zs:List Int) (F:Nat→Int) (d k at_ pos:Nat) (hd:C=(d:Int)) (hn:zs.length=n) (hz:I8b zs) (z1 : -128≤Z) (z2:Z≤127)
  (hat:k * d=at_) (hN:at_+d≤N) (hN1:N≤30000000) (hpos:pos+d≤n) (hn1:n≤1024) (hF:∀ q,q < d→F (at_+q)=zs.getD (pos+q) 0 - Z) (v:World) (hI:OfAt pt pn pr gd B0 H W C (some ⟨bz,oz,none⟩) n c x0 x1 x2 x8 x11 x12 x13 x14 x15 x16 x17 x18 K S P O Z WA BA nW cW nB cB M Wd N zs F d k v) :
  Calls Tryz.prog 155 #[.int .i64 (at_:Int),.int .i64 (pos:Int),.pointer (some ⟨pt,0,none⟩),.pointer (some ⟨pn,0,none⟩),.pointer (some ⟨pr,0,none⟩)] v fun e v'=>(∃ u,e=.returned u)∧OfAt pt pn pr gd B0 H W C (some ⟨bz,oz,none⟩) n c x0 x1 x2 x8 x11 x12 x13 x14 x15 x16 x17 x18 K S P O Z WA BA nW cW nB cB M Wd N zs F d (k+1) v'∧v.grownBy v' (some gd):=by
 obtain⟨h1,h2,h3,h4,h5,h6⟩:=hI
 have T1:=hid h1
 have T2:=hid h2
 have T3:=hid h3
 rw [hat] at h4
 have HO:=hid h4
 have HR:=hid h5
 have HG:Hid (v.grownBy v (some gd)):=hid (World.grownBy.refl v _)
 have HAT:=hid hat
 have HF:=hid hF
 have HZ:=hid hz
 have HN:=hid hn
 have hz6:=h6
 subst hd
 obtain⟨tb0,tb1,tb2,tb3⟩:=T1.out
 clear h1 h2 h3 h4 h5 h6 hat hF hz hn
 go_enter Tryz.func155,Tryz.ntmps155
 go_wp2_with fail
 clear tb0 tb1 tb2 tb3
 go_loopw [11] (fun u wr=>∃ q:Nat,q≤d∧u=.int .i64 q∧Hid (BoxAt pt H W (d:Int) (some ⟨bz,oz,none⟩) n c wr)∧Hid (zai pn x0 x1 x2 x8 x11 x12 x13 x14 x15 x16 x17 x18 K S P O Z WA BA nW cW nB cB wr)∧Hid (zbr pr M Wd gd N wr)∧Hid (wr.ownsRow B0 204 1 (.slice (some ⟨gd,0,none⟩) N N) N (I16v (listF (upto F (at_+q)) N)))∧Hid (Kit.Rd wr B0 (some ⟨bz,oz,none⟩) (I8s zs))∧Hid (v.grownBy wr (some gd))∧B0≤wr.heap.size) (fun u _=>d - (intOf u).toNat)
 case atStart=>exact⟨0,Nat.zero_le _,rfl,T1,T2,T3,HO,HR,HG,hz6⟩
 case round =>
  clear T1 T2 T3 HO HR HG hz6
  obtain⟨q,hq,rfl,T1,T2,T3,HO,HR,HG,hz6⟩:=hrel
  by_cases hlt:q < d
  ·have hqI:(q:Int) < (d:Int):=by omega
   obtain⟨tb0,tb1,tb2,tb3⟩:=T1.out
   obtain⟨tr0,tr1,tr2⟩:=T3.out
   have n7:=T2.out.at 7 _ rfl
   obtain⟨a1,ha1⟩:∃ a1,at_+q=a1:=⟨_,rfl⟩
   obtain⟨p1,hp1⟩:∃ p1,pos+q=p1:=⟨_,rfl⟩
   have f1:IntKind.i64.wrap ((at_:Int)+(q:Int))=(a1:Int):=by rw [IntWalk.i64_in _ (by omega)];omega
   have f2:IntKind.i64.wrap ((pos:Int)+(q:Int))=(p1:Int):=by rw [IntWalk.i64_in _ (by omega)];omega
   have s1:(0:Int)≤(a1:Int):=by omega
   have s2:(a1:Int) < (N:Int):=by omega
   have s3:(0:Int)≤(p1:Int):=by omega
   have s4:(p1:Int) < (n:Int):=by omega
   obtain⟨b',o',hbo,hbz,hcz⟩:=zav HR.out (j:=0) (by have:=HN.out;omega)
   cases hbo
   have hcx:=hcz p1 (by have:=HN.out;omega)
   have hFq:=HF.out q hlt
   rw [ha1,hp1] at hFq
   obtain⟨x1,x2⟩:=HZ.out p1
   generalize zs.getD p1 0=x at hcx hFq x1 x2
   have k1:IntKind.i16.wrap x=x:=IntWalk.i16_in _ (by omega)
   have k2:IntKind.i16.wrap Z=Z:=IntWalk.i16_in _ (by omega)
   have k3:IntKind.i16.wrap (x - Z)=x - Z:=IntWalk.i16_in _ (by omega)
   have hfr:wr.frozen? ⟨gd,a1,none⟩=false:=HO.out.frozenAt a1
   have hcl:∃ u,wr.cell? ⟨gd,a1,none⟩=some u:=⟨_,(HO.out.cellAt a1 (by omega)).trans (List.getElem?_eq_getElem (by simp [I16v,listF];omega))⟩
   obtain⟨vold,hcl⟩:=hcl
   have hbg:gd≠bz:=by omega
   have HFQ:=hid hFq
   have HA1:=hid ha1
   clear hcz hFq ha1 hp1
   go_wp2_with fail
   refine wp_region_held_drew (S:=fun w'=>w'.cell? ⟨pr,2,none⟩=some (.slice (some ⟨gd,0,none⟩) N N)∧w'.cell? ⟨pt,3,none⟩=some (.slice (some ⟨bz,oz,none⟩) n c)∧w'.cell? ⟨bz,oz+p1,none⟩=some (.int .i8 x)∧w'.cell? ⟨pn,7,none⟩=some (.int .i8 Z)) (by kernel_rfl) ⟨tr2,tb3,hcx,n7⟩ (fun hHeld=>?_)
   clear tb0 tb1 tb2 tb3 tr0 tr1 tr2 n7 hcx
   refine Tk.x 0 rfl ?_
   try simp only [Tk.put]
   refine Tk.y 1 (v:=?_) rfl ?_ ?_
   rotate_left
   ·intro wS hSw
    obtain⟨hq1,hq2,hq3,hq4⟩:=hSw
    first | (go_simp;done) | (go_simp;with_reducible rfl)
   try simp only [Tk.put]
   refine Tk.x 2 rfl ?_
   try simp only [Tk.put]
   refine Tk.x 3 rfl ?_
   try simp only [Tk.put]
   refine Tk.x 4 rfl ?_
   try simp only [Tk.put]
   refine Tk.x 5 rfl ?_
   try simp only [Tk.put]
   refine Tk.y 6 (v:=?_) rfl ?_ ?_
   rotate_left
   ·intro wS hSw
    obtain⟨hq1,hq2,hq3,hq4⟩:=hSw
    first | (go_simp;done) | (go_simp;with_reducible rfl)
   try simp only [Tk.put]
   refine Tk.x 7 rfl ?_
   try simp only [Tk.put]
   refine Tk.x 8 rfl ?_
   try simp only [Tk.put]
   refine Tk.x 9 rfl ?_
   try simp only [Tk.put]
   refine Tk.x 10 rfl ?_
   try simp only [Tk.put]
   refine Tk.y 11 (v:=?_) rfl ?_ ?_
   rotate_left
   ·intro wS hSw
    obtain⟨hq1,hq2,hq3,hq4⟩:=hSw
    first | (go_simp;done) | (go_simp;with_reducible rfl)
   try simp only [Tk.put]
   refine Tk.x 12 rfl ?_
   try simp only [Tk.put]
   refine Tk.x 13 rfl ?_
   try simp only [Tk.put]
   refine Tk.y 14 (v:=?_) rfl ?_ ?_
   rotate_left
   ·intro wS hSw
    obtain⟨hq1,hq2,hq3,hq4⟩:=hSw
    first | (go_simp;done) | (go_simp;with_reducible rfl)
   try simp only [Tk.put]
   refine Tk.x 15 rfl ?_
   try simp only [Tk.put]
   refine Tk.x 16 rfl ?_
   try simp only [Tk.put]
   refine Tk.x 17 rfl ?_
   try simp only [Tk.put]
   refine Tk.s 18 rfl (fun Kq hK=>?_)
   go_simp
   refine hK.out _ _ ?_ (fun hHeld=>?_)
   ·exact⟨((World.cell?_setCell_far _ _ _ _ n3).trans hHeld.1),((World.cell?_setCell_far _ _ _ _ n1).trans hHeld.2.1),((World.cell?_setCell_far _ _ _ _ hbg).trans hHeld.2.2.1),((World.cell?_setCell_far _ _ _ _ n2).trans hHeld.2.2.2)⟩
   clear hK Kq
   try simp only [Tk.put]
   refine wpAnyH_done (by kernel_rfl) ?_ _
   have hgr:wr.grownBy (wr.drew.setCell ⟨gd,a1,none⟩ (.int .i16 (x - Z))) (some gd):=(Kit.za2 (Below.refl _ _).drew (some gd)).trans (grown_set _ _ _ _)
   have HO4:=hid ((Kit.own_below HO.out (Below.refl wr.heap.size wr).drew).stored a1 (.int .i16 (x - Z))).1
   rw [I16v_set,HA1.out,listF_set F _ HFQ.out] at HO4
   have T1':=hid (BoxAt_grown T1.out hgr n1)
   have T2':=hid (NodeAt_grown T2.out hgr (NodeAt_size T2.out) n2)
   have T3':=hid (RowsAt_grown T3.out hgr n3)
   have HR':=hid (Rd_grown HR.out hgr hz6 hgB)
   have HG':=hid (HG.out.trans hgr)
   have hz7:=Nat.le_trans hz6 hgr.size
   clear hHeld T1 T2 T3 HO HR HG hgr hfr hcl
   rw [show a1+1=at_+(q+1) by have:=HA1.out;omega] at HO4
   go_wp2_with fail
   go_roundw
   case rel=>exact⟨q+1,by omega,by go_num,T1',T2',T3',HO4,HR',HG',hz7⟩
   case measure=>simp [intOf];omega
  ·obtain rfl:q=d:=by omega
   go_wp2_with fail
   go_end0
   exact⟨⟨_,rfl⟩,⟨T1.out,T2.out,T3.out,by rw [Nat.add_mul,Nat.one_mul,HAT.out];exact HO.out,HR.out,hz6⟩,HG.out⟩
end CPatch
end
end Go.Proofs.YtahekhpeomcfjaaGreatDoor
