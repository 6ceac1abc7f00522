/- -/
import Derived.Test.YtahekhpeomcfjaaGreatDoorGJ48
open Go.Lib (hid)
open Nat (le_refl lt_of_succ_lt lt_succ_self)
set_option linter.unusedVariables false
set_option linter.unusedSimpArgs false
set_option maxRecDepth 100000
set_option maxHeartbeats 16000000
namespace Go.Proofs.YtahekhpeomcfjaaGreatDoor
namespace CConv
end CConv
namespace CFix
end CFix
namespace CKind
end CKind
namespace CSat
end CSat
namespace CShape
end CShape
namespace CTensor
end CTensor
open Go Go.ChangeShapes Go.WideShapes Go.ChangeAt Go.RowKit Go.Deep
section
namespace CGraph
open Plain CSat CFix CShape CTensor CConv CKind CRun
structure Val where
 (X Y U:Int)
 (A:Option Addr)
 (m c:Nat)
 (zs:List Int)
structure Ten where
 (X Y U:Int)
 (zs:List Int)
def Val.ten (a:Val):Ten:=⟨a.X,a.Y,a.U,a.zs⟩
def Val.list (a:Val):List Value:=[.int .i64 a.X,.int .i64 a.Y,.int .i64 a.U,.slice a.A a.m a.c]
def vlV:List Val→List Value
 | []=>[]
 | a :: r=>.int .i64 a.X :: .int .i64 a.Y :: .int .i64 a.U :: .slice a.A a.m a.c :: vlV r
theorem vlV_len:∀ L,(vlV L).length=L.length * 4
 | []=>rfl
 | a :: r=>by simp [vlV,vlV_len r];omega
theorem vlV_append:∀ L M,vlV (L ++ M)=vlV L ++ vlV M
 | [],M=>rfl
 | a :: r,M=>by simp [vlV,vlV_append r M]
theorem vlV_get:∀ (L:List Val) (k:Nat) (a:Val),L[k]?=some a→(vlV L)[k * 4]?=some (.int .i64 a.X)∧(vlV L)[k * 4+1]?=some (.int .i64 a.Y)∧(vlV L)[k * 4+2]?=some (.int .i64 a.U)∧(vlV L)[k * 4+3]?=some (.slice a.A a.m a.c)
 | [],k,a,h=>by simp at h
 | b :: r,0,a,h=>by simp at h;subst h;simp [vlV]
 | b :: r,k+1,a,h=>by
   obtain⟨h1,h2,h3,h4⟩:=vlV_get r k a (by simpa using h)
   rw [show (k+1) * 4=k * 4+1+1+1+1 by omega,vlV]
   refine⟨?_,?_,?_,?_⟩
   ·simpa using h1
   ·rw [show k * 4+1+1+1+1+1=(k * 4+1)+1+1+1+1 by omega];simpa using h2
   ·rw [show k * 4+1+1+1+1+2=(k * 4+2)+1+1+1+1 by omega];simpa using h3
   ·rw [show k * 4+1+1+1+1+3=(k * 4+3)+1+1+1+1 by omega];simpa using h4
theorem vl_cells {w:World} {B:Nat} {A:Option Addr} {L:List Val} (h:Kit.Rd w B A (vlV L)) (hn:0 < L.length) :
  ∃ b o,A=some ⟨b,o,none⟩∧b < B∧∀ k a,L[k]?=some a→w.rangeAt b (o+k * 4) a.list:=by
 obtain⟨b,o,e,hb,hc⟩:=h.plain (by rw [vlV_len];omega)
 refine⟨b,o,e,hb,fun k a hk q v hq=>?_⟩
 obtain⟨h1,h2,h3,h4⟩:=vlV_get L k a hk
 match q,hq with
 | 0,hq=>simp [Val.list] at hq;subst hq;exact hc (k * 4) _ h1
 | 1,hq=>simp [Val.list] at hq;subst hq;rw [Nat.add_assoc];exact hc (k * 4+1) _ h2
 | 2,hq=>simp [Val.list] at hq;subst hq;rw [Nat.add_assoc];exact hc (k * 4+2) _ h3
 | 3,hq=>simp [Val.list] at hq;subst hq;rw [Nat.add_assoc];exact hc (k * 4+3) _ h4
structure VOk (w:World) (a:Val):Prop where
 len:a.zs.length=a.m
 b8:I8b a.zs
 hm:a.m≤1000000
 hc:a.m≤a.c
 rd:Kit.Rd w w.heap.size a.A (I8s a.zs)
theorem VOk.grown {w w':World} {a:Val} (h:VOk w a) (hb:Below w.heap.size w w'):VOk w' a:=⟨h.len,h.b8,h.hm,h.hc,(h.rd.below hb).more hb.size⟩
def NodeP (x:Nd) (ws bs:List Int) (a b:Ten) (r:Res):Prop :=
 CRun.Good x a.X a.Y a.U b.X b.Y b.U r∧I8b r.xs∧∀ (A B:Option Addr) (c d:Nat) (y:Nd) (w:World),Like x y→a.zs.length≤c→Mem y A B a.zs b.zs ws bs w →
  Calls Tryz.prog 28 #[.agg y.val,.agg #[.int .i64 a.X,.int .i64 a.Y,.int .i64 a.U,.slice A a.zs.length c],.agg #[.int .i64 b.X,.int .i64 b.Y,.int .i64 b.U,.slice B b.zs.length d]] w (MTen w r)
theorem node_p (x:Nd) (ws bs:List Int) (hN:NIn x ws bs) (a b:Ten) (ha:I8b a.zs) (hb:I8b b.zs) (hm:a.zs.length≤1000000):∃ r,NodeP x ws bs a b r:=by
 obtain⟨r,h1,h2,h3⟩:=node_fun x a.X a.Y a.U a.zs.length b.X b.Y b.U b.zs.length a.zs b.zs rfl ha hm rfl hb ws bs hN
 exact⟨r,h1,h2,fun A B c d y w hy hc hM=>h3 A B c d y w hy hc hM⟩
theorem info_tensor:(Tryz.prog.info? 27).map (·.size)=some 4:=by kernel_rfl
theorem own_one {w:World} {base T n size:Nat} {v:Value} {xs:List Value} (h:w.ownsRow base T size v n xs):v.oneCell'=true:=by
 rcases h.2 with ⟨rfl,_⟩ | ⟨g,cap,cur,rfl,_⟩ <;> rfl
theorem zcl (a b c:Int) {v:Value} (h:v.oneCell'=true):(#[.int .i64 a,.int .i64 b,.int .i64 c,v]:Array Value).all (·.oneCell')=true:=by simp [Value.oneCell'] at *;exact h
theorem setCells_grown:∀ (vs:List Value) (b o:Nat) (w:World),w.grownBy (w.setCells b o vs) (some b):=by
 intro vs
 induction vs with
 | nil=>intro b o w;exact⟨rfl,rfl,rfl,le_refl _,fun _ _ _=>rfl⟩
 | cons v vs ih =>
   intro b o w
   have h1:=ih b (o+1) (w.setCell ⟨b,o,none⟩ v)
   have hs:(w.setCell ⟨b,o,none⟩ v).heap.size=w.heap.size:=by simp [World.setCell]
   exact⟨h1.os,h1.tape,h1.output,by have:=h1.size;rw [hs] at this;exact this,fun k hk hne=>(h1.block k (by rw [hs];exact hk) hne).trans (Below.heap_setCell _ _ _ k (fun e=>hne (by rw [e])))⟩
theorem own_apart {w w':World} {base T n size b:Nat} {v:Value} {xs:List Value} (h:w.ownsRow base T size v n xs) (hg:w.grownBy w' (some b)) (hb:b < base):w'.ownsRow base T size v n xs :=
 h.kept hg (by
  cases hv:v.ownBlock with
  | none=>exact .inl rfl
  | some k=>exact .inr (by have:=(World.ownsRow.lt h k hv).1;simp;omega))
def NvS (w:World) (x:Nd) (w':World):Prop:=NdAt w.heap.size x w'∧w'.there (w.heap.size+1) 0 4∧Below w.heap.size w w'∧w.heap.size+1 < w'.heap.size
theorem NvS.below {w:World} {x:Nd} {w' w2:World} (h:NvS w x w') (hb:Below w'.heap.size w' w2):NvS w x w2 :=
 ⟨h.1.below (by have:=h.2.2.2;omega) hb,zc0 h.2.1 h.2.2.2 hb,h.2.2.1.trans (hb.mono (by have:=h.2.2.2;omega)),Nat.lt_of_lt_of_le h.2.2.2 hb.size⟩
theorem NvS.stored {w:World} {x:Nd} {w':World} (h:NvS w x w') (vs:Array Value):NvS w x (w'.setCells (w.heap.size+1) 0 vs.toList):=by
 obtain⟨h1,h2⟩:=setCells_below vs.toList (w.heap.size+1) 0 w'
 exact⟨h.1.below (lt_succ_self _) h1,World.there_setCells h.2.1 _ _ _,h.2.2.1.trans (h1.mono (by omega)),by rw [h2];exact h.2.2.2⟩
theorem NvS.new (x:Nd) (w:World):NvS w x ((w.alloc (.cells x.val 44)).alloc (.cells #[.int .i64 0,.int .i64 0,.int .i64 0,.slice none 0 0] 27)):=by
 have s1:(w.alloc (.cells x.val 44)).heap.size=w.heap.size+1:=by simp
 refine⟨(NdAt.new x _ w).below (B:=w.heap.size+1) (by omega) ((Below.refl _ _).alloc (by simp) _),?_,((Below.refl _ _).alloc (le_refl _) _).alloc (by simp) _,by simp⟩
 intro j hj
 rw [Nat.zero_add, ← s1]
 refine⟨?_,?_⟩
 ·rw [Kit.zaf]
  match j,hj with
  | 0,_=>rfl
  | 1,_=>rfl
  | 2,_=>rfl
  | 3,_=>rfl
 ·have hh:((w.alloc (.cells x.val 44)).alloc (.cells #[.int .i64 0,.int .i64 0,.int .i64 0,.slice none 0 0] 27)).heap[(w.alloc (.cells x.val 44)).heap.size]?=some (.cells #[.int .i64 0,.int .i64 0,.int .i64 0,.slice none 0 0] 27):=heap_alloc_new _ _
  simp only [World.frozen?,hh]
  rfl
theorem vnext_to (x y:Nd) (hy:Like x y) (ws bs:List Int) (L:List Val) (n c:Nat) (hn:L.length=n) (hn1:n≤100) (A:Option Addr) (w:World) (hL:∀ a∈L,VOk w a) (ka kb:Nat) (hka:y.na=ka) (hkb:y.nb=kb) (a b:Val) (ha:L[ka]?=some a) (hb:L[kb]?=some b) (r:Res) (hP:NodeP x ws bs a.ten b.ten r) (hT:NamesIn w) (hr:Kit.Rd w w.heap.size A (vlV L)) (hws:Kit.Rd w w.heap.size y.WA (I8s ws)) (hbs:Kit.Rd w w.heap.size y.BA (I32v bs)) :
  Calls Tryz.prog 17 #[.slice A n c,.agg y.val] w (MTen w r):=by
 have HN:=hid (NvS.new y w)
 have va:=hL a (List.mem_of_getElem? ha)
 have vb:=hL b (List.mem_of_getElem? hb)
 have hlt:∀ {k:Nat} {a:Val},L[k]?=some a→k < n:=fun h=>by rw [← hn];exact (List.getElem?_eq_some_iff.1 h).1
 have i0:(0:Int)≤(ka:Int):=by omega
 have i1:(ka:Int) < (n:Int):=by have:=hlt ha;omega
 have j0:(0:Int)≤(kb:Int):=by omega
 have j1:(kb:Int) < (n:Int):=by have:=hlt hb;omega
 obtain⟨bl,o,rfl,hbl,hcell⟩:=vl_cells hr (by omega)
 have hrA:=hcell ka a ha
 have hrB:=hcell kb b hb
 have HCA:Hid (∀ wS,Below w.heap.size w wS→wS.cell? ⟨bl,o+ka * 4,none⟩=some (.int .i64 a.X)∧wS.cell? ⟨bl,o+ka * 4+1,none⟩=some (.int .i64 a.Y)∧wS.cell? ⟨bl,o+ka * 4+2,none⟩=some (.int .i64 a.U)∧wS.cell? ⟨bl,o+ka * 4+3,none⟩=some (.slice a.A a.m a.c)) :=
  hid (fun wS h=>⟨(h.cell (p:=⟨bl,o+ka * 4,none⟩) hbl).trans (hrA 0 _ rfl),(h.cell (p:=⟨bl,o+ka * 4+1,none⟩) hbl).trans (hrA 1 _ rfl),(h.cell (p:=⟨bl,o+ka * 4+2,none⟩) hbl).trans (hrA 2 _ rfl),(h.cell (p:=⟨bl,o+ka * 4+3,none⟩) hbl).trans (hrA 3 _ rfl)⟩)
 have HCB:Hid (∀ wS,Below w.heap.size w wS→wS.cell? ⟨bl,o+kb * 4,none⟩=some (.int .i64 b.X)∧wS.cell? ⟨bl,o+kb * 4+1,none⟩=some (.int .i64 b.Y)∧wS.cell? ⟨bl,o+kb * 4+2,none⟩=some (.int .i64 b.U)∧wS.cell? ⟨bl,o+kb * 4+3,none⟩=some (.slice b.A b.m b.c)) :=
  hid (fun wS h=>⟨(h.cell (p:=⟨bl,o+kb * 4,none⟩) hbl).trans (hrB 0 _ rfl),(h.cell (p:=⟨bl,o+kb * 4+1,none⟩) hbl).trans (hrB 1 _ rfl),(h.cell (p:=⟨bl,o+kb * 4+2,none⟩) hbl).trans (hrB 2 _ rfl),(h.cell (p:=⟨bl,o+kb * 4+3,none⟩) hbl).trans (hrB 3 _ rfl)⟩)
 have CN:Hid (∀ wS,Below w.heap.size w wS→Calls Tryz.prog 28 #[.agg y.val,.agg #[.int .i64 a.X,.int .i64 a.Y,.int .i64 a.U,.slice a.A a.m a.c],.agg #[.int .i64 b.X,.int .i64 b.Y,.int .i64 b.U,.slice b.A b.m b.c]] wS (MTen wS r)):=by
  refine hid fun wS h=>?_
  have h3:=hP.2.2 a.A b.A a.c b.c y wS hy (by show a.zs.length≤a.c;rw [va.len];exact va.hc) ⟨(va.rd.below h).more h.size,(vb.rd.below h).more h.size,(hws.below h).more h.size,(hbs.below h).more h.size,hT.grown h⟩
  simp only [Val.ten,va.len,vb.len] at h3
  exact h3
 have hA1:Hid (y.val.toList[1]?=some (.int .i64 (ka:Int))):=hid (by rw [← hka];rfl)
 have hB1:Hid (y.val.toList[2]?=some (.int .i64 (kb:Int))):=hid (by rw [← hkb];rfl)
 clear hL hka hkb ha hb hP hT hr hws hbs va vb hlt hbl hcell hrA hrB hy hn
 go_enter Tryz.func17,Tryz.ntmps17
 go_upto_region 1 with fail
 generalize (w.alloc (.cells y.val 44)).alloc (.cells #[.int .i64 0,.int .i64 0,.int .i64 0,.slice none 0 0] 27)=W0 at HN ⊢
 have HN9:=hid (HN.out.below (Below.refl _ W0).drew)
 clear HN
 refine wp_region_held_drew (S:=NvS w y) (by kernel_rfl) HN9.out (fun hHeld=>?_)
 clear HN9
 generalize W0.drew=W1 at hHeld ⊢
 refine Tk.t 0 (v:=.agg y.val) rfl (zb0 _ rfl (by rfl) _ y rfl (fun _ h=>h.1)) (by assumption) ?_
 try simp only [Tk.put]
 refine Tk.x 1 rfl ?_
 try simp only [Tk.put]
 refine Tk.x 2 rfl ?_
 try simp only [Tk.put]
 refine Tk.y 3 (v:=.int .i64 (ka:Int)) rfl ?_ ?_
 ·intro wS hSw
  have q:=hSw.1.at 1 (.int .i64 (ka:Int)) hA1.out
  first | (go_simp;done) | (go_simp;with_reducible rfl)
 try simp only [Tk.put]
 refine Tk.x 4 rfl ?_
 try simp only [Tk.put]
 refine Tk.y 5 (v:=.agg #[.int .i64 a.X,.int .i64 a.Y,.int .i64 a.U,.slice a.A a.m a.c]) rfl ?_ ?_
 ·intro wS hSw
  obtain⟨q0,q1,q2,q3⟩:=HCA.out wS hSw.2.2.1
  first | (go_simp;done) | (go_simp;with_reducible rfl)
 try simp only [Tk.put]
 refine Tk.x 6 rfl ?_
 try simp only [Tk.put]
 refine Tk.x 7 rfl ?_
 try simp only [Tk.put]
 refine Tk.y 8 (v:=.int .i64 (kb:Int)) rfl ?_ ?_
 ·intro wS hSw
  have q:=hSw.1.at 2 (.int .i64 (kb:Int)) hB1.out
  first | (go_simp;done) | (go_simp;with_reducible rfl)
 try simp only [Tk.put]
 refine Tk.x 9 rfl ?_
 try simp only [Tk.put]
 refine Tk.y 10 (v:=.agg #[.int .i64 b.X,.int .i64 b.Y,.int .i64 b.U,.slice b.A b.m b.c]) rfl ?_ ?_
 ·intro wS hSw
  obtain⟨q0,q1,q2,q3⟩:=HCB.out wS hSw.2.2.1
  first | (go_simp;done) | (go_simp;with_reducible rfl)
 try simp only [Tk.put]
 refine Tk.s 11 rfl (fun Kq hK=>?_)
 go_simp
 go_at_call 28
 refine (CN.out _ hHeld.2.2.1).mono ?_
 rintro e W2 ⟨v,rfl,ho,hb⟩
 have HOW:=hid ho
 have HGE:=hid hHeld.2.2.2
 have hS2:=hHeld.below hb
 clear hHeld hb ho
 dsimp only
 refine hK.out _ _ hS2 (fun hHeld=>?_)
 clear hK Kq hS2
 try simp only [Tk.put]
 refine Tk.x 12 rfl ?_
 try simp only [Tk.put]
 refine Tk.x 13 rfl ?_
 try simp only [Tk.put]
 refine Tk.s 14 rfl (fun Kq hK=>?_)
 rw [if_pos (by rfl)]
 refine wp_store_mid 27 _ _ rfl (w.heap.size+1) 0 #[.int .i64 r.X,.int .i64 r.Y,.int .i64 r.U,v] rfl rfl hHeld.2.1 info_tensor (zcl _ _ _ (own_one HOW.out)) ?_
 have hS3:=hHeld.stored (#[.int .i64 r.X,.int .i64 r.Y,.int .i64 r.U,v]:Array Value)
 have HRG:=hid (World.rangeAt_setCells_same W2 (w.heap.size+1) 0 (#[.int .i64 r.X,.int .i64 r.Y,.int .i64 r.U,v]:Array Value).toList hHeld.2.1)
 have HOW3:=hid (own_apart HOW.out (setCells_grown (#[.int .i64 r.X,.int .i64 r.Y,.int .i64 r.U,v]:Array Value).toList (w.heap.size+1) 0 W2) HGE.out)
 clear hHeld HOW
 generalize W2.setCells (w.heap.size+1) 0 (#[.int .i64 r.X,.int .i64 r.Y,.int .i64 r.U,v]:Array Value).toList=W3 at hS3 HRG HOW3 ⊢
 refine hK.out _ _ hS3 (fun hHeld=>?_)
 clear hK Kq hS3
 try simp only [Tk.put]
 refine Tk.x 15 rfl ?_
 try simp only [Tk.put]
 refine wpAnyH_done (by kernel_rfl) ?_ _
 go_wp2_with fail
 refine bodyPost_ret (Kit.zaa rfl _ _ (w.heap.size+1) 0 [.int .i64 r.X,.int .i64 r.Y,.int .i64 r.U,v] _ rfl HRG.out Tryz.underlying27 rfl (by kernel_rfl)) rfl ?_
 exact⟨v,rfl,Kit.zah HOW3.out (by have:=HGE.out;omega),hHeld.2.2.1⟩
def stopR (R:Nat→Res):Nat→Option (Nat × Int)
 | 0=>none
 | k+1=>match stopR R k with
   | some r=>some r
   | none=>if (R k).er=0 then none else some (k,(R k).er)
theorem stopR_go {R:Nat→Res} {k:Nat} (h:stopR R k=none) (hz:(R k).er=0):stopR R (k+1)=none:=by simp [stopR,h,hz]
theorem stopR_end {R:Nat→Res} {k n:Nat} (hk:k < n) (h:stopR R k=none) (hz:(R k).er≠0):stopR R n=some (k,(R k).er):=by
 obtain⟨d,rfl⟩:∃ d,n=k+1+d:=⟨n - (k+1),by omega⟩
 clear hk
 induction d with
 | zero=>simp [stopR,h,hz]
 | succ d ih=>rw [show k+1+(d+1)=(k+1+d)+1 by omega,stopR,ih]
def Res.ten (r:Res):Ten:=⟨r.X,r.Y,r.U,r.xs⟩
structure SeqOf (X Y:Nat→Nd) (WS BS:Nat→List Int) (n:Nat) (Q:Nat→Ten) (R:Nat→Res) (ia ib:Nat→Nat):Prop where
 like:∀ k,k < n→Like (X k) (Y k)
 na:∀ k,k < n→(Y k).na=ia k∧ia k≤k
 nb:∀ k,k < n→(Y k).nb=ib k∧ib k≤k
 made:∀ k,k < n→NodeP (X k) (WS k) (BS k) (Q (ia k)) (Q (ib k)) (R k)
 next:∀ k,k < n→Q (k+1)=Res.ten (R k)
structure RowOf (w:World) (Q:Nat→Ten) (n:Nat) (L:List Val):Prop where
 len:L.length=n
 ok:∀ a∈L,VOk w a
 is:∀ j a,L[j]?=some a→a.ten=Q j
theorem RowOf.grown {w w':World} {Q:Nat→Ten} {n:Nat} {L:List Val} (h:RowOf w Q n L) (hb:Below w.heap.size w w'):RowOf w' Q n L:=⟨h.len,fun a ha=>(h.ok a ha).grown hb,h.is⟩
theorem RowOf.snoc {w:World} {Q:Nat→Ten} {n:Nat} {L:List Val} (h:RowOf w Q n L) {a:Val} (ha:VOk w a) (hq:a.ten=Q n):RowOf w Q (n+1) (L ++ [a]):=by
 refine⟨by simp [h.len],fun b hb=>?_,fun j b hb=>?_⟩
 ·rcases List.mem_append.1 hb with hb | hb
  ·exact h.ok b hb
  ·rw [List.mem_singleton.1 hb];exact ha
 ·by_cases hj:j < n
  ·rw [List.getElem?_append_left (by rw [h.len];exact hj)] at hb
   exact h.is j b hb
  ·rw [List.getElem?_append_right (by rw [h.len];omega),h.len] at hb
   obtain⟨hk,e⟩:=List.getElem?_eq_some_iff.1 hb
   simp at hk
   have:j=n:=by omega
   subst this
   simp at e
   rw [← e];exact hq
def Apart (v:Value) (L:List Val):Prop:=∀ a∈L,∀ ad:Addr,a.A=some ad→a.zs≠[]→v.ownBlock≠some ad.block
theorem VOk.lt {w:World} {a:Val} (h:VOk w a) {ad:Addr} (e:a.A=some ad) (hz:a.zs≠[]):ad.block < w.heap.size:=by
 obtain⟨z,r,hzr⟩:=List.exists_cons_of_ne_nil hz
 obtain⟨ad2,e2,hb, -⟩:=h.rd 0 (.int .i8 z) (by rw [hzr];rfl)
 rw [e] at e2
 injection e2 with e3
 rw [e3];exact hb
theorem VOk.apart {w w':World} {a:Val} {row:Option Nat} (h:VOk w a) (hg:w.grownBy w' row) (hf:∀ ad:Addr,a.A=some ad→a.zs≠[]→row≠some ad.block):VOk w' a :=
 ⟨h.len,h.b8,h.hm,h.hc,fun j u hu=>by
  have hz:a.zs≠[]:=fun e=>by rw [e] at hu;simp [I8s] at hu
  obtain⟨ad,e,hb,hc⟩:=h.rd j u hu
  refine⟨ad,e,Nat.lt_of_lt_of_le hb hg.size,?_⟩
  rw [World.grownBy.cell_far hg (ad.add j) (by rw [Kit.add_block];exact hb) (by rw [Kit.add_block];exact fun e2=>hf ad e hz e2.symm)]
  exact hc⟩
theorem row_step {w w3:World} {Q:Nat→Ten} {k:Nat} {L:List Val} {v v3:Value} {a:Val} (hR:RowOf w Q (k+1) L) (hA:Apart v L) (hg:w.grownBy w3 v.ownBlock) (hat:v3.ownBlock=v.ownBlock∨v3.ownBlock=some w.heap.size)
  (ha:VOk w a) (hf:∀ ad:Addr,a.A=some ad→a.zs≠[]→v.ownBlock≠some ad.block) (hq:a.ten=Q (k+1)):RowOf w3 Q (k+1+1) (L ++ [a])∧Apart v3 (L ++ [a]):=by
 have h1:=hR.snoc ha hq
 have h2:Apart v (L ++ [a]):=fun b hb=>by
  rcases List.mem_append.1 hb with hb | hb
  ·exact hA b hb
  ·rw [List.mem_singleton.1 hb];exact hf
 refine⟨⟨h1.len,fun b hb=>(h1.ok b hb).apart hg (h2 b hb),h1.is⟩,fun b hb ad e hz=>?_⟩
 rcases hat with h | h
 ·rw [h];exact h2 b hb ad e hz
 ·rw [h];intro e2
  injection e2 with e3
  have:=(h1.ok b hb).lt e hz
  omega
theorem info_ten4:(Tryz.prog.info? 27).map (fun i=>(i.zero,i.size,i.bytes))=some (some (.agg #[.int .i64 0,.int .i64 0,.int .i64 0,.slice none 0 0]),4,48):=by kernel_rfl
theorem own_new4 (w:World) (base:Nat) (hb:base≤w.heap.size) (a:Val):(w.alloc (.cells #[.int .i64 a.X,.int .i64 a.Y,.int .i64 a.U,.slice a.A a.m a.c] 27)).ownsRow base 27 4 (.slice (some ⟨w.heap.size,0,none⟩) 1 1) 1 (vlV [a]) :=
 ⟨rfl,.inr ⟨w.heap.size,1,_,rfl,hb,heap_alloc_new w _,le_refl _,by unfold maxLen;omega,rfl,rfl⟩⟩
theorem four_ones (a b c:Int) (A:Option Addr) (m d:Nat):∀ u∈[Value.int .i64 a,.int .i64 b,.int .i64 c,.slice A m d],u.oneCell'=true:=by
 intro u hu
 simp at hu
 rcases hu with rfl | rfl | rfl | rfl <;> rfl
def ThvPost (Q:Nat→Ten) (R:Nat→Res) (n:Nat) (w:World) (e:Ending) (w':World):Prop :=
 ((∃ k z,stopR R n=some (k,z)∧e=.returned (.tuple #[.slice none 0 0,.int .i64 (k:Int),.int .i64 z])) ∨
   (stopR R n=none∧∃ v L,e=.returned (.tuple #[v,.int .i64 (n:Int),.int .i64 0])∧RowOf w' Q (n+1) L∧w'.ownsRow w.heap.size 27 4 v (n+1) (vlV L)))∧Below w.heap.size w w'
def ListsIn (Y:Nat→Nd) (WS BS:Nat→List Int) (n:Nat) (w:World):Prop:=∀ k,k < n→Kit.Rd w w.heap.size (Y k).WA (I8s (WS k))∧Kit.Rd w w.heap.size (Y k).BA (I32v (BS k))
theorem ListsIn.grown {Y:Nat→Nd} {WS BS:Nat→List Int} {n:Nat} {w w':World} (h:ListsIn Y WS BS n w) (hb:Below w.heap.size w w'):ListsIn Y WS BS n w':=fun k hk=>⟨((h k hk).1.below hb).more hb.size,((h k hk).2.below hb).more hb.size⟩
theorem throughV_to (X Y:Nat→Nd) (WS BS:Nat→List Int) (Q:Nat→Ten) (R:Nat→Res) (ia ib:Nat→Nat) (n c:Nat) (hn:n≤50) (hS:SeqOf X Y WS BS n Q R ia ib) (A:Option Addr) (w:World) (hT:NamesIn w) (hA:NodesAt w w.heap.size A n Y) (hI:ListsIn Y WS BS n w) (a0:Val) (hv0:VOk w a0) (hq0:a0.ten=Q 0) :
  Calls Tryz.prog 16 #[.slice A n c,.agg #[.int .i64 a0.X,.int .i64 a0.Y,.int .i64 a0.U,.slice a0.A a0.m a0.c],.func (.func 17) #[] #[]] w (ThvPost Q R n w):=by
 have HT:=hid hT
 have HA:=hid hA
 have HI:=hid hI
 have HS:=hid hS
 obtain⟨i0,hi0,hi1,hi2,hi3⟩:=info_parts info_ten4
 have hO:=own_new4 (w.alloc (.cells #[.int .i64 a0.X,.int .i64 a0.Y,.int .i64 a0.U,.slice a0.A a0.m a0.c] 27)) w.heap.size (by simp) a0
 rw [World.size_alloc] at hO
 have HO0:=hid hO
 have HB0:=hid (((Below.refl w.heap.size w).alloc (le_refl _) (.cells #[.int .i64 a0.X,.int .i64 a0.Y,.int .i64 a0.U,.slice a0.A a0.m a0.c] 27)).alloc (by simp) (.cells #[.int .i64 a0.X,.int .i64 a0.Y,.int .i64 a0.U,.slice a0.A a0.m a0.c] 27))
 have HR0:Hid (RowOf w Q 1 [a0]):=hid ⟨rfl,fun a ha=>by rw [List.mem_singleton.1 ha];exact hv0,fun j a ha=>by
  cases j with
  | zero=>simp at ha;rw [← ha];exact hq0
  | succ j=>simp at ha⟩
 have HP0:Hid (Apart (.slice (some ⟨w.heap.size+1,0,none⟩) 1 1) [a0]):=hid fun a ha ad e hz he=>by
  rw [List.mem_singleton.1 ha] at e hz
  have:=hv0.lt e hz
  simp [Value.ownBlock] at he
  omega
 clear hT hA hI hS hO hv0 hq0
 go_enter Tryz.func16,Tryz.ntmps16
 go_wp2_with fail
 generalize (w.alloc (.cells #[.int .i64 a0.X,.int .i64 a0.Y,.int .i64 a0.U,.slice a0.A a0.m a0.c] 27)).alloc (.cells #[.int .i64 a0.X,.int .i64 a0.Y,.int .i64 a0.U,.slice a0.A a0.m a0.c] 27)=W0 at HO0 HB0 ⊢
 go_loopw [9,18] (fun v u wr=>∃ (k:Nat) (L:List Val),k≤n∧u=.int .i64 k∧Hid (stopR R k=none)∧Hid (RowOf wr Q (k+1) L)∧Hid (wr.ownsRow w.heap.size 27 4 v (k+1) (vlV L))∧Hid (Below w.heap.size w wr)∧Hid (Apart v L)) (fun _ u _=>n - (intOf u).toNat)
 case atStart=>exact⟨0,[a0],Nat.zero_le _,rfl,hid rfl,hid (HR0.out.grown HB0.out),HO0,HB0,HP0⟩
 case round =>
  obtain⟨k,L,hk,rfl,hst,HR,HO,HB,HP⟩:=hrel
  clear HO0 HB0 HR0 HP0
  by_cases hlt:k < n
  ·obtain⟨Av,cv,rfl, -, -,hrd⟩:=Kit.zam HO.out
   obtain⟨ba,oa,rfl,hba,hra⟩:=(HA.out.below HB.out) k hlt
   have k0:(0:Int)≤(k:Int):=by omega
   have k1:(k:Int) < (n:Int):=by omega
   have HRA:=hid hra
   obtain⟨na1,na2⟩:=HS.out.na k hlt
   obtain⟨nb1,nb2⟩:=HS.out.nb k hlt
   have hP:=HS.out.made k hlt
   have hQn:=HS.out.next k hlt
   have hlk:=HS.out.like k hlt
   have hg:∀ j,j≤k→∃ a,L[j]?=some a∧a.ten=Q j:=fun j hj=>by
    have h:j < L.length:=by rw [HR.out.len];omega
    exact⟨L[j],List.getElem?_eq_getElem h,HR.out.is j _ (List.getElem?_eq_getElem h)⟩
   obtain⟨a,ha1,ha2⟩:=hg (ia k) na2
   obtain⟨b,hb1,hb2⟩:=hg (ib k) nb2
   rw [← ha2, ← hb2] at hP
   obtain⟨y,hy⟩:∃ y,Y k=y:=⟨_,rfl⟩
   obtain⟨r,hr⟩:∃ r,R k=r:=⟨_,rfl⟩
   have hcn:∀ wx:World,Below wr.heap.size wr wx→Calls Tryz.prog 17 #[.slice Av (k+1) cv,.agg y.val] wx (MTen wx r):=by
    intro wx hb
    have hbw:=HB.out.trans (hb.mono HB.out.size)
    have hi:=(HI.out.grown hbw) k hlt
    rw [hy] at hi na1 nb1 hlk
    rw [hr] at hP
    exact vnext_to (X k) y hlk (WS k) (BS k) L (k+1) cv HR.out.len (by omega) Av wx (fun a ha=>(HR.out.ok a ha).grown hb) (ia k) (ib k) na1 nb1 a b ha1 hb1 r hP (HT.out.below hbw HT.out.size) ((hrd.below hb).more hb.size) hi.1 hi.2
   have CN:=hid hcn
   have HG:=hid hP.1
   have H8:=hid hP.2.1
   have HQN:=hid hQn
   have HRR:=hid hr
   rw [hy] at HRA
   rw [hr] at HG H8
   clear hcn hP hQn hr hrd hra hba na1 nb1 hlk hg ha1 hb1 ha2 hb2 hy
   obtain⟨z,hz⟩:∃ z,r.er=z:=⟨_,rfl⟩
   have HZ:=hid hz
   have CN2:Hid (∀ wx:World,Below wr.heap.size wr wx→Calls Tryz.prog 17 #[.slice Av (k+1) cv,.agg y.val] wx fun e w'=>∃ A2 c2,e=.returned (.tuple #[.agg #[.int .i64 r.X,.int .i64 r.Y,.int .i64 r.U,.slice A2 r.m c2],.int .i64 z])∧r.m≤c2∧Kit.Rd w' w'.heap.size A2 (I8s r.xs)∧Below wx.heap.size wx w'∧∀ ad:Addr,A2=some ad→wx.heap.size≤ad.block):=by
    refine hid fun wx hb=>(CN.out wx hb).mono ?_
    rintro e w' ⟨v,rfl,ho,hb2⟩
    obtain⟨A2,c2,e2,h1, -,h2⟩:=Kit.zam ho
    have h3:=Kit.zaj ho
    subst e2
    exact⟨A2,c2,by rw [hz],h1,h2,hb2,fun ad e=>h3 ad.block (by rw [e];rfl)⟩
   clear CN hz
   by_cases hz0:z=0
   ·subst hz0
    have hgo:=stopR_go hst.out (by rw [HRR.out];exact HZ.out)
    have HGO:=hid hgo
    clear hgo
    go_wp2_with (first
     | (refine zbc rfl _ rfl ba (oa+k * 19) y rfl HRA.out ?_)
     | (refine zas rfl _ _ rfl wr.heap.size nd0 y rfl rfl (NdBox.new nd0 _ wr) ?_
        intro w1 hbx hbl hsz
        have HBX:=hid hbx
        have hh:Below wr.heap.size wr w1:=((Below.refl _ _).alloc (le_refl _) _).trans hbl
        have HB1:=hid (HB.out.trans (hh.mono HB.out.size))
        have HH:=hid hh
        have HO1:=hid (Kit.own_below HO.out hh)
        clear hbx hbl hsz hh)
     | (refine zak rfl _ rfl wr.heap.size y rfl HBX.out.1 ?_)
     | (go_at_call 17
        refine (CN2.out _ HH.out).mono ?_
        rintro e w2 ⟨A2,c2,rfl,hc2,hr2,hb,hge⟩
        have HFAR:Hid (∀ ad:Addr,A2=some ad→r.xs≠[]→(Value.slice Av (k+1) cv).ownBlock≠some ad.block):=hid fun ad e _ he=>by
         have h1:=hge ad e
         have h2:=(World.ownsRow.lt HO.out ad.block he).2
         have h3:=HH.out.size
         omega
        have HC2:=hid hc2
        have HR2:=hid hr2
        have HB2:=hid (HB1.out.trans (hb.mono HB1.out.size))
        have HO2:=hid (Kit.own_below HO1.out hb)
        have HH2:=hid (HH.out.trans (hb.mono HH.out.size))
        clear hc2 hr2 hb hge)
     | (at_builtin
        refine Kit.zal _ rfl (.tmp 34) (.tmp 36) _ rfl w.heap.size 27 i0 (.agg #[.int .i64 0,.int .i64 0,.int .i64 0,.slice none 0 0]) 4 48 Tryz.underlying53 hi0 hi1 hi2 hi3 rfl (by decide) _ (k+1) (vlV L) rfl ((HO2.out.alloc _).alloc _) _ _ 1 1 [.int .i64 r.X,.int .i64 r.Y,.int .i64 r.U,.slice A2 r.m c2] rfl rfl (rd_new1 _ _ _ _) (four_ones _ _ _ _ _ _) (by unfold maxLen;omega) (by omega) (by have:=HB2.out.size;simp;omega) ?_
        intro v3 w3 hown3 hg3 hat3
        have hB3:Below w.heap.size w w3:=((HB2.out.alloc HB2.out.size _).alloc (by have:=HB2.out.size;simp;omega) _).grown hg3 (by have:=HB2.out.size;simp;omega) (fun q hq=>Kit.zaj HO2.out q hq)
        have e:vlV L ++ [.int .i64 r.X,.int .i64 r.Y,.int .i64 r.U,.slice A2 r.m c2]=vlV (L ++ [⟨r.X,r.Y,r.U,A2,r.m,c2,r.xs⟩]):=by rw [vlV_append];rfl
        rw [e] at hown3
        have hup:=HH2.out.trans ((((Below.refl w2.heap.size w2).alloc (le_refl _) (.cells #[.int .i64 r.X,.int .i64 r.Y,.int .i64 r.U,.slice A2 r.m c2] 27)).alloc (by simp) (.cells #[.int .i64 r.X,.int .i64 r.Y,.int .i64 r.U,.slice A2 r.m c2] 27)).mono HH2.out.size)
        have hst3:=row_step (a:=⟨r.X,r.Y,r.U,A2,r.m,c2,r.xs⟩) (HR.out.grown hup) HP.out hg3 hat3
         ⟨HG.out.1,H8.out,HG.out.2.1,HC2.out,(((HR2.out.alloc (le_refl _) _).alloc (by simp) _).more (by simp;omega))⟩ HFAR.out (by rw [HQN.out,HRR.out];rfl)
        have HR3:=hid hst3.1
        have HP3:=hid hst3.2
        have HO3:=hid hown3
        have HB3:=hid hB3
        have HG3:=hid hg3
        clear hown3 hg3 hat3 hB3 e hup hst3))
    go_roundw
    case rel=>exact⟨k+1,_,by omega,by go_num,HGO,HR3,HO3,HB3,HP3⟩
    case measure=>simp [intOf];omega
   ·have hz1:(z != 0)=true:=by simpa using hz0
    have hend:=stopR_end hlt hst.out (by rw [HRR.out,HZ.out];exact hz0)
    rw [HRR.out,HZ.out] at hend
    have HEND:=hid hend
    clear hend
    go_wp2_with (first
     | (refine zbc rfl _ rfl ba (oa+k * 19) y rfl HRA.out ?_)
     | (refine zas rfl _ _ rfl wr.heap.size nd0 y rfl rfl (NdBox.new nd0 _ wr) ?_
        intro w1 hbx hbl hsz
        have HBX:=hid hbx
        have hh:Below wr.heap.size wr w1:=((Below.refl _ _).alloc (le_refl _) _).trans hbl
        have HB1:=hid (HB.out.trans (hh.mono HB.out.size))
        have HH:=hid hh
        clear hbx hbl hsz hh)
     | (refine zak rfl _ rfl wr.heap.size y rfl HBX.out.1 ?_)
     | (go_at_call 17
        refine (CN2.out _ HH.out).mono ?_
        rintro e w2 ⟨A2,c2,rfl,hc2,hr2,hb,hge⟩
        have HB2:=hid (HB1.out.trans (hb.mono HB1.out.size))
        clear hc2 hr2 hb hge))
    go_ret3
    exact⟨.inl ⟨k,z,HEND.out,rfl⟩,HB2.out.alloc HB2.out.size _⟩
  ·obtain rfl:k=n:=by omega
   go_wp2_with fail
   go_ret3
   exact⟨.inr ⟨hst.out,_,L,rfl,HR.out,HO.out⟩,HB.out⟩
end CGraph
end
end Go.Proofs.YtahekhpeomcfjaaGreatDoor
