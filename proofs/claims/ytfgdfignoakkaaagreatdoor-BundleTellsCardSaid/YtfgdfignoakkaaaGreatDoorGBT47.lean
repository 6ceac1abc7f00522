/- -/
import Derived.Test.YtfgdfignoakkaaaGreatDoorGBT46
open Go.Lib (hid)
open Nat (le_refl lt_of_succ_lt lt_succ_self)
set_option linter.unusedVariables false
set_option linter.unusedSimpArgs false
set_option maxRecDepth 100000
set_option maxHeartbeats 16000000
namespace Go.Proofs.YtfgdfignoakkaaaGreatDoor
namespace CBunM
end CBunM
namespace CConv
end CConv
namespace CCost
end CCost
namespace CFix
end CFix
namespace CGraph
end CGraph
namespace CGuard
end CGuard
namespace CJoin
end CJoin
namespace CKind
end CKind
namespace CLeb
end CLeb
namespace COctet
end COctet
namespace CSat
end CSat
namespace CShape
end CShape
namespace CSpan
end CSpan
namespace CTensor
end CTensor
namespace Kit
end Kit
open Go Go.ChangeShapes Go.WideShapes Go.ChangeAt Go.RowKit Go.Deep
section
namespace CBunO
open Kit CrcNum CCrc CBunM CLeb COctet
def magicZ:List Int:=[83,84,87,49]
theorem str_ne {zs:List Int} (hz:U8s zs) (hl:zs.length=4) (h:zs≠magicZ):strOfNums zs ≠ { data:=#[83,84,87,49] } := by
 match zs,hl with
 | [a,b,c,d],_ =>
   intro e
   have e1:=congrArg (fun s:ByteArray=>s.data.toList.map UInt8.toNat) e
   simp only [strOfNums_data,List.map_cons,List.map_nil] at e1
   have ha:=hz a (by simp)
   have hb:=hz b (by simp)
   have hc:=hz c (by simp)
   have hd:=hz d (by simp)
   have q:∀ x:Int,0≤x∧x≤255→(UInt8.ofNat x.toNat).toNat=x.toNat:=fun x hx=>by simp [UInt8.toNat_ofNat'];omega
   rw [q a ha,q b hb,q c hc,q d hd] at e1
   have e2:a.toNat=83∧b.toNat=84∧c.toNat=87∧d.toNat=49:=by
    simpa using e1
   exact h (by unfold magicZ;rw [show a=83 by omega,show b=84 by omega,show c=87 by omega,show d=49 by omega])
theorem le4_back {x0 x1 x2 x3 v:Int} (a0:0≤x0∧x0≤255) (a1:0≤x1∧x1≤255) (a2:0≤x2∧x2≤255) (a3:0≤x3∧x3≤255) (h:x0+256 * x1+65536 * x2+16777216 * x3=v):le4 v=[x0,x1,x2,x3]:=by
 unfold le4
 rw [show v % 256=x0 by omega,show v / 256 % 256=x1 by omega,show v / 65536 % 256=x2 by omega,show v / 16777216=x3 by omega]
def Told (w:World) (e:Ending) (w':World):Prop:=∃ er:Int,(er=22∨er=23)∧e=.returned (.tuple #[.slice none 0 0,.int .i64 er])∧Below w.heap.size w w'
theorem open_bad (A:Option Addr) (zs:List Int) (n c m:Nat) (hn:zs.length=n) (hm:n=m+4) (h4:4≤m) (hc:n≤c) (hl:n≤1048576) (hz:U8s zs) (w:World) (hT:za5 w) {B:Nat} (hB:B≤w.heap.size) (hr:Kit.Rd w B A (zs.map (.int .u8)))
  (hbad:zs.take 4≠magicZ∨zs.drop m≠le4 (toI (crcOf (zs.take m)))) :
  Calls Tryz.prog 37 #[.slice A n c] w (Told w):=by
 obtain⟨b,o,rfl,hbl,hcell⟩:=hr.plain (by simp;omega)
 have hr4:Kit.Rd w B (some ⟨b,o,none⟩) ((zs.take 4).map (.int .u8)):=by rw [List.map_take];exact hr.take 4
 have k1:¬ (n:Int) > 1048576:=by omega
 have k2:¬ (n:Int) < 8:=by omega
 have k3:(4:Int)≤(c:Int):=by omega
 have k3n:4≤c:=by omega
 have hl4:(zs.take 4).length=4:=by rw [List.length_take];omega
 have hz4:U8s (zs.take 4):=fun z h=>hz z (List.mem_of_mem_take h)
 obtain⟨s,hs⟩:∃ s,strOfNums (zs.take 4)=s:=⟨_,rfl⟩
 have cv:=fun c'=>conv_str (n:=4) (c:=c') hr4 hl4 s hs
 by_cases hmg:zs.take 4=magicZ
 ·have hs2:s = { data:=#[83,84,87,49] } := by rw [← hs,hmg];rfl
  subst hs2
  have hd:zs.drop m≠le4 (toI (crcOf (zs.take m))):=by
   rcases hbad with h | h
   ·exact absurd hmg h
   ·exact h
  have hdl:(zs.drop m).length=4:=by rw [List.length_drop];omega
  obtain⟨x0,x1,x2,x3,hx⟩:∃ x0 x1 x2 x3,zs.drop m=[x0,x1,x2,x3]:=by
   match zs.drop m,hdl with
   | [a,b,c,d],_=>exact⟨a,b,c,d,rfl⟩
  have hzd:U8s (zs.drop m):=fun z h=>hz z (List.mem_of_mem_drop h)
  rw [hx] at hzd hd
  have a0:=hzd x0 (by simp)
  have a1:=hzd x1 (by simp)
  have a2:=hzd x2 (by simp)
  have a3:=hzd x3 (by simp)
  have hcx:∀ (q:Nat) (v:Int),[x0,x1,x2,x3][q]?=some v→w.cell? ⟨b,o+m+q,none⟩=some (.int .u8 v):=fun q v hq=>by
   rw [← hx,List.getElem?_drop] at hq
   rw [Nat.add_assoc]
   exact hcell (m+q) (.int .u8 v) (by rw [List.getElem?_map,hq];rfl)
  obtain⟨sm,hsm⟩:∃ sm,toI (crcOf (zs.take m))=sm:=⟨_,rfl⟩
  obtain⟨v,hv⟩:∃ v,x0+256 * x1+65536 * x2+16777216 * x3=v:=⟨_,rfl⟩
  have hne:v≠sm:=fun e=>hd (by rw [hsm, ← e,le4_back a0 a1 a2 a3 hv])
  have hne1:(v != sm)=true:=by simpa using hne
  have CG:=hid (get32_yes b (o+m) (n - m) (c - m) (by omega) x0 x1 x2 x3 w (hcx 0 _ rfl) (hcx 1 _ rfl) (hcx 2 _ rfl) (hcx 3 _ rfl) a0 a1 a2 a3)
  rw [hv] at CG
  have CO:Hid (∀ q,Calls Tryz.prog 32 #[.slice (some ⟨b,o,none⟩) m c] (w.drewN q) fun e w'=>e=.returned (.int .u32 sm)∧(w.drewN q)=w'):=hid (fun q=>by
   have h1:=of_n (some ⟨b,o,none⟩) (zs.take m) m c (by rw [List.length_take];omega) (by omega) (fun z h=>hz z (List.mem_of_mem_take h)) (w.drewN q) (fun j hj=>hT j hj) (B:=B) (by rw [List.map_take];exact (hr.drewN q).take m)
   rw [hsm] at h1
   exact h1)
  have j1:IntKind.i64.wrap ((n:Int) - 4)=(m:Int):=by rw [IntWalk.i64_in _ (by omega)];omega
  have j2:(0:Int)≤(m:Int):=by omega
  have j3:(m:Int)≤(n:Int):=by omega
  have j4:(m:Int)≤(c:Int):=by omega
  have j5:¬ c=m:=by omega
  have j6:(n:Int)≤(c:Int):=by omega
  have j7:m≤n:=by omega
  have j8:m≤c:=by omega
  clear hs hx hzd hd hcx hsm hv hne hdl hmg hbad a0 a1 a2 a3 hcell hr hr4 hz hz4 hl4 hT
  obtain rfl:m=n - 4:=by omega
  clear hm
  go_enter Tryz.func37,Tryz.ntmps37
  go_wp2_with (first
   | (go_at_call 62
      (with_reducible refine CG.out.mono ?_)
      rintro e w1 ⟨rfl,q,rfl⟩)
   | (go_at_call 32
      (with_reducible refine (CO.out q).mono ?_)
      rintro e w2 ⟨rfl,rfl⟩))
  refine bodyPost_ret (zbm rfl _ _ _) rfl ?_
  exact⟨23,.inr rfl,rfl,Kit.below_drewN (Below.refl _ _) _⟩
 ·have hs2:s ≠ { data:=#[83,84,87,49] } := by rw [← hs];exact str_ne hz4 hl4 hmg
  have hs3:(s.toList == [83,84,87,49])=false:=by
   rw [beq_eq_false_iff_ne]
   intro e
   rw [ByteArray.toList_eq] at e
   exact hs2 (ByteArray.ext (Array.toList_inj.1 e))
  clear hs hmg hbad hcell hr hr4 hz hz4 hl4 hT hm
  go_enter Tryz.func37,Tryz.ntmps37
  go_wp2_with fail
  refine bodyPost_ret (zbm rfl _ _ _) rfl ?_
  exact⟨22,.inl rfl,rfl,Below.refl _ _⟩
end CBunO
end
section
namespace CBunO
open Kit LebNum CrcNum CCrc CKind CBunM CLeb COctet
theorem decode_bad (A:Option Addr) (zs:List Int) (n c m:Nat) (hn:zs.length=n) (hm:n=m+4) (h4:4≤m) (hc:n≤c) (hl:n≤1048576) (hz:U8s zs) (w:World) (hT:za5 w) {B:Nat} (hB:B≤w.heap.size) (hr:Kit.Rd w B A (zs.map (.int .u8)))
  (hbad:zs.take 4≠magicZ∨zs.drop m≠le4 (toI (crcOf (zs.take m)))) :
  Calls Tryz.prog 18 #[.slice A n c] w fun e w'=>∃ er:Int,(er=22∨er=23)∧e=.returned (.tuple #[.agg #[.int .i64 0,.int .i64 0,.int .i64 0,.int .i64 0,.slice none 0 0],.int .i64 er])∧Below w.heap.size w w':=by
 have ha:Below w.heap.size w (w.alloc (.cells #[.int .i64 0,.int .i64 0,.int .i64 0,.int .i64 0,.slice none 0 0] 26)):=(Below.refl _ _).alloc (le_refl _) _
 have CO:=hid (open_bad A zs n c m hn hm h4 hc hl hz (w.alloc (.cells #[.int .i64 0,.int .i64 0,.int .i64 0,.int .i64 0,.slice none 0 0] 26)) (hT.below ha hT.size) (Nat.le_trans hB ha.size) (hr.below (ha.mono hB)) hbad)
 have HA:=hid ha
 have HBX:=hid (CBox.new [.int .i64 0,.int .i64 0,.int .i64 0,.int .i64 0,.slice none 0 0] 26 w)
 have HSZ:Hid (w.heap.size < (w.alloc (.cells #[.int .i64 0,.int .i64 0,.int .i64 0,.int .i64 0,.slice none 0 0] 26)).heap.size):=hid (by simp)
 clear ha hn hm h4 hc hl hz hT hB hr hbad
 unfold Told at CO
 go_enter Tryz.func18,Tryz.ntmps18
 go_upto_region 1 with fail
 generalize w.alloc (.cells #[.int .i64 0,.int .i64 0,.int .i64 0,.int .i64 0,.slice none 0 0] 26)=W0 at CO HA HBX HSZ ⊢
 go_upto_region 2 with (go_at_call 37;(refine CO.out.mono ?_);rintro e w1 ⟨er,her,rfl,hb⟩;(have HB1:=hid (HA.out.trans (hb.mono HA.out.size)));(have HBX1:=hid (HBX.out.below HSZ.out hb));(have HER:=hid her);clear hb)
 have h0:¬ er=0:=by rcases her with h | h <;> omega
 have h1:(er != 0)=true:=by simpa using h0
 clear her
 go_wp2_with (refine bu_store rfl _ _ rfl w.heap.size _ ⟨0,0,0,0,none,0,0,fun _=>CBund.md0⟩ rfl rfl HBX1.out ?_;intro w9 g1 g2 g3 g4;(have HG1:=hid g1);(have HG2:=hid g2);clear g1 g2 g3 g4)
 refine bodyPost_ret (Kit.zaa rfl _ _ w.heap.size 0 [.int .i64 0,.int .i64 0,.int .i64 0,.int .i64 0,.slice none 0 0] _ rfl HG1.out.1 Tryz.underlying26 rfl (by kernel_rfl)) rfl ?_
 exact⟨er,HER.out,rfl,HB1.out.trans HG2.out⟩
/-! ### numbers -/
def u64Z (v:Int):Int:=if v < 0 then v+18446744073709551616 else v
theorem u64Z_is {v:Int} (h : -9223372036854775808≤v∧v≤9223372036854775807):IntKind.u64.wrap v=u64Z v∧0≤u64Z v∧u64Z v≤18446744073709551615:=by
 unfold u64Z
 rw [IntKind.wrap_u64]
 split <;> omega
def catD (vs:Nat→Int):Nat→List Int
 | 0=>[]
 | k+1=>catD vs k ++ digZ (u64Z (vs k))
theorem catD_len (vs:Nat→Int) (hv:∀ k, -9223372036854775808≤vs k∧vs k≤9223372036854775807) (k:Nat):(catD vs k).length≤10 * k:=by
 induction k with
 | zero=>simp [catD]
 | succ k ih =>
   rw [catD,List.length_append]
   have h:=u64Z_is (hv k)
   have:=zb5 h.2.1 h.2.2
   omega
theorem zbx (b q c:Nat) (vs:Nat→Int) (hq:q≤1000) (w:World) (hv:∀ k, -9223372036854775808≤vs k∧vs k≤9223372036854775807) (hc:∀ k,k < q→w.cell? ⟨b,k,none⟩=some (.int .i64 (vs k))) (hb:b < w.heap.size) :
  Calls Tryz.prog 22 #[.slice (some ⟨b,0,none⟩) q c] w (OwnX w (catD vs q).length ((catD vs q).map (.int .u8))):=by
 have HV:=hid hv
 have HC:=hid hc
 have HB0:=hid hb
 obtain⟨i0,hi0,hi1,hi2,hi3⟩:=kparts binfo_u8
 clear hv hc hb
 go_enter Tryz.func22,Tryz.ntmps22
 go_wp2_with fail
 go_loopw [3,8] (fun v u wr=>∃ k:Nat,k≤q∧u=.int .i64 k∧Hid (wr.ownsRow w.heap.size 5 1 v (catD vs k).length ((catD vs k).map (.int .u8)))∧Hid (Below w.heap.size w wr)) (fun _ u _=>q - (intOf u).toNat)
 case atStart=>exact⟨0,Nat.zero_le _,rfl,hid (by simpa [catD] using World.ownsRow_nil w w.heap.size 5 1),hid (Below.refl _ _)⟩
 case round =>
  obtain⟨k,hk,rfl,HO,HB⟩:=hrel
  by_cases hlt:k < q
  ·have c0:wr.cell? ⟨b,k,none⟩=some (.int .i64 (vs k)):=(HB.out.cell (p:=⟨b,k,none⟩) HB0.out).trans (HC.out k hlt)
   obtain⟨u1,u2,u3⟩:=u64Z_is (HV.out k)
   have hle:=catD_len vs HV.out k
   have k0:(0:Int)≤(k:Int):=by omega
   have k1:(k:Int) < (q:Int):=by omega
   have hdl:=zb5 u2 u3
   have HDL:=hid hdl
   have CP:=hid (fun wx:World=>put_to (u64Z (vs k)) u2 u3 _ _ rfl rfl wx)
   obtain⟨dl,hd⟩:∃ dl,(digZ (u64Z (vs k))).length=dl:=⟨_,rfl⟩
   rw [hd] at CP hdl
   have HD:=hid hd
   generalize hvk:vs k=vk at c0 u1 u2 u3 CP HD
   have HVK:=hid hvk
   obtain⟨uk,huk⟩:∃ uk,u64Z vk=uk:=⟨_,rfl⟩
   rw [huk] at u1 u2 u3 CP HD
   have HUK:=hid huk
   clear hd hvk HDL huk
   go_wp2_with (first
    | (go_at_call 45
       refine (CP.out _).mono ?_
       rintro e w2 ⟨A2,c2,rfl,p1,p2,hr2,hb2⟩
       have HR2:=hid hr2
       have HB2:=hid (HB.out.trans (hb2.mono HB.out.size))
       have HO2:=hid (Kit.own_below HO.out hb2)
       have HW2:=hid (HB.out.trans (hb2.mono HB.out.size)).size
       clear p1 p2 hr2 hb2)
    | (at_builtin
       refine Kit.zaj _ rfl (.tmp 12) (.tmp 15) _ rfl w.heap.size 5 i0 (.int .u8 0) 1 1 Tryz.underlying27 hi0 hi1 hi2 hi3 rfl (by decide) _ _ _ rfl HO2.out _ _ _ _ _ rfl (by rw [List.length_map,HD.out,Nat.mul_one]) HR2.out (Kit.zbh .u8 _) (by unfold maxLen;omega) (by omega) HW2.out ?_
       intro v3 w3 hown3 hg3 hat3
       have HB3:=hid (HB2.out.grown hg3 HW2.out (fun q hq=>Kit.zam HO2.out q hq))
       have HO3:Hid (w3.ownsRow w.heap.size 5 1 v3 (catD vs (k+1)).length ((catD vs (k+1)).map (.int .u8))):=hid (by rw [catD,HVK.out,HUK.out,List.length_append,List.map_append,HD.out];exact hown3)
       clear hown3 hg3 hat3))
   go_roundw
   case rel=>exact⟨k+1,by omega,by go_num,HO3,HB3⟩
   case measure=>simp [intOf];omega
  ·obtain rfl:k=q:=by omega
   go_wp2_with fail
   go_ret
   exact own_x HO.out HB.out
end CBunO
end
section
namespace CValid
open Plain CSat CFix CShape CTensor CConv CSpan CKind CGraph CJoin CGuard CBund CCost CVerd
structure BuRdy (w:World) (u:Bu) (S:Nat→Nat→Ls):Prop where
 ok:BuOk w w.heap.size u
 ls:∀ i,i < u.n→∀ k,k < (u.M i).n→LsOk w w.heap.size ((u.M i).K k) (S i k)
 few:FewBu u
theorem BuRdy.below {w w':World} {u:Bu} {S:Nat→Nat→Ls} (h:BuRdy w u S) (hb:Below w.heap.size w w'):BuRdy w' u S :=
 ⟨(h.ok.below hb).more hb.size,fun i hi k hk=>((h.ls i hi k hk).below hb).more hb.size,h.few⟩
theorem BuRdy.blk {w:World} {u:Bu} {S:Nat→Nat→Ls} (h:BuRdy w u S) {i:Nat} (hi:i < u.n) {k:Nat} (hk:k < (u.M i).n):BkRdy w ((u.M i).K k) (S i k) :=
 ⟨((h.ok.each i hi).each k hk).nodes,h.ls i hi k hk,(h.few.2 i hi).2 k hk⟩
theorem sets_of {w:World} {B:Nat} {u:Bu} (h:BuOk w B u):∃ S:Nat→Nat→Ls,∀ i,i < u.n→∀ k,k < (u.M i).n→LsOk w B ((u.M i).K k) (S i k) :=
 zbw (fun _=>ls0) (n:=u.n) (p:=fun i s=>∀ k,k < (u.M i).n→LsOk w B ((u.M i).K k) (s k)) (fun i hi =>
  zbw ls0 (n:=(u.M i).n) (p:=fun k s=>LsOk w B ((u.M i).K k) s) (fun k hk=>ls_of ((h.each i hi).each k hk)))
/-! ### faults -/
abbrev Flt:=Int × Int × Int × Int
def QAt (B:Nat) (q:Flt) (w:World):Prop:=w.cell? ⟨B,0,none⟩=some (.int .i64 q.1)∧w.cell? ⟨B,1,none⟩=some (.int .i64 q.2.1)∧w.cell? ⟨B,2,none⟩=some (.int .i64 q.2.2.1)∧w.cell? ⟨B,3,none⟩=some (.int .i64 q.2.2.2)
def QOk (B:Nat) (q:Flt) (w:World):Prop:=QAt B q w∧w.frozen? ⟨B,0,none⟩=false∧w.frozen? ⟨B,1,none⟩=false∧w.frozen? ⟨B,2,none⟩=false∧w.frozen? ⟨B,3,none⟩=false
theorem QOk.new (q:Flt) (T:TypeId) (w:World):QOk w.heap.size q (w.alloc (.cells #[.int .i64 q.1,.int .i64 q.2.1,.int .i64 q.2.2.1,.int .i64 q.2.2.2] T)) :=
 ⟨⟨Kit.zab _ _ _ _,Kit.zab _ _ _ _,Kit.zab _ _ _ _,Kit.zab _ _ _ _⟩,World.frozen?_alloc_at _ _ _ _ rfl,World.frozen?_alloc_at _ _ _ _ rfl,World.frozen?_alloc_at _ _ _ _ rfl,World.frozen?_alloc_at _ _ _ _ rfl⟩
theorem QOk.below {B B':Nat} {q:Flt} {w w':World} (h:QOk B q w) (hB:B < B') (hb:Below B' w w'):QOk B q w':=by
 obtain⟨⟨h0,h1,h2,h3⟩,f0,f1,f2,f3⟩:=h
 exact⟨⟨(hb.cell (p:=⟨B,0,none⟩) hB).trans h0,(hb.cell (p:=⟨B,1,none⟩) hB).trans h1,(hb.cell (p:=⟨B,2,none⟩) hB).trans h2,(hb.cell (p:=⟨B,3,none⟩) hB).trans h3⟩,
  (hb.frozen (p:=⟨B,0,none⟩) hB).trans f0,(hb.frozen (p:=⟨B,1,none⟩) hB).trans f1,(hb.frozen (p:=⟨B,2,none⟩) hB).trans f2,(hb.frozen (p:=⟨B,3,none⟩) hB).trans f3⟩
theorem QOk.set0 {B:Nat} {q:Flt} {w:World} (h:QOk B q w) (z:Int):QOk B (z,q.2) (w.setCell ⟨B,0,none⟩ (.int .i64 z)):=by
 obtain⟨⟨h0,h1,h2,h3⟩,f0,f1,f2,f3⟩:=h
 exact⟨⟨by go_cell,by go_cell,by go_cell,by go_cell⟩,by go_cell,by go_cell,by go_cell,by go_cell⟩
theorem QOk.set1 {B:Nat} {q:Flt} {w:World} (h:QOk B q w) (z:Int):QOk B (q.1,z,q.2.2) (w.setCell ⟨B,1,none⟩ (.int .i64 z)):=by
 obtain⟨⟨h0,h1,h2,h3⟩,f0,f1,f2,f3⟩:=h
 exact⟨⟨by go_cell,by go_cell,by go_cell,by go_cell⟩,by go_cell,by go_cell,by go_cell,by go_cell⟩
theorem QOk.other {B C o:Nat} {q:Flt} {w:World} {v:Value} (h:QOk B q w) (hne:B≠C):QOk B q (w.setCell ⟨C,o,none⟩ v):=by
 obtain⟨⟨h0,h1,h2,h3⟩,f0,f1,f2,f3⟩:=h
 exact⟨⟨by go_cell,by go_cell,by go_cell,by go_cell⟩,by go_cell,by go_cell,by go_cell,by go_cell⟩
theorem zb6 {w:World} {b:Nat} {x y z v:Value} (h0:w.cell? ⟨b,0,none⟩=some x) (h1:w.cell? ⟨b,1,none⟩=some y) (h2:w.cell? ⟨b,2,none⟩=some z) (h3:w.cell? ⟨b,3,none⟩=some v):w.rangeAt b 0 [x,y,z,v]:=by
 intro j u hj
 match j,hj with
 | 0,hj=>simpa [← hj] using h0
 | 1,hj=>simpa [← hj] using h1
 | 2,hj=>simpa [← hj] using h2
 | 3,hj=>simpa [← hj] using h3
def SaysQ (q:Flt) (w:World) (e:Ending) (w':World):Prop:=e=.returned (.agg #[.int .i64 q.1,.int .i64 q.2.1,.int .i64 q.2.2.1,.int .i64 q.2.2.2])∧Below w.heap.size w w'
def wiV (u:Bu) (S:Nat→Nat→Ls) (i:Nat):Flt:=match modO (u.M i) (S i) (mdT0 u) u.cl with | some r=>(r.2.2,(i:Int),r.1,r.2.1) | none=>(0,(i:Int), -1, -1)
theorem wiV_some {u:Bu} {S:Nat→Nat→Ls} {i:Nat} {k p z:Int} (h:modO (u.M i) (S i) (mdT0 u) u.cl=some (k,p,z)):wiV u S i=(z,(i:Int),k,p):=by unfold wiV;rw [h]
theorem wiV_none {u:Bu} {S:Nat→Nat→Ls} {i:Nat} (h:modO (u.M i) (S i) (mdT0 u) u.cl=none):wiV u S i=(0,(i:Int), -1, -1):=by unfold wiV;rw [h]
theorem bk_some {b:Bk} {s:Ls} {t0:Tri} {cl:Int} {last:Bool} (h:bkZ b s t0 cl last≠0):blkO b s t0 cl last=some (bkP b s t0 cl last,bkZ b s t0 cl last):=by
 unfold bkP bkZ at *
 cases hs:blkO b s t0 cl last with
 | none=>rw [hs] at h;exact absurd rfl h
 | some r=>rfl
theorem modO_go {m:Md} {S:Nat→Ls} {t0:Tri} {cl:Int} (h1:¬ m.n=0) (h2:¬ 6 < m.n):modO m S t0 cl=mdO m S t0 cl m.n:=by unfold modO;rw [if_neg h1,if_neg h2]
def mnZ (n:Nat):Int:=if n=0 then 12 else if 6 < n then 4 else 0
theorem many_to (A:Option Addr) (n c:Nat) (w:World):Calls Tryz.prog 70 #[.slice A n c] w fun e w'=>e=.returned (.int .i64 (mnZ n))∧Below w.heap.size w w':=by
 by_cases h0:n=0
 ·subst h0
  go_enter Tryz.func70,Tryz.ntmps70
  go_wp2_with fail
  go_ret
  exact⟨rfl,Below.refl _ _⟩
 ·have h1:((n:Int) == 0)=false:=by simp;omega
  have h1b:¬ (n:Int)=0:=by omega
  by_cases h2:6 < n
  ·have h3:(n:Int) > 6:=by omega
   have h4:decide ((6:Int) < (n:Int))=true:=by simp;omega
   have h5:decide (6 < n)=true:=by simp [h2]
   have hz:mnZ n=4:=by unfold mnZ;rw [if_neg h0,if_pos h2]
   rw [hz]
   clear hz h0 h2
   go_enter Tryz.func70,Tryz.ntmps70
   go_wp2_with fail
   go_ret
   exact⟨rfl,Below.refl _ _⟩
  ·have h3:¬ (n:Int) > 6:=by omega
   have h4:decide ((6:Int) < (n:Int))=false:=by simp;omega
   have h5:decide (6 < n)=false:=by simp;omega
   have hz:mnZ n=0:=by unfold mnZ;rw [if_neg h0,if_neg h2]
   rw [hz]
   clear hz h0 h2
   go_enter Tryz.func70,Tryz.ntmps70
   go_wp2_with fail
   go_ret
   exact⟨rfl,Below.refl _ _⟩
theorem outside_to (u:Bu) (w:World):Calls Tryz.prog 43 #[.agg u.val.toArray] w fun e w'=>e=.returned (.int .i64 (zbp u))∧Below w.heap.size w w':=by
 have HB0:=hid ((Below.refl w.heap.size w).alloc (le_refl _) (.cells u.val.toArray 26))
 have HU:=hid (UAt.new u 26 w)
 have HL:Hid (w.heap.size < (w.alloc (.cells u.val.toArray 26)).heap.size):=hid (by simp)
 obtain⟨sb,hsb⟩:∃ sb,zae u.H u.W u.C=sb:=⟨_,rfl⟩
 have CR:=hid (fun wx:World=>zal u.H u.W u.C sb hsb wx)
 have hz:zbp u=if sb=false then 5 else if u.cl < 2∨16 < u.cl then 2 else if u.n=0 then 12 else if 3 < u.n then 4 else 0:=by unfold zbp;rw [hsb]
 have HZ:=hid hz
 clear hsb hz
 go_enter Tryz.func43,Tryz.ntmps43
 go_upto_region 1 with fail
 generalize w.alloc (.cells u.val.toArray 26)=W0 at HB0 HU HL ⊢
 obtain⟨c0,c1,c2,c3,c4⟩:=HU.out
 cases sb with
 | false =>
   have HE:Hid (zbp u=5):=hid (by rw [HZ.out];rfl)
   go_wp2_with (go_at_call 69;(refine (CR.out _).mono ?_);rintro e w1 ⟨rfl,hb⟩;(have HB1:=hid (HB0.out.trans (hb.mono HB0.out.size)));(have HU1:=hid (HU.out.below HL.out hb));clear hb c0 c1 c2 c3 c4;obtain⟨c0,c1,c2,c3,c4⟩:=HU1.out)
   go_ret
   exact⟨by rw [HE.out];first | done | rfl,HB1.out⟩
 | true =>
   have hz2:zbp u=if u.cl < 2∨16 < u.cl then 2 else if u.n=0 then 12 else if 3 < u.n then 4 else 0:=by rw [HZ.out];rfl
   have HZ2:=hid hz2
   clear hz2 HZ
   by_cases h1:u.cl < 2
   ·have h1b:decide (u.cl < 2)=true:=by simp [h1]
    have HE:Hid (zbp u=2):=hid (by rw [HZ2.out,if_pos (.inl h1)])
    go_wp2_with (go_at_call 69;(refine (CR.out _).mono ?_);rintro e w1 ⟨rfl,hb⟩;(have HB1:=hid (HB0.out.trans (hb.mono HB0.out.size)));(have HU1:=hid (HU.out.below HL.out hb));clear hb c0 c1 c2 c3 c4;obtain⟨c0,c1,c2,c3,c4⟩:=HU1.out)
    go_ret
    exact⟨by rw [HE.out];first | done | rfl,HB1.out⟩
   ·have h1b:decide (u.cl < 2)=false:=by simp;omega
    by_cases h2:16 < u.cl
    ·have h2a:u.cl > 16:=h2
     have h2b:decide (16 < u.cl)=true:=by simp [h2]
     have HE:Hid (zbp u=2):=hid (by rw [HZ2.out,if_pos (.inr h2)])
     go_wp2_with (go_at_call 69;(refine (CR.out _).mono ?_);rintro e w1 ⟨rfl,hb⟩;(have HB1:=hid (HB0.out.trans (hb.mono HB0.out.size)));(have HU1:=hid (HU.out.below HL.out hb));clear hb c0 c1 c2 c3 c4;obtain⟨c0,c1,c2,c3,c4⟩:=HU1.out)
     go_ret
     exact⟨by rw [HE.out];first | done | rfl,HB1.out⟩
    ·have h2a:¬ u.cl > 16:=h2
     have h2b:decide (16 < u.cl)=false:=by simp;omega
     have hz3:zbp u=if u.n=0 then 12 else if 3 < u.n then 4 else 0:=by rw [HZ2.out,if_neg (by omega)]
     have HZ3:=hid hz3
     clear hz3 HZ2
     by_cases h3:u.n=0
     ·have HE:Hid (zbp u=12):=hid (by rw [HZ3.out,if_pos h3])
      go_wp2_with (go_at_call 69;(refine (CR.out _).mono ?_);rintro e w1 ⟨rfl,hb⟩;(have HB1:=hid (HB0.out.trans (hb.mono HB0.out.size)));(have HU1:=hid (HU.out.below HL.out hb));clear hb c0 c1 c2 c3 c4;obtain⟨c0,c1,c2,c3,c4⟩:=HU1.out)
      go_ret
      exact⟨by rw [HE.out];first | done | rfl,HB1.out⟩
     ·have h3a:((u.n:Int) == 0)=false:=by simp;omega
      have h3b:¬ (u.n:Int)=0:=by omega
      by_cases h4:3 < u.n
      ·have h4a:(u.n:Int) > 3:=by omega
       have h4b:decide ((3:Int) < (u.n:Int))=true:=by simp;omega
       have h4c:decide (3 < u.n)=true:=by simp [h4]
       have HE:Hid (zbp u=4):=hid (by rw [HZ3.out,if_neg h3,if_pos h4])
       clear h3 h4
       go_wp2_with (go_at_call 69;(refine (CR.out _).mono ?_);rintro e w1 ⟨rfl,hb⟩;(have HB1:=hid (HB0.out.trans (hb.mono HB0.out.size)));(have HU1:=hid (HU.out.below HL.out hb));clear hb c0 c1 c2 c3 c4;obtain⟨c0,c1,c2,c3,c4⟩:=HU1.out)
       go_ret
       exact⟨by rw [HE.out];first | done | rfl,HB1.out⟩
      ·have h4a:¬ (u.n:Int) > 3:=by omega
       have h4b:decide ((3:Int) < (u.n:Int))=false:=by simp;omega
       have h4c:decide (3 < u.n)=false:=by simp;omega
       have HE:Hid (zbp u=0):=hid (by rw [HZ3.out,if_neg h3,if_neg h4])
       clear h3 h4
       go_wp2_with (go_at_call 69;(refine (CR.out _).mono ?_);rintro e w1 ⟨rfl,hb⟩;(have HB1:=hid (HB0.out.trans (hb.mono HB0.out.size)));(have HU1:=hid (HU.out.below HL.out hb));clear hb c0 c1 c2 c3 c4;obtain⟨c0,c1,c2,c3,c4⟩:=HU1.out)
       go_ret
       exact⟨by rw [HE.out];first | done | rfl,HB1.out⟩
end CValid
end
end Go.Proofs.YtfgdfignoakkaaaGreatDoor
