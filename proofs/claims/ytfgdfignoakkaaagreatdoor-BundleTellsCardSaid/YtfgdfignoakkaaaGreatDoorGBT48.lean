/- -/
import Derived.Test.YtfgdfignoakkaaaGreatDoorGBT47
open Go.Lib (hid)
open Nat (le_refl lt_of_succ_lt lt_succ_self)
set_option linter.unusedVariables false
set_option linter.unusedSimpArgs false
set_option maxRecDepth 100000
set_option maxHeartbeats 16000000
namespace Go.Proofs.YtfgdfignoakkaaaGreatDoor
namespace CBunM
end CBunM
namespace CKind
end CKind
namespace CLeb
end CLeb
namespace COctet
end COctet
namespace Kit
end Kit
open Go Go.ChangeShapes Go.WideShapes Go.ChangeAt Go.RowKit Go.Deep
section
namespace CBunO
open Kit LebNum CrcNum CCrc CKind CBund CBunM CLeb COctet
theorem catP_u8 {L:Nat→Pt} {k:Nat} (h:∀ j,j < k→U8s (L j).z):U8s (catP L k):=by
 induction k with
 | zero=>intro z hz;simp [catP] at hz
 | succ k ih =>
   intro z hz
   rw [catP,List.mem_append] at hz
   rcases hz with q | q
   ·exact ih (fun j hj=>h j (by omega)) z q
   ·exact h k (by omega) z q
theorem catP_first (L:Nat→Pt) (k:Nat):∃ r,catP L (k+1)=(L 0).z ++ r:=by
 induction k with
 | zero=>exact⟨[],by simp [catP]⟩
 | succ k ih =>
   obtain⟨r,hr⟩:=ih
   exact⟨r ++ (L (k+1)).z,by rw [catP,hr,List.append_assoc]⟩
theorem catP_bd {L:Nat→Pt} {k M:Nat} (h:∀ j,j < k→(L j).z.length≤M):(catP L k).length≤k * M:=by
 induction k with
 | zero=>simp [catP]
 | succ k ih =>
   rw [catP,List.length_append,Nat.succ_mul]
   have:=ih (fun j hj=>h j (by omega))
   have:=h k (by omega)
   omega
theorem le4_u8 {v:Int} (h:0≤v∧v≤4294967295):U8s (le4 v):=by
 intro z hz
 simp only [le4,List.mem_cons,List.not_mem_nil,or_false] at hz
 rcases hz with rfl | rfl | rfl | rfl <;> omega
theorem catD_u8 (vs:Nat→Int) (k:Nat):U8s (catD vs k):=by
 induction k with
 | zero=>intro z hz;simp [catD] at hz
 | succ k ih =>
   intro z hz
   rw [catD,List.mem_append] at hz
   rcases hz with q | q
   ·exact ih z q
   ·exact CPkI.za8 _ z q
def PtAt (w:World) (p:Pt):Prop:=p.z.length=p.n∧U8s p.z∧p.z.length≤300000000∧Rd w w.heap.size p.A (p.z.map (.int .u8))
theorem PtAt.below {w w':World} {p:Pt} (h:PtAt w p) (hb:Below w.heap.size w w'):PtAt w' p:=⟨h.1,h.2.1,h.2.2.1,(h.2.2.2.below hb).more hb.size⟩
def ApartR (v:Value) (p:Pt):Prop:=∀ ad,p.A=some ad→p.z≠[]→v.ownBlock≠some ad.block
theorem PtAt.lt {w:World} {p:Pt} (h:PtAt w p) {ad:Addr} (hA:p.A=some ad) (hz:p.z≠[]):ad.block < w.heap.size:=by
 obtain⟨a,h1,h2,_⟩:=h.2.2.2.at_ (j:=0) (by
  cases hp:p.z with
  | nil=>exact absurd hp hz
  | cons x t=>simp)
 rw [hA] at h1
 cases h1
 exact h2
theorem PtAt.grown {w w':World} {p:Pt} {row:Option Nat} (h:PtAt w p) (hg:w.grownBy w' row) (hne:∀ ad,p.A=some ad→p.z≠[]→row≠some ad.block):PtAt w' p:=by
 refine⟨h.1,h.2.1,h.2.2.1,fun j u hu=>?_⟩
 have hz:p.z≠[]:=by rintro e;rw [e] at hu;simp at hu
 obtain⟨ad,h1,h2,h3⟩:=h.2.2.2 j u hu
 exact⟨ad,h1,Nat.lt_of_lt_of_le h2 hg.size,hg.cell h3 (by rw [add_block];exact fun e=>hne ad h1 hz e.symm)⟩
theorem apart_new {w:World} {p:Pt} {g n c:Nat} (h:PtAt w p) (hg:w.heap.size≤g):ApartR (.slice (some ⟨g,0,none⟩) n c) p:=fun ad hA hz e=>by
 have:=h.lt hA hz
 simp [Value.ownBlock] at e
 omega
def EncW (w:World) (e:Ending) (w':World):Prop :=
 ((∃ er:Int,er≠0∧e=.returned (.tuple #[.slice none 0 0,.int .i64 er])) ∨
   (∃ A c ys,e=.returned (.tuple #[.slice A (ys.length+4) c,.int .i64 0])∧ys.length+4≤c∧c≤maxLen∧ys.length+4≤1048576∧4≤ys.length∧ys.take 4=magicZ∧U8s ys∧RdX true w' w.heap.size w'.heap.size A ((sealZ ys).map (.int .u8))))∧Below w.heap.size w w'
theorem binfo_bs:(Tryz.prog.info? 27).map (fun i=>(i.zero,i.size,i.bytes))=some (some (.slice none 0 0),1,24):=by kernel_rfl
def vsZ (u:Bu) (n:Nat) (k:Nat):Int:=match k with | 0=>u.H | 1=>u.W | 2=>u.C | 3=>u.cl | 4=>(n:Int) | _=>0
def l0P (g dn c:Nat) (A:Option Addr) (d:List Int) (k:Nat):Pt:=if k=0 then ⟨some ⟨g,0,none⟩,4,4,magicZ⟩ else ⟨A,dn,c,d⟩
theorem flatE_congr {α:Type} {val:α→List Value} {X Y:Nat→α} {n:Nat} (h:∀ j,j < n→X j=Y j):flatE val X n=flatE val Y n:=by
 induction n with
 | zero=>rfl
 | succ n ih=>rw [flatE,flatE,ih (fun j hj=>h j (by omega)),h n (by omega)]
theorem cencode_to (u:Bu) (w:World) (hT:za5 w) (hu:BuOk w w.heap.size u) (hn4:u.n≤4)
  (CV:∀ wx,Below w.heap.size w wx→Calls Tryz.prog 21 #[.agg u.val.toArray] wx fun e w'=>∃ q0 q1 q2 q3:Int,e=.returned (.agg #[.int .i64 q0,.int .i64 q1,.int .i64 q2,.int .i64 q3])∧Below wx.heap.size wx w')
  (CM:∀ i,i < u.n→∀ wx,Below w.heap.size w wx→Calls Tryz.prog 23 #[.agg (u.M i).val.toArray] wx (CPkI.MoW wx)) :
  Calls Tryz.prog 10 #[.agg u.val.toArray] w (EncW w):=by
 have HB0:=hid ((Below.refl w.heap.size w).alloc (le_refl _) (.cells u.val.toArray 26))
 have HBX:=hid (CBox.new u.val 26 w)
 have HSZ:Hid (w.heap.size < (w.alloc (.cells u.val.toArray 26)).heap.size):=hid (by simp)
 have HU:=hid hu
 have HT:=hid hT
 have HCV:=hid CV
 have HCM:=hid CM
 obtain⟨n,hn⟩:∃ n,u.n=n:=⟨_,rfl⟩
 have HN:=hid hn
 rw [hn] at hn4
 obtain⟨i0_,hi0,hi1,hi2,hi3⟩:=kparts binfo_bs
 clear hu hT CV CM hn
 go_enter Tryz.func10,Tryz.ntmps10
 go_upto_region 1 with fail
 generalize w.alloc (.cells u.val.toArray 26)=W0 at HB0 HBX HSZ ⊢
 go_upto_region 2 with (first
  | (refine bu_load rfl _ rfl w.heap.size u rfl HBX.out.1 ?_)
  | (go_at_call 21
     refine (HCV.out _ HB0.out).mono ?_
     rintro e w1 ⟨q0,q1,q2,q3,rfl,hb⟩
     have HB1:=hid (HB0.out.trans (hb.mono HB0.out.size))
     have HBX1:=hid (HBX.out.below HSZ.out hb)
     have HSZ1:=hid (Nat.lt_of_lt_of_le HSZ.out hb.size)
     have hfq:∀ w,(Instr.field 67 (.agg #[.int .i64 q0,.int .i64 q1,.int .i64 q2,.int .i64 q3]) 0).run Tryz.prog w=.ok (.int .i64 q0) w:=fun _=>by kernel_rfl
     clear hb))
 by_cases h0:q0=0
 rotate_left
 ·have h1:(q0 != 0)=true:=by simpa using h0
  have H0:=hid h0
  clear h0
  go_wp2_with fail
  refine bodyPost_ret (zbm rfl _ _ _) rfl ?_
  exact⟨.inl ⟨q0,H0.out,rfl⟩,HB1.out⟩
 subst h0
 have v0:=HBX1.out.at 0 _ rfl
 have v1:=HBX1.out.at 1 _ rfl
 have v2:=HBX1.out.at 2 _ rfl
 have v3:=HBX1.out.at 3 _ rfl
 have v4:w1.cell? ⟨w.heap.size,4,none⟩=some (.slice u.A n u.c):=by rw [← HN.out];exact HBX1.out.at 4 _ rfl
 clear hfq HB0 HBX HSZ
 have kc:=Lib.run_convert_bytes_const (P:=Tryz.prog) w1 27 5 #[.int .u8 83,.int .u8 84,.int .u8 87,.int .u8 49] 4 4 Tryz.underlying27 Tryz.underlying5
 obtain⟨w2,hw2⟩:∃ w2,w1.alloc (.cells #[.int .u8 83,.int .u8 84,.int .u8 87,.int .u8 49] 5 (4,4+1))=w2:=⟨_,rfl⟩
 have kc2:(convert 27 27 (.slice (some ⟨w1.heap.size,0,none⟩) 4 4)).run Tryz.prog (w1.alloc (.cells #[.int .u8 83,.int .u8 84,.int .u8 87,.int .u8 49] 5))=.ok (.slice (some ⟨w1.heap.size,0,none⟩) 4 4) w2:=by rw [← hw2];exact kc
 have b12:Below w1.heap.size w1 w2:=by rw [← hw2];exact (Below.refl _ _).alloc (le_refl _) _
 have s12:w2.heap.size=w1.heap.size+1:=by rw [← hw2];simp
 have hrm:Rd w2 w2.heap.size (some ⟨w1.heap.size,0,none⟩) (magicZ.map (.int .u8)):=by
  rw [s12, ← hw2]
  exact rd_newf w1 [.int .u8 83,.int .u8 84,.int .u8 87,.int .u8 49] 5 (4,4+1) (lt_succ_self _)
 have k0:w.heap.size < w1.heap.size:=HSZ1.out
 have y0:w2.cell? ⟨w.heap.size,0,none⟩=some (.int .i64 u.H):=(b12.cell (p:=⟨w.heap.size,0,none⟩) k0).trans v0
 have y1:w2.cell? ⟨w.heap.size,1,none⟩=some (.int .i64 u.W):=(b12.cell (p:=⟨w.heap.size,1,none⟩) k0).trans v1
 have y2:w2.cell? ⟨w.heap.size,2,none⟩=some (.int .i64 u.C):=(b12.cell (p:=⟨w.heap.size,2,none⟩) k0).trans v2
 have y3:w2.cell? ⟨w.heap.size,3,none⟩=some (.int .i64 u.cl):=(b12.cell (p:=⟨w.heap.size,3,none⟩) k0).trans v3
 have y4:w2.cell? ⟨w.heap.size,4,none⟩=some (.slice u.A n u.c):=(b12.cell (p:=⟨w.heap.size,4,none⟩) k0).trans v4
 have HW2:=hid (HB1.out.trans (b12.mono HB1.out.size))
 have HRM:=hid hrm
 have HB12:=hid b12
 clear hw2 kc b12 s12 hrm k0 v0 v1 v2 v3 v4
 obtain⟨wH,wW,wC,wcl⟩:=HU.out.nums
 have hvb:∀ k, -9223372036854775808≤vsZ u n k∧vsZ u n k≤9223372036854775807:=fun k=>by
  match k with
  | 0=>exact CGraph.wf64 wH
  | 1=>exact CGraph.wf64 wW
  | 2=>exact CGraph.wf64 wC
  | 3=>exact CGraph.wf64 wcl
  | 4=>exact⟨by show _≤(n:Int);omega,by show (n:Int)≤_;omega⟩
  | k+5=>exact⟨by show _≤(0:Int);omega,by show (0:Int)≤_;omega⟩
 have HVB:=hid hvb
 have HDL:Hid ((catD (vsZ u n) 5).length≤50):=hid (catD_len _ hvb 5)
 have CN:=hid (zbx w2.heap.size 5 5 (vsZ u n) (by decide) (w2.alloc (.cells #[.int .i64 u.H,.int .i64 u.W,.int .i64 u.C,.int .i64 u.cl,.int .i64 n] 3)) hvb (fun k hk=>by
  rw [Kit.zab]
  match k,hk with
  | 0,_=>rfl
  | 1,_=>rfl
  | 2,_=>rfl
  | 3,_=>rfl
  | 4,_=>rfl) (by simp))
 obtain⟨d,hd⟩:∃ d,catD (vsZ u n) 5=d:=⟨_,rfl⟩
 have HD8:Hid (U8s d):=hid (by rw [← hd];exact catD_u8 _ _)
 rw [hd] at CN HDL
 obtain⟨dn,hdn⟩:∃ dn,d.length=dn:=⟨_,rfl⟩
 rw [hdn] at CN HDL
 have HDN:=hid hdn
 clear wH wW wC wcl hvb hd hdn
 go_upto_region 5 with (first
  | (go_at_call 22
     refine CN.out.mono ?_
     rintro e w3 ⟨A3,c3,rfl,h1,h2,h3,h4⟩
     have hb3:Below w2.heap.size w2 w3:=((Below.refl _ _).alloc (le_refl _) _).trans (h4.mono (by simp))
     have HB3:=hid hb3
     have HR3:=hid h3.rd
     clear h1 h2 h3 h4 hb3))
 have hal:Below w3.heap.size w3 (w3.alloc (.cells #[.slice (some ⟨w1.heap.size,0,none⟩) 4 4,.slice A3 dn c3] 27)):=(Below.refl _ _).alloc (le_refl _) _
 have hrow:(w3.alloc (.cells #[.slice (some ⟨w1.heap.size,0,none⟩) 4 4,.slice A3 dn c3] 27)).ownsRow w1.heap.size 27 1 (.slice (some ⟨w3.heap.size,0,none⟩) 2 2) 2 (flatE Pt.val (l0P w1.heap.size dn c3 A3 d) 2) :=
  World.ownsRow_lit w3 #[.slice (some ⟨w1.heap.size,0,none⟩) 4 4,.slice A3 dn c3] 2 (HB12.out.trans (HB3.out.mono HB12.out.size)).size (by decide) rfl
 have hpt:∀ j,j < 2→PtAt (w3.alloc (.cells #[.slice (some ⟨w1.heap.size,0,none⟩) 4 4,.slice A3 dn c3] 27)) (l0P w1.heap.size dn c3 A3 d j)∧ApartR (.slice (some ⟨w3.heap.size,0,none⟩) 2 2) (l0P w1.heap.size dn c3 A3 d j):=fun j hj=>by
  suffices q:PtAt w3 (l0P w1.heap.size dn c3 A3 d j) from ⟨q.below hal,apart_new q (le_refl _)⟩
  rcases (show j=0∨j=1 by omega) with rfl | rfl
  ·exact⟨rfl,by intro z hz;simp [l0P,magicZ] at hz;omega,by show (4:Nat)≤_;omega,(HRM.out.below HB3.out).more HB3.out.size⟩
  ·exact⟨HDN.out,HD8.out,by show d.length≤_;have:=HDN.out;have:=HDL.out;omega,HR3.out⟩
 have HROW:=hid hrow
 have HPT:=hid hpt
 have HBW:=hid (HB12.out.trans ((HB3.out.trans (hal.mono HB3.out.size)).mono HB12.out.size))
 have hx4:(w3.alloc (.cells #[.slice (some ⟨w1.heap.size,0,none⟩) 4 4,.slice A3 dn c3] 27)).cell? ⟨w.heap.size,4,none⟩=some (.slice u.A n u.c):=((HB3.out.trans (hal.mono HB3.out.size)).cell (p:=⟨w.heap.size,4,none⟩) (Nat.lt_of_lt_of_le HSZ1.out HB12.out.size)).trans y4
 generalize w3.alloc (.cells #[.slice (some ⟨w1.heap.size,0,none⟩) 4 4,.slice A3 dn c3] 27)=w4 at HROW HPT HBW hx4 ⊢
 have HMO:Hid (ModelsAt w w.heap.size u.A n u.M):=hid (by rw [← HN.out];exact HU.out.models)
 obtain⟨Au,hAu⟩:∃ Au,u.A=Au:=⟨_,rfl⟩
 rw [hAu] at hx4 HMO
 clear hal hrow hpt y0 y1 y2 y3 y4 kc2 CN hAu
 go_wp2_with fail
 clear hx4
 go_loopw [5,39] (fun v x wr=>∃ i:Nat,i≤n∧x=.int .i64 i∧Hid (∃ L:Nat→Pt,(L 0).z=magicZ∧wr.ownsRow w1.heap.size 27 1 v (i+2) (flatE Pt.val L (i+2))∧∀ j,j < i+2→PtAt wr (L j)∧ApartR v (L j))∧Hid (Below w1.heap.size w1 wr)) (fun _ x _=>n - (intOf x).toNat)
 case atStart=>exact⟨0,Nat.zero_le _,rfl,hid ⟨_,rfl,HROW.out,HPT.out⟩,HBW⟩
 case round =>
  obtain⟨i,hi,rfl,HL,HB⟩:=hrel
  by_cases hlt:i < n
  ·obtain⟨L,hL0,hLo,hLp⟩:=HL.out
   obtain⟨Av,cv,rfl, -, -, -⟩:=Kit.za2 hLo
   have hbw:Below w.heap.size w wr:=HB1.out.trans (HB.out.mono HB1.out.size)
   obtain⟨b,o,rfl,hbl,hrm⟩:=HMO.out i hlt
   have m0:wr.cell? ⟨b,o+i,none⟩=some (.slice (u.M i).A (u.M i).n (u.M i).c):=(hbw.cell (p:=⟨b,o+i,none⟩) hbl).trans (by simpa using hrm 0 _ rfl)
   have CM:=hid (fun wx (hx:Below wr.heap.size wr wx)=>HCM.out i (by rw [HN.out];exact hlt) wx (hbw.trans (hx.mono hbw.size)))
   have i0:(0:Int)≤(i:Int):=by omega
   have i1:(i:Int) < (n:Int):=by omega
   have HL0:=hid hL0
   have HLO:=hid hLo
   have HLP:=hid hLp
   have HBWr:=hid hbw
   generalize u.M i=M at m0 CM
   obtain⟨mA,mn,mc,mK⟩:=M
   dsimp only at m0
   simp only [Md.val] at CM
   clear hL0 hLo hLp hbl hrm hbw HL
   go_upto_region 9 with (first
    | (go_at_call 23
       have hal:Below wr.heap.size wr (wr.alloc (.cells #[.slice mA mn mc] 42)):=(Below.refl _ _).alloc (le_refl _) _
       refine (CM.out _ hal).mono ?_
       rintro e w5 ⟨A5,n5,c5,z5,er,rfl,h1,h2⟩
       have HB5:=hid (hal.trans (h2.mono hal.size))
       have H5:=hid h1
       clear h1 h2 hal))
   by_cases h0:er=0
   ·subst h0
    obtain⟨q1,q2,q3,q4⟩:=H5.out rfl
    have hp5:PtAt w5 ⟨A5,n5,c5,z5⟩:=⟨q1,q2,q3,q4.rd⟩
    have HP5:=hid hp5
    have HQ4:=hid q4
    have HO5:=hid (Kit.own_below HLO.out HB5.out)
    have HW5:=hid (Nat.le_trans HB.out.size HB5.out.size)
    clear q1 q2 q3 q4 hp5 m0
    go_wp2_with (at_builtin;refine Kit.zaj _ rfl (.tmp 51) (.tmp 53) _ rfl w1.heap.size 27 i0_ (.slice none 0 0) 1 24 Tryz.underlying70 hi0 hi1 hi2 hi3 rfl (by decide) (.slice Av (i+2) cv) (i+2) (flatE Pt.val L (i+2)) rfl (HO5.out.alloc _) (w5.heap.size+1) _ 1 1 [.slice A5 n5 c5] rfl rfl (Rd.new w5 [.slice A5 n5 c5] _ (lt_succ_self _)) (fun u hu=>by simp at hu;subst hu;rfl) (by unfold maxLen;omega) (by omega) (by have:=HW5.out;simp;omega) ?_;intro v3 w6 hown3 hg3 hat3;have HG3:=hid (And.intro hown3 (And.intro hg3 hat3));clear hown3 hg3 hat3)
    obtain⟨hown3,hg3,hat3⟩:=HG3.out
    have hal5:Below w5.heap.size w5 (w5.alloc (.cells #[.slice A5 n5 c5] 27)):=(Below.refl _ _).alloc (le_refl _) _
    have hs5:(w5.alloc (.cells #[.slice A5 n5 c5] 27)).heap.size=w5.heap.size+1:=by simp
    have hvlt:∀ g,(Value.slice Av (i+2) cv).ownBlock=some g→g < wr.heap.size:=fun g hg=>(HLO.out.lt g hg).2
    have hpn:ApartR (.slice Av (i+2) cv) ⟨A5,n5,c5,z5⟩:=fun ad hA hz e=>by
     have h1:=hvlt _ e
     obtain⟨b5,o5,e5,l5,_⟩:=HQ4.out 0 _ (List.getElem?_eq_getElem (by
      cases hz5:z5 with
      | nil=>exact absurd hz5 hz
      | cons x t=>simp))
     rw [show A5=some ad from hA] at e5
     cases e5
     have h9:(wr.alloc (.cells #[.slice mA mn mc] 42)).heap.size=wr.heap.size+1:=by simp
     dsimp only at h1
     omega
    have hnew:∀ p,PtAt w5 p→ApartR (.slice Av (i+2) cv) p→PtAt w6 p∧ApartR v3 p:=fun p hp ha=>by
     refine⟨(hp.below hal5).grown hg3 (fun ad hA hz=>ha ad hA hz),fun ad hA hz=>?_⟩
     rcases hat3 with e | e
     ·rw [e];exact ha ad hA hz
     ·rw [e,hs5]
      have:=hp.lt hA hz
      intro e2
      have:=Option.some.inj e2
      omega
    have hL':∃ L':Nat→Pt,(L' 0).z=magicZ∧w6.ownsRow w1.heap.size 27 1 v3 (i+1+2) (flatE Pt.val L' (i+1+2))∧∀ j,j < i+1+2→PtAt w6 (L' j)∧ApartR v3 (L' j):=by
     refine⟨fun j=>if j=i+2 then ⟨A5,n5,c5,z5⟩ else L j,?_,?_,fun j hj=>?_⟩
     ·dsimp only
      rw [if_neg (by omega)]
      exact HL0.out
     ·have e1:flatE Pt.val (fun j=>if j=i+2 then (⟨A5,n5,c5,z5⟩:Pt) else L j) (i+1+2)=flatE Pt.val L (i+2) ++ [.slice A5 n5 c5]:=by
       rw [show i+1+2=(i+2)+1 by omega,flatE,if_pos rfl,flatE_congr (Y:=L) (fun j hj=>if_neg (by omega))]
       rfl
      rw [e1,show i+1+2=i+2+1 by omega]
      exact hown3
     ·dsimp only
      by_cases e:j=i+2
      ·rw [if_pos e]
       exact hnew _ HP5.out hpn
      ·rw [if_neg e]
       have:=HLP.out j (by omega)
       exact hnew _ (this.1.below HB5.out) this.2
    have HL':=hid hL'
    have HB6:Hid (Below w1.heap.size w1 w6):=hid ((HB.out.trans ((HB5.out.trans (hal5.mono HB5.out.size)).mono HB.out.size)).grown hg3 (by have:=HB.out.size;have:=HB5.out.size;omega) (fun q hq=>Kit.zam HO5.out q hq))
    clear hown3 hg3 hat3 hal5 hs5 hvlt hpn hnew hL'
    go_roundw
    case rel=>exact⟨i+1,by omega,by go_num,HL',HB6⟩
    case measure=>simp [intOf];omega
   ·have h1:(er != 0)=true:=by simpa using h0
    have H0:=hid h0
    clear h0 m0
    go_wp2_with fail
    refine bodyPost_ret (zbm rfl _ _ _) rfl ?_
    exact⟨.inl ⟨er,H0.out,rfl⟩,HBWr.out.trans (HB5.out.mono HBWr.out.size)⟩
  ·obtain rfl:i=n:=by omega
   obtain⟨L,hL0,hLo,hLp⟩:=HL.out
   obtain⟨A9,c9,rfl,g1,g2, -⟩:=Kit.za2 hLo
   have hbw:Below w.heap.size w wr:=HB1.out.trans (HB.out.mono HB1.out.size)
   have hbd:(catP L (i+2)).length≤(i+2) * 300000000:=catP_bd (fun j hj=>(hLp j hj).1.2.2.1)
   have hu8:U8s (catP L (i+2)):=catP_u8 (fun j hj=>(hLp j hj).1.2.1)
   obtain⟨r,hr⟩:=catP_first L (i+1)
   rw [hL0] at hr
   have CJ:=hid (join_to A9 L (i+2) c9 (by omega) (hi:=wr.heap.size) wr (le_refl _) (za9.of_rdx (s:=1) (val:=Pt.val) (fun _=>rfl) (by decide) (RdX.of_own hLo)) (fun k hk=>⟨(hLp k hk).1.1,(hLp k hk).1.2.2.2⟩) (by omega))
   rw [show i+1+1=i+2 by omega] at hr
   obtain⟨ys,hys⟩:∃ ys,catP L (i+2)=ys:=⟨_,rfl⟩
   rw [hys] at CJ hbd hu8 hr
   have HY:Hid (4≤ys.length∧ys.take 4=magicZ∧U8s ys):=hid ⟨by rw [hr];simp [magicZ],by rw [hr];rfl,hu8⟩
   obtain⟨yn,hyn⟩:∃ yn,ys.length=yn:=⟨_,rfl⟩
   rw [hyn] at CJ hbd
   have HYN:=hid hyn
   have HBW:=hid hbw
   obtain⟨m4,hm4⟩:∃ m4,yn+4=m4:=⟨_,rfl⟩
   have CS:Hid (∀ (A7:Option Addr) (c7:Nat) (w7:World),Below w.heap.size w w7→Rd w7 w7.heap.size A7 (ys.map (.int .u8))→Calls Tryz.prog 15 #[.slice A7 yn c7] w7 (OwnX w7 m4 ((sealZ ys).map (.int .u8)))):=hid (fun A7 c7 w7 hb7 hr7=>by
    rw [← hm4]
    exact seal_to A7 ys yn c7 HYN.out (by omega) HY.out.2.2 w7 (HT.out.below hb7 HT.out.size) (le_refl _) hr7)
   have HM4:=hid hm4
   clear hL0 hLo hLp hbw hbd hu8 hr hys hyn HL g1 g2 hm4
   by_cases hbig:1048576 < m4
   ·have hbi:(m4:Int) > 1048576:=by omega
    clear hbig
    go_wp2_with (first
     | (go_at_call 24
        refine CJ.out.mono ?_
        rintro e w7 ⟨A7,c7,rfl,p1,p2,p3,p4⟩
        have HB7:=hid (HBW.out.trans (p4.mono HBW.out.size))
        have HR7:=hid p3.rd
        clear p1 p2 p3 p4)
     | (go_at_call 15
        refine (CS.out A7 c7 w7 HB7.out HR7.out).mono ?_
        rintro e w8 ⟨A8,c8,rfl,p1,p2,p3,p4⟩
        have HB8:=hid (HB7.out.trans (p4.mono HB7.out.size))
        clear p1 p2 p3 p4))
    refine bodyPost_ret (zbm rfl _ _ _) rfl ?_
    exact⟨.inl ⟨25,by decide,rfl⟩,HB8.out⟩
   ·have hbi:¬ (m4:Int) > 1048576:=by omega
    have HBG:=hid hbig
    clear hbig
    go_wp2_with (first
     | (go_at_call 24
        refine CJ.out.mono ?_
        rintro e w7 ⟨A7,c7,rfl,p1,p2,p3,p4⟩
        have HB7:=hid (HBW.out.trans (p4.mono HBW.out.size))
        have HR7:=hid p3.rd
        clear p1 p2 p3 p4)
     | (go_at_call 15
        refine (CS.out A7 c7 w7 HB7.out HR7.out).mono ?_
        rintro e w8 ⟨A8,c8,rfl,p1,p2,p3,p4⟩
        have HB8:=hid (HB7.out.trans (p4.mono HB7.out.size))
        have HR8:=hid (p3.more HB7.out.size (le_refl _))
        have HC8:=hid (And.intro p1 p2)
        clear p1 p2 p3 p4))
    refine bodyPost_ret (zbm rfl _ _ _) rfl ?_
    have e4:ys.length+4=m4:=by rw [HYN.out];exact HM4.out
    exact⟨.inr ⟨A8,c8,ys,by rw [e4];rfl,by rw [e4];exact HC8.out.1,HC8.out.2,by rw [e4];have:=HBG.out;omega,HY.out.1,HY.out.2.1,HY.out.2.2,HR8.out⟩,HB8.out⟩
end CBunO
end
end Go.Proofs.YtfgdfignoakkaaaGreatDoor
