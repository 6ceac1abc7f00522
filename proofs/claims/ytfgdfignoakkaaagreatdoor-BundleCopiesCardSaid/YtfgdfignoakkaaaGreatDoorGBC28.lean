/- -/
import Derived.Test.YtfgdfignoakkaaaGreatDoorGBC23
import Derived.Test.YtfgdfignoakkaaaGreatDoorGBC27
open Go.Lib (hid)
open Nat (le_refl lt_of_succ_lt lt_succ_self)
set_option linter.unusedVariables false
set_option linter.unusedSimpArgs false
set_option maxRecDepth 100000
set_option maxHeartbeats 16000000
namespace Go.Proofs.YtfgdfignoakkaaaGreatDoor
namespace CConv
end CConv
namespace CGraph
end CGraph
namespace CKind
end CKind
namespace CSat
end CSat
namespace CShape
end CShape
namespace CTensor
end CTensor
namespace Kit
end Kit
namespace Plain
end Plain
open Go Go.ChangeShapes Go.WideShapes Go.ChangeAt Go.RowKit Go.Deep
section
namespace CBunM
open Kit Plain CSat CShape CTensor CConv CKind CGraph CBund CrcNum CCrc
def le4 (n:Int):List Int:=[n % 256,n / 256 % 256,n / 65536 % 256,n / 16777216]
theorem bput32_to (n:Int) (h0:0≤n) (h1:n≤4294967295) (w:World) :
  Calls Tryz.prog 31 #[.int .u32 n] w fun e w'=>e=.returned (.slice (some ⟨w.heap.size,0,none⟩) 4 4)∧w'=w.alloc (.cells ((le4 n).map (.int .u8)).toArray 5):=by
 go_enter Tryz.func31,Tryz.ntmps31
 go_wp2
 go_ret
 exact⟨rfl,rfl⟩
structure Pt where
 A:Option Addr
 n:Nat
 c:Nat
 z:List Int
def Pt.val (p:Pt):List Value:=[.slice p.A p.n p.c]
def catP (L:Nat→Pt):Nat→List Int
 | 0=>[]
 | k+1=>catP L k ++ (L k).z
theorem binfo_u8:(Tryz.prog.info? 5).map (fun i=>(i.zero,i.size,i.bytes))=some (some (.int .u8 0),1,1):=by kernel_rfl
theorem catP_le (L:Nat→Pt) {k q:Nat} (h:k≤q):(catP L k).length≤(catP L q).length:=by
 induction q with
 | zero=>rw [show k=0 by omega];exact le_refl _
 | succ q ih =>
   rcases (show k≤q∨k=q+1 by omega) with h2 | rfl
   ·rw [catP,List.length_append];have:=ih h2;omega
   ·exact le_refl _
theorem join_to (A:Option Addr) (L:Nat→Pt) (q c:Nat) (hq:q≤1000000) {m:Bool} {lo hi:Nat} (w:World) (hw:hi≤w.heap.size) (hA:zab 1 Pt.val m w lo hi A q L) (hL:∀ k,k < q→(L k).z.length=(L k).n∧Rd w hi (L k).A ((L k).z.map (.int .u8))) (hT:(catP L q).length≤1000000000) :
  Calls Tryz.prog 24 #[.slice A q c] w (OwnX w (catP L q).length ((catP L q).map (.int .u8))):=by
 have HA:=hid hA
 have HL:=hid hL
 have HT:=hid hT
 obtain⟨i0,hi0,hi1,hi2,hi3⟩:=kparts binfo_u8
 clear hA hL hT
 go_enter Tryz.func24,Tryz.ntmps24
 go_wp2_with fail
 go_loopw [3,8] (fun v u wr=>∃ k:Nat,k≤q∧u=.int .i64 k∧Hid (wr.ownsRow w.heap.size 5 1 v (catP L k).length ((catP L k).map (.int .u8)))∧Hid (Below w.heap.size w wr)) (fun _ u _=>q - (intOf u).toNat)
 case atStart=>exact⟨0,Nat.zero_le _,rfl,hid (by simpa [catP] using World.ownsRow_nil w w.heap.size 5 1),hid (Below.refl _ _)⟩
 case round =>
  obtain⟨k,hk,rfl,HO,HB⟩:=hrel
  by_cases hlt:k < q
  ·obtain⟨b,o,rfl,b1,b2,hra,_⟩:=(HA.out.keep (Kept.of_below HB.out hw)) k hlt
   obtain⟨hl1,hl2⟩:=HL.out k hlt
   have c0:wr.cell? ⟨b,o+k,none⟩=some (.slice (L k).A (L k).n (L k).c):=by
    have:=hra 0 _ rfl
    simpa using this
   have HR:=hid (hl2.below (HB.out.mono hw))
   have hle:=catP_le L (show k+1≤q by omega)
   rw [catP,List.length_append] at hle
   have hsum:(catP L k).length+(L k).n≤1000000000:=by have:=HT.out;omega
   have k0:(0:Int)≤(k:Int):=by omega
   have k1:(k:Int) < (q:Int):=by omega
   have hlen2:((L k).z.map (Value.int .u8)).length=(L k).n * 1:=by simp [hl1]
   have HL2:=hid hlen2
   have HL1:=hid hl1
   have HW:=hid HB.out.size
   clear hra hl2 hle hl1 hlen2
   go_wp2_with (at_builtin;refine Kit.zac _ rfl (.tmp 12) (.tmp 13) _ rfl w.heap.size 5 i0 (.int .u8 0) 1 1 Tryz.underlying27 hi0 hi1 hi2 hi3 rfl (by decide) _ _ _ rfl HO.out hi _ _ _ _ rfl HL2.out HR.out (Kit.zai .u8 _) (by unfold maxLen;omega) (by omega) HW.out ?_;intro v3 w3 hown3 hg3 hat3;have HB3:=hid (HB.out.grown hg3 HW.out (fun q hq=>Kit.own_block_ge HO.out q hq));have HO3:Hid (w3.ownsRow w.heap.size 5 1 v3 (catP L (k+1)).length ((catP L (k+1)).map (.int .u8))):=hid (by rw [catP,List.length_append,List.map_append,HL1.out];exact hown3);clear hown3 hg3 hat3)
   go_roundw
   case rel=>exact⟨k+1,by omega,by go_num,HO3,HB3⟩
   case measure=>simp [intOf];omega
  ·obtain rfl:k=q:=by omega
   go_wp2_with fail
   go_ret
   exact own_x HO.out HB.out
def sealP (A:Option Addr) (n c:Nat) (zs:List Int) (g:Nat) (ds:List Int) (k:Nat):Pt:=if k=0 then ⟨A,n,c,zs⟩ else ⟨some ⟨g,0,none⟩,4,4,ds⟩
theorem seal_parts (A:Option Addr) (n c:Nat) (zs ds:List Int) (hn:zs.length=n) (hd:ds.length=4) (w:World) {B:Nat} (hB:B≤w.heap.size) (hr:Rd w B A (zs.map (.int .u8))) (T T2:TypeId) :
  w.heap.size+2≤((w.alloc (.cells (ds.map (.int .u8)).toArray T)).alloc (.cells #[.slice A n c,.slice (some ⟨w.heap.size,0,none⟩) 4 4] T2)).heap.size ∧
  zab 1 Pt.val false ((w.alloc (.cells (ds.map (.int .u8)).toArray T)).alloc (.cells #[.slice A n c,.slice (some ⟨w.heap.size,0,none⟩) 4 4] T2)) 0 (w.heap.size+2) (some ⟨w.heap.size+1,0,none⟩) 2 (sealP A n c zs w.heap.size ds) ∧
  ∀ k,k < 2→(sealP A n c zs w.heap.size ds k).z.length=(sealP A n c zs w.heap.size ds k).n∧Rd ((w.alloc (.cells (ds.map (.int .u8)).toArray T)).alloc (.cells #[.slice A n c,.slice (some ⟨w.heap.size,0,none⟩) 4 4] T2)) (w.heap.size+2) (sealP A n c zs w.heap.size ds k).A ((sealP A n c zs w.heap.size ds k).z.map (.int .u8)):=by
 refine⟨by simp,fun j hj=>⟨w.heap.size+1,0,rfl,Nat.zero_le _,by omega,fun q v hq=>?_,fun e=>by cases e⟩,fun k hk=>?_⟩
 ·have hc:∀ i,((w.alloc (.cells (ds.map (.int .u8)).toArray T)).alloc (.cells #[.slice A n c,.slice (some ⟨w.heap.size,0,none⟩) 4 4] T2)).cell? ⟨w.heap.size+1,i,none⟩=(#[.slice A n c,.slice (some ⟨w.heap.size,0,none⟩) 4 4]:Array Value)[i]?:=fun i=>by
   have:=Kit.zae (w.alloc (.cells (ds.map (.int .u8)).toArray T)) #[.slice A n c,.slice (some ⟨w.heap.size,0,none⟩) 4 4] T2 i
   rwa [World.size_alloc] at this
  rw [hc]
  have hq0:q=0:=by
   have:=(List.getElem?_eq_some_iff.1 hq).1
   simp [Pt.val] at this
   exact this
  subst hq0
  rcases (show j=0∨j=1 by omega) with rfl | rfl
  ·exact hq
  ·exact hq
 ·have hb:Below w.heap.size w (w.alloc (.cells (ds.map (.int .u8)).toArray T)):=(Below.refl _ w).alloc (le_refl _) _
  rcases (show k=0∨k=1 by omega) with rfl | rfl
  ·exact⟨hn,((hr.below (hb.mono hB)).alloc (by simp;omega) _).more (by omega)⟩
  ·exact⟨hd,((Rd.new w (ds.map (.int .u8)) T (B:=w.heap.size+1) (lt_succ_self _)).alloc (by simp) _).more (by omega)⟩
def sealZ (zs:List Int):List Int:=zs ++ le4 (toI (crcOf zs))
theorem sealZ_len (zs:List Int):(sealZ zs).length=zs.length+4:=by simp [sealZ,le4]
theorem seal_to (A:Option Addr) (zs:List Int) (n c:Nat) (hn:zs.length=n) (hl:n≤100000000) (hz:U8s zs) (w:World) (hT:zah w) {B:Nat} (hB:B≤w.heap.size) (hr:Kit.Rd w B A (zs.map (.int .u8))) :
  Calls Tryz.prog 15 #[.slice A n c] w (OwnX w (n+4) ((sealZ zs).map (.int .u8))):=by
 have hs:=toI_bd (crcOf zs)
 have HO:=hid (of_n A zs n c hn (by omega) hz w hT hr)
 have HR:=hid hr
 obtain⟨s,hse⟩:∃ s,toI (crcOf zs)=s:=⟨_,rfl⟩
 have hZ:sealZ zs=zs ++ le4 s:=by rw [sealZ,hse]
 have hlen:(sealZ zs).length=n+4:=by rw [sealZ_len,hn]
 rw [hse] at hs HO
 rw [hZ] at hlen ⊢
 obtain⟨d4,hd4⟩:∃ d4,le4 s=d4:=⟨_,rfl⟩
 have HP:=hid (fun wx:World=>bput32_to s hs.1 hs.2 wx)
 rw [hd4] at HP hlen ⊢
 have hd4l:d4.length=4:=by rw [← hd4];rfl
 have HN:=hid hn
 have HLN:=hid hlen
 have HD4:=hid hd4l
 clear hr hn hs hse hZ hlen hd4 hd4l hz hT
 go_enter Tryz.func15,Tryz.ntmps15
 go_wp2_with (first
  | (go_at_call 32
     with_reducible refine HO.out.mono ?_
     rintro e w1 ⟨rfl,rfl⟩)
  | (go_at_call 31
     with_reducible refine (HP.out _).mono ?_
     rintro e w2 ⟨rfl,rfl⟩)
  | (go_at_call 24
     obtain⟨p1,p2,p3⟩:=seal_parts A n c zs d4 HN.out HD4.out w hB HR.out 5 27
     have e2:catP (sealP A n c zs w.heap.size d4) 2=zs ++ d4:=by simp [catP,sealP]
     refine (join_to _ (sealP A n c zs w.heap.size d4) 2 2 (by decide) _ p1 p2 p3 (by rw [e2,HLN.out];omega)).mono ?_
     rintro e w3 hown
     rw [e2,HLN.out] at hown
     obtain⟨A3,c3,rfl,h1,h2,h3,h4⟩:=hown
     have H1:=hid h1
     have H2:=hid h2
     have H3:=hid h3
     have H4:=hid h4
     clear p1 p2 p3 h1 h2 h3 h4))
 go_ret
 have hbb:Below w.heap.size w w3:=(((Below.refl _ w).alloc (le_refl _) _).alloc (by simp) _).trans (H4.out.mono (by simp;omega))
 exact⟨A3,c3,rfl,H1.out,H2.out,H3.out.more (by simp;omega) (le_refl _),hbb⟩
end CBunM
end
end Go.Proofs.YtfgdfignoakkaaaGreatDoor
