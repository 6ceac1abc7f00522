/- -/
import Derived.Deep.RegionHeld3
import Derived.Lib.SliceRun
import Derived.Handy
import Derived.Test.YtceehogkckdbkaaDoorGH1
import Derived.Test.YtceehogkckdbkaaDoorGH5
open Nat (le_refl lt_of_succ_lt lt_succ_self)
set_option linter.unusedVariables false
set_option linter.unusedSimpArgs false
set_option maxRecDepth 100000
set_option maxHeartbeats 16000000
namespace Go.Proofs.YtceehogkckdbkaaDoor
namespace CSat
end CSat
namespace CShape
end CShape
namespace CTensor
end CTensor
open Go Go.ChangeShapes Go.WideShapes Go.ChangeAt Go.RowKit
section
namespace CTensor
open Plain CSat CShape
def I8s (zs:List Int):List Value:=zs.map (.int .i8)
end CTensor
end
section
namespace CConv
open Plain CSat CShape CTensor
def psum (G:Nat→Int):Nat→Int
 | 0=>0
 | n+1=>psum G n+G n
theorem psum_bd {G:Nat→Int} {b:Int} {n:Nat} (h:∀ k,k < n → -b≤G k∧G k≤b) : -(b * n)≤psum G n∧psum G n≤b * n:=by
 induction n with
 | zero=>simp [psum]
 | succ n ih =>
   have h1:=ih (fun k hk=>h k (by omega))
   have h2:=h n (by omega)
   have e:b * ((n+1:Nat):Int)=b * (n:Int)+b:=by rw [show ((n+1:Nat):Int)=(n:Int)+1 by omega,Int.mul_add,Int.mul_one]
   rw [e]
   simp only [psum]
   omega
theorem term_bd {x y z:Int} (x1 : -128≤x) (x2:x≤127) (y1 : -128≤y) (y2:y≤127) (z1 : -128≤z) (z2:z≤127) : -32640≤y * (x - z)∧y * (x - z)≤32640:=by
 have h1 : -255≤x - z:=by omega
 have h2:x - z≤255:=by omega
 generalize x - z=u at h1 h2
 have a1:0≤(128+y) * (255 - u):=Int.mul_nonneg (by omega) (by omega)
 have a2:0≤(128+y) * (255+u):=Int.mul_nonneg (by omega) (by omega)
 have a3:0≤(127 - y) * (255 - u):=Int.mul_nonneg (by omega) (by omega)
 have a4:0≤(127 - y) * (255+u):=Int.mul_nonneg (by omega) (by omega)
 simp only [Int.add_mul,Int.sub_mul,Int.mul_sub,Int.mul_add] at a1 a2 a3 a4
 omega
def I8b (zs:List Int):Prop:=∀ q, -128≤zs.getD q 0∧zs.getD q 0≤127
theorem zau {w:World} {B:Nat} {A:Option Addr} {k:IntKind} {zs:List Int} (h:Kit.Rd w B A (zs.map (.int k))) {j:Nat} (hj:j < zs.length) :
  ∃ b off,A=some ⟨b,off,none⟩∧b < B∧∀ i,i < zs.length→w.cell? ⟨b,off+i,none⟩=some (.int k (zs.getD i 0)):=by
 obtain⟨b,off,e,hb,hc⟩:=h.plain (by simp;omega)
 exact⟨b,off,e,hb,fun i hi=>hc i _ (by simp [List.getD_eq_getElem?_getD,List.getElem?_eq_getElem hi])⟩
end CConv
end
section
namespace CFix
open Plain CSat
theorem scale_int (a m s t:Int) (h1:0≤s) (h2:s≤62) (ha1 : -2147483648≤a) (ha2:a≤2147483647) (hm1 : -2147483648≤m) (hm2:m≤2147483647) (ht:zam (a * m) s.toNat=t) (w:World) :
  Calls Tryd.prog 85 #[.int .i32 a,.int .i32 m,.int .i64 s] w fun e w'=>e=.returned (.int .i64 t)∧w=w':=by
 obtain⟨n,rfl⟩:=Int.eq_ofNat_of_zero_le h1
 exact ht ▸ scale_yes a m n (by omega) ha1 ha2 hm1 hm2 w
end CFix
end
end Go.Proofs.YtceehogkckdbkaaDoor
