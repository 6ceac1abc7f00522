/- Layer 10: the document's sum of a window, over whole numbers. -/
import Derived.Test.YtmnhcmkcdchmkaaTk
import Derived.Test.YtmnhcmkcdchmkaaConvOf
import Derived.BigQuiet
namespace Go.Proofs.Ytmnhcmkcdchmkaa.CConv
open Go Go.ChangeShapes Go.WideShapes Go.ChangeAt Go.RowKit
open Plain CSat CShape CTensor
set_option linter.unusedVariables false

theorem psum_le {G : Nat → Int} {b : Int} {n m : Nat} (hb : 0 ≤ b) (h : ∀ k, k < n → -b ≤ G k ∧ G k ≤ b) (hnm : n ≤ m) : -(b * m) ≤ psum G n ∧ psum G n ≤ b * m := by
  have h1 := psum_bd h
  have h2 : b * (n : Int) ≤ b * (m : Int) := Int.mul_le_mul_of_nonneg_left (by omega) hb
  omega
theorem placeF_bd (zs ws : List Int) (H W C top left : Int) (d kk o : Nat) (Z : Int) (i j : Nat) (hz : I8b zs) (hw : I8b ws) (hd : d ≤ 1024) (z1 : -128 ≤ Z) (z2 : Z ≤ 127) :
    -33423360 ≤ placeF zs ws H W C top left d kk o Z i j ∧ placeF zs ws H W C top left d kk o Z i j ≤ 33423360 := by
  unfold placeF
  split
  · have := psum_le (m := 1024) (b := 32640) (by omega) (G := termF zs ws (((top + (i : Int)) * W + (left + (j : Int))) * C).toNat (((o * kk + i) * kk + j) * d) Z) (fun k _ => termF_bd (o := ((o * kk + i) * kk + j) * d) (st := (((top + (i : Int)) * W + (left + (j : Int))) * C).toNat) (c := k) hz hw z1 z2) hd
    omega
  · omega
theorem rowF_bd (zs ws : List Int) (H W C top left : Int) (d kk o : Nat) (Z : Int) (i : Nat) (hz : I8b zs) (hw : I8b ws) (hd : d ≤ 1024) (hk : kk ≤ 7) (z1 : -128 ≤ Z) (z2 : Z ≤ 127) :
    -233963520 ≤ rowF zs ws H W C top left d kk o Z i ∧ rowF zs ws H W C top left d kk o Z i ≤ 233963520 := by
  unfold rowF
  have := psum_le (m := 7) (b := 33423360) (by omega) (fun k _ => placeF_bd zs ws H W C top left d kk o Z i k hz hw hd z1 z2) hk
  omega
theorem part_bd (zs ws : List Int) (H W C top left : Int) (d kk o : Nat) (Z : Int) (i j : Nat) (hz : I8b zs) (hw : I8b ws) (hd : d ≤ 1024) (hk : kk ≤ 7) (z1 : -128 ≤ Z) (z2 : Z ≤ 127) (hi : i ≤ kk) (hj : j ≤ kk) :
    -1900000000 ≤ psum (rowF zs ws H W C top left d kk o Z) i + psum (placeF zs ws H W C top left d kk o Z i) j ∧ psum (rowF zs ws H W C top left d kk o Z) i + psum (placeF zs ws H W C top left d kk o Z i) j ≤ 1900000000 := by
  have h1 := psum_le (m := 7) (b := 233963520) (by omega) (fun k _ => rowF_bd zs ws H W C top left d kk o Z k hz hw hd hk z1 z2) (show i ≤ 7 by omega)
  have h2 := psum_le (m := 7) (b := 33423360) (by omega) (fun k _ => placeF_bd zs ws H W C top left d kk o Z i k hz hw hd z1 z2) (show j ≤ 7 by omega)
  omega
theorem terms_bd (zs ws : List Int) (st o : Nat) (Z : Int) (d k : Nat) (hz : I8b zs) (hw : I8b ws) (hd : d ≤ 1024) (hk : k ≤ d) (z1 : -128 ≤ Z) (z2 : Z ≤ 127) : -33423360 ≤ psum (termF zs ws st o Z) k ∧ psum (termF zs ws st o Z) k ≤ 33423360 := by
  have := psum_le (m := 1024) (b := 32640) (by omega) (G := termF zs ws st o Z) (fun c _ => termF_bd (zs := zs) (ws := ws) (o := o) (st := st) (c := c) hz hw z1 z2) (show k ≤ 1024 by omega)
  omega
end Go.Proofs.Ytmnhcmkcdchmkaa.CConv
