/- Unit vectors: vec's and the document's; vec.Toward. -/
import Derived.Test.YtgggngcgcpmkbaaVG
import Derived.Test.YtgggngcgcpmkbaaVI
import Derived.Deep.RegionHeld3
namespace Go.Proofs.Ytgggngcgcpmkbaa
set_option linter.unusedVariables false
set_option maxRecDepth 2000
set_option linter.unusedSimpArgs false
open Go.RowKit
attribute [local go_sem] setCell_twice setCell_pair

/-- a part of a vector by its length -/
def unitF (x n : Int) : Int := if n = 0 then 0 else sat (x * 4294967296 / n)
theorem unitF_in (x n : Int) : in64 (unitF x n) := by unfold unitF; split; (show in64 0; unfold in64; omega); exact in64_sat _

theorem zero_of_root (x y z : Int) (s : Nat) (s2 : x * x + y * y + z * z < ((s : Int) + 1) * (s + 1)) (h : min (s : Int) 9223372036854775807 = 0) : x = 0 ∧ y = 0 ∧ z = 0 := by
  obtain rfl : s = 0 := by omega
  have hx := abs_sq x
  have hy := abs_sq y
  have hz := abs_sq z
  have px := Int.mul_nonneg (show (0 : Int) ≤ x.natAbs by omega) (show (0 : Int) ≤ x.natAbs by omega)
  have py := Int.mul_nonneg (show (0 : Int) ≤ y.natAbs by omega) (show (0 : Int) ≤ y.natAbs by omega)
  have pz := Int.mul_nonneg (show (0 : Int) ≤ z.natAbs by omega) (show (0 : Int) ≤ z.natAbs by omega)
  have s3 : x * x + y * y + z * z < 1 := by simpa using s2
  have ex : x * x = 0 := by omega
  have ey : y * y = 0 := by omega
  have ez : z * z = 0 := by omega
  exact ⟨(Int.mul_eq_zero.1 ex).elim id id, (Int.mul_eq_zero.1 ey).elim id id, (Int.mul_eq_zero.1 ez).elim id id⟩

/-- the sum of the squares of a place's parts -/
def sumQ (x y z : Int) : Int := partF x * partF x + partF y * partF y + partF z * partF z
theorem sq30 (a : Int) (h : -1073741824 ≤ a ∧ a ≤ 1073741824) : 0 ≤ a * a ∧ a * a ≤ 1152921504606846976 := by
  have h1 : (a.natAbs : Int) ≤ 1073741824 := by omega
  have h2 := abs_sq a
  have h3 := Int.mul_le_mul h1 h1 (by omega) (by omega)
  have h4 : 0 ≤ (a.natAbs : Int) * a.natAbs := Int.mul_nonneg (by omega) (by omega)
  omega
theorem sumQ_bd (x y z : Int) : 0 ≤ sumQ x y z ∧ sumQ x y z ≤ 3458764513820540928 := by
  have h1 := sq30 _ (partF_bd x)
  have h2 := sq30 _ (partF_bd y)
  have h3 := sq30 _ (partF_bd z)
  unfold sumQ
  omega

end Go.Proofs.Ytgggngcgcpmkbaa
