/- umbralaw03.VecScales, VecProducts, VecUnits: true of any vectors. -/
import Derived.Test.YtgggngcgcpmkbaaVM
import Derived.Test.YtgggngcgcpmkbaaVG
namespace Go.Proofs.Ytgggngcgcpmkbaa
set_option linter.unusedVariables false
set_option maxRecDepth 2000
set_option linter.unusedSimpArgs false
open Go.RowKit
attribute [local go_sem] setCell_twice setCell_pair

theorem sumSq_nonneg (x y z : Int) : 0 ≤ x * x + y * y + z * z := by
  have hx := abs_sq x
  have hy := abs_sq y
  have hz := abs_sq z
  have px := Int.mul_nonneg (show (0 : Int) ≤ x.natAbs by omega) (show (0 : Int) ≤ x.natAbs by omega)
  have py := Int.mul_nonneg (show (0 : Int) ≤ y.natAbs by omega) (show (0 : Int) ≤ y.natAbs by omega)
  have pz := Int.mul_nonneg (show (0 : Int) ≤ z.natAbs by omega) (show (0 : Int) ≤ z.natAbs by omega)
  omega

end Go.Proofs.Ytgggngcgcpmkbaa
