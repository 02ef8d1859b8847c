/- The document's answers for package fix (umbraref02): quotients. -/
import Derived.Test.YtgggngcgcpmkbaaFU
namespace Go.Proofs.Ytgggngcgcpmkbaa
set_option linter.unusedVariables false
set_option maxRecDepth 2000
open Go.RowKit
attribute [local go_sem] setCell_twice setCell_pair

/-- a number by another one, rounded down -/
theorem exists_quo (n b : Int) (hb : b ≠ 0) : ∃ q r, n = b * q + r ∧ (0 < b → 0 ≤ r ∧ r < b) ∧ (b < 0 → b < r ∧ r ≤ 0) := by
  by_cases h : 0 < b
  · exact ⟨n / b, n % b, (Int.mul_ediv_add_emod n b).symm, fun _ => ⟨Int.emod_nonneg _ hb, Int.emod_lt_of_pos _ h⟩, fun h' => by omega⟩
  · have e := Int.mul_ediv_add_emod (-n) (-b)
    have m0 := Int.emod_nonneg (-n) (show -b ≠ 0 by omega)
    have m1 := Int.emod_lt_of_pos (-n) (show 0 < -b by omega)
    refine ⟨-n / -b, -(-n % -b), ?_, fun h' => by omega, fun _ => by omega⟩
    rw [Int.neg_mul] at e
    omega

end Go.Proofs.Ytgggngcgcpmkbaa
