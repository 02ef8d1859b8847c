/- Quotients rounded down, and what is left: plain arithmetic. -/
import Derived.Test.YtmpbnmhbebhpeaaWMath
namespace Go.Proofs.Ytmpbnmhbebhpeaa
set_option linter.unusedVariables false

theorem quo_bd_pos {z d q r : Int} (e : z = d * q + r) (d0 : 0 < d) (r0 : 0 ≤ r) (r1 : r < d) : -(z.natAbs : Int) ≤ q ∧ q ≤ z.natAbs := by
  constructor
  · refine Int.not_lt.1 fun h => ?_
    have h1 : d * (q + 1) ≤ 1 * (q + 1) := Int.mul_le_mul_of_nonpos_right (by omega) (by omega)
    have h2 : d * (q + 1) = d * q + d := by grind
    omega
  · refine Int.not_lt.1 fun h => ?_
    have h1 : 1 * q ≤ d * q := Int.mul_le_mul_of_nonneg_right (by omega) (by omega)
    omega
theorem quo_bd {z d q r : Int} (e : z = d * q + r) (hp : 0 < d → 0 ≤ r ∧ r < d) (hm : d < 0 → d < r ∧ r ≤ 0) (hd : d ≠ 0) : -(z.natAbs : Int) ≤ q ∧ q ≤ z.natAbs := by
  rcases Int.lt_or_gt_of_ne hd with h | h
  · have := hm h
    have := quo_bd_pos (z := -z) (d := -d) (q := q) (r := -r) (by rw [e]; grind) (by omega) (by omega) (by omega)
    rwa [Int.natAbs_neg] at this
  · have := hp h
    exact quo_bd_pos e h this.1 this.2
theorem quo_ex (z d : Int) (hd : d ≠ 0) : ∃ q r, z = d * q + r ∧ (0 < d → 0 ≤ r ∧ r < d) ∧ (d < 0 → d < r ∧ r ≤ 0) := by
  rcases Int.lt_or_gt_of_ne hd with h | h
  · have e := Int.mul_ediv_add_emod (-z) (-d)
    have m0 := Int.emod_nonneg (-z) (show -d ≠ 0 by omega)
    have m1 := Int.emod_lt_of_pos (-z) (show 0 < -d by omega)
    refine ⟨(-z) / (-d), -((-z) % (-d)), ?_, by omega, by omega⟩
    generalize (-z) / (-d) = q at *
    generalize (-z) % (-d) = r at *
    have : -d * q = -(d * q) := by grind
    omega
  · have e := Int.mul_ediv_add_emod z d
    have m0 := Int.emod_nonneg z (show d ≠ 0 by omega)
    have m1 := Int.emod_lt_of_pos z h
    exact ⟨z / d, z % d, by omega, by omega, by omega⟩
end Go.Proofs.Ytmpbnmhbebhpeaa
