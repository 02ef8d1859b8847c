/- The document's direction; the chapter's example. -/
import Derived.Test.YtgggngcgcpmkbaaVK
import Derived.Test.YtgggngcgcpmkbaaVF
namespace Go.Proofs.Ytgggngcgcpmkbaa
set_option linter.unusedVariables false
set_option maxRecDepth 2000
set_option linter.unusedSimpArgs false
open Go.RowKit
attribute [local go_sem] setCell_twice setCell_pair

theorem ediv_is (a b q r : Int) (hb : 0 < b) (e : r + b * q = a) (h0 : 0 ≤ r) (h1 : r < b) : a / b = q := ((Int.ediv_emod_unique hb).2 ⟨e, h0, h1⟩).1

theorem part_le (p S : Int) (s : Nat) (hp : p * p ≤ S) (s2 : S * 18446744073709551616 < ((s : Int) + 1) * (s + 1)) : (p.natAbs : Int) * 4294967296 ≤ s := by
  refine Int.not_lt.1 fun h => ?_
  have h1 : (s : Int) + 1 ≤ (p.natAbs : Int) * 4294967296 := by omega
  have h2 := Int.mul_le_mul h1 h1 (by omega) (by omega)
  have h3 := abs_sq p
  have h4 : (p.natAbs : Int) * 4294967296 * ((p.natAbs : Int) * 4294967296) = (p.natAbs : Int) * p.natAbs * 18446744073709551616 := by grind
  omega

theorem round_any (p S : Int) (s : Nat) (hb : -1073741824 ≤ p ∧ p ≤ 1073741824) (hs0 : 0 < (s : Int)) (hs1 : (s : Int) ≤ 9223372036854775807) (hp : p * p ≤ S) (s2 : S * 18446744073709551616 < ((s : Int) + 1) * (s + 1)) :
    RoundOf s p (unitF (p * 4294967296) s) := by
  have hl := part_le p S s hp s2
  have hm : 0 ≤ (p.natAbs : Int) ∧ (p.natAbs : Int) ≤ 1073741824 := by omega
  have hlt : (p.natAbs : Int) < s := by omega
  have hd := Int.mul_ediv_add_emod ((p.natAbs : Int) * 18446744073709551616 + 0) s
  have r0 := Int.emod_nonneg ((p.natAbs : Int) * 18446744073709551616 + 0) (show (s : Int) ≠ 0 by omega)
  have r1 := Int.emod_lt_of_pos ((p.natAbs : Int) * 18446744073709551616 + 0) hs0
  have q0 : 0 ≤ ((p.natAbs : Int) * 18446744073709551616 + 0) / s := Int.ediv_nonneg (by omega) (by omega)
  have q1 : ((p.natAbs : Int) * 18446744073709551616 + 0) / s ≤ 4294967296 := by
    refine Int.ediv_le_of_le_mul hs0 ?_
    have : (p.natAbs : Int) * 18446744073709551616 = (p.natAbs : Int) * 4294967296 * 4294967296 := by grind
    have := Int.mul_le_mul_of_nonneg_right hl (show (0 : Int) ≤ 4294967296 by omega)
    rw [Int.mul_comm 4294967296 (s : Int)]
    omega
  have sz := fun w => size_any p (by omega) (by omega) w
  have dv := fun w => Div64_any (p.natAbs : Int) 0 s (by omega) hlt (by omega) (by omega) (by omega) w
  unfold unitF
  rw [if_neg (show (s : Int) ≠ 0 by omega)]
  have e : p * 4294967296 * 4294967296 = p * 18446744073709551616 := by grind
  rw [e]
  generalize ((p.natAbs : Int) * 18446744073709551616 + 0) / s = q at *
  generalize ((p.natAbs : Int) * 18446744073709551616 + 0) % s = r at *
  by_cases hn : p < 0
  · have hpm : p = -(p.natAbs : Int) := by omega
    by_cases hr : 0 < r
    · refine ⟨_, q, r, q + 1, q0, by omega, r0, .inl ⟨hn, hr, rfl⟩, sz, dv, ?_⟩
      have ne := fun w => near_any (q + 1) (q + 1) (decide (p < 0)) false (by omega) (by omega) (by rw [decide_eq_false (by omega)]) (fun _ => rfl) w
      rw [decide_eq_true hn] at ne ⊢
      rw [if_pos rfl] at ne
      rw [ediv_is (p * 18446744073709551616) s (-(q + 1)) (s - r) hs0 (by rw [hpm]; grind) (by omega) (by omega)]
      exact ne
    · refine ⟨_, q, r, q, q0, by omega, r0, .inr (.inl ⟨hn, by omega, rfl⟩), sz, dv, ?_⟩
      have ne := fun w => near_any q q (decide (p < 0)) false (by omega) (by omega) (by rw [decide_eq_false (by omega)]) (fun _ => rfl) w
      rw [decide_eq_true hn] at ne ⊢
      rw [if_pos rfl] at ne
      rw [ediv_is (p * 18446744073709551616) s (-q) 0 hs0 (by rw [hpm]; grind) (by omega) (by omega)]
      exact ne
  · have hpm : p = (p.natAbs : Int) := by omega
    refine ⟨_, q, r, q, q0, by omega, r0, .inr (.inr ⟨hn, rfl⟩), sz, dv, ?_⟩
    have ne := fun w => near_any q q (decide (p < 0)) false (by omega) (by omega) (by rw [decide_eq_false (by omega)]) (fun _ => rfl) w
    rw [decide_eq_false hn] at ne ⊢
    rw [if_neg (by decide)] at ne
    rw [ediv_is (p * 18446744073709551616) s q r hs0 (by rw [hpm]; grind) r0 r1]
    exact ne

/-- vec.Of -/
theorem VOf_any (x y z : Int) (hx : in64 x) (hy : in64 y) (hz : in64 z) (w : World) :
    Calls Try.prog 59 #[(.agg #[.int .i64 x, .int .i64 y, .int .i64 z])] w fun e w' => e = .returned (.agg #[.int .i64 (sat (x * 4294967296)), .int .i64 (sat (y * 4294967296)), .int .i64 (sat (z * 4294967296))]) ∧ Below w.heap.size w w' :=
  VOf_core x y z _ _ _ w (fun w => eachOf_any x y z hx hy hz w)
end Go.Proofs.Ytgggngcgcpmkbaa
