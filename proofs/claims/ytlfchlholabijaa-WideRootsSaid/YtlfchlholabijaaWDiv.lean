/- The arithmetic of a division of two digits by two: an estimate that is at most two too great, corrected by a loop. No program is named here. -/
import Derived.Test.YtlfchlholabijaaWMath
namespace Go.Proofs.Ytlfchlholabijaa
set_option linter.unusedVariables false
set_option maxRecDepth 2000
open Go.RowKit

/-- what is divided, U and one digit u below it, by two digits; Q is the quotient -/
structure Kn (a b U u Q : Int) : Prop where
  a0 : 2147483648 ≤ a
  a1 : a ≤ 4294967295
  b0 : 0 ≤ b
  b1 : b ≤ 4294967295
  u0 : 0 ≤ u
  u1 : u ≤ 4294967295
  q0 : 0 ≤ Q
  q1 : Q ≤ 4294967295
  low : Q * (a * 4294967296 + b) ≤ U * 4294967296 + u
  top : U * 4294967296 + u < (Q + 1) * (a * 4294967296 + b)

/-- the loop's state: an estimate q that is not too small, and what is left of U by a alone -/
structure Ks (a U Q q r : Int) : Prop where
  eq : q * a + r = U
  ge : Q ≤ q
  le : q ≤ 4294967297
  r0 : 0 ≤ r
  r1 : r ≤ 4294967295

theorem Kn.start {a b U u Q : Int} (k : Kn a b U u Q) : Ks a U Q (U / a) (U - U / a * a) ∧ 0 ≤ U := by
  obtain ⟨a0, a1, b0, b1, u0, u1, q0, q1, low, top⟩ := k
  have hU : 0 ≤ U := by
    have : 0 ≤ Q * (a * 4294967296 + b) := Int.mul_nonneg q0 (by omega)
    omega
  have e := Int.mul_ediv_add_emod U a
  have m0 := Int.emod_nonneg U (show a ≠ 0 by omega)
  have m1 := Int.emod_lt_of_pos U (show 0 < a by omega)
  have hq : 0 ≤ U / a := Int.ediv_nonneg hU (by omega)
  have e2 : a * (U / a) = U / a * a := Int.mul_comm _ _
  have tb : (Q + 1) * (a * 4294967296 + b) ≤ 4294967296 * (a * 4294967296 + b) := Int.mul_le_mul_of_nonneg_right (by omega) (by omega)
  have lb : Q * a * 4294967296 ≤ Q * (a * 4294967296 + b) := by
    have : 0 ≤ Q * b := Int.mul_nonneg q0 b0
    grind
  refine ⟨⟨by omega, ?_, ?_, by omega, by omega⟩, hU⟩
  · have : Q * a ≤ U := by omega
    exact (Int.le_ediv_iff_mul_le (by omega)).2 this
  · have h : U / a < 4294967298 := by
      refine Int.ediv_lt_of_lt_mul (by omega) ?_
      omega
    omega

theorem Kn.gt {a b U u Q q r : Int} (k : Kn a b U u Q) (s : Ks a U Q q r) (h : 4294967296 ≤ q) : Q + 1 ≤ q := by
  have := k.q1; omega

/-- the loop's test: q is too great just if q b is more than what is left, with the next digit -/
theorem Kn.test {a b U u Q q r : Int} (k : Kn a b U u Q) (s : Ks a U Q q r) : (r * 4294967296 + u < q * b ↔ Q + 1 ≤ q) := by
  obtain ⟨a0, a1, b0, b1, u0, u1, q0, q1, low, top⟩ := k
  obtain ⟨eq, ge, le, r0, r1⟩ := s
  have e : q * (a * 4294967296 + b) = (U - r) * 4294967296 + q * b := by rw [← eq]; grind
  constructor
  · intro h
    refine Int.not_lt.1 fun hq => ?_
    have : q = Q := by omega
    subst this
    omega
  · intro h
    have : (Q + 1) * (a * 4294967296 + b) ≤ q * (a * 4294967296 + b) := Int.mul_le_mul_of_nonneg_right h (by omega)
    omega

theorem Kn.last {a b U u Q q r : Int} (k : Kn a b U u Q) (s : Ks a U Q q r) (h : Q + 1 ≤ q) (hr : 4294967296 ≤ r + a) : q = Q + 1 := by
  obtain ⟨a0, a1, b0, b1, u0, u1, q0, q1, low, top⟩ := k
  obtain ⟨eq, ge, le, r0, r1⟩ := s
  refine Int.le_antisymm (Int.not_lt.1 fun hq => ?_) h
  have e : (q - 1) * (a * 4294967296 + b) = (U - (r + a)) * 4294967296 + (q - 1) * b := by rw [← eq]; grind
  have h1 : (q - 1) * b ≤ 4294967296 * 4294967295 := Int.mul_le_mul (by omega) b1 b0 (by omega)
  have h2 : (Q + 1) * (a * 4294967296 + b) ≤ (q - 1) * (a * 4294967296 + b) := Int.mul_le_mul_of_nonneg_right (by omega) (by omega)
  omega

theorem Kn.next {a b U u Q q r : Int} (k : Kn a b U u Q) (s : Ks a U Q q r) (h : Q + 1 ≤ q) (hr : r + a ≤ 4294967295) : Ks a U Q (q - 1) (r + a) := by
  obtain ⟨a0, a1, b0, b1, u0, u1, q0, q1, low, top⟩ := k
  obtain ⟨eq, ge, le, r0, r1⟩ := s
  exact ⟨by rw [← eq]; grind, by omega, by omega, by omega, by omega⟩

theorem mul_small {q b : Int} (q0 : 0 ≤ q) (q1 : q ≤ 4294967295) (b0 : 0 ≤ b) (b1 : b ≤ 4294967295) : 0 ≤ q * b ∧ q * b ≤ 18446744065119617025 := by
  refine ⟨Int.mul_nonneg q0 b0, ?_⟩
  have := Int.mul_le_mul q1 b1 b0 (by omega : (0 : Int) ≤ 4294967295)
  omega

/-- what is left behind one digit is the number less the digit's product, in 64 bits -/
theorem Kn.left {a b U u Q : Int} (k : Kn a b U u Q) :
    IntKind.u64.wrap (IntKind.u64.wrap (IntKind.u64.wrap (U * 4294967296) + u) - IntKind.u64.wrap (Q * (a * 4294967296 + b))) = U * 4294967296 + u - Q * (a * 4294967296 + b)
      ∧ 0 ≤ U * 4294967296 + u - Q * (a * 4294967296 + b) ∧ U * 4294967296 + u - Q * (a * 4294967296 + b) < a * 4294967296 + b := by
  obtain ⟨a0, a1, b0, b1, u0, u1, q0, q1, low, top⟩ := k
  have e : (Q + 1) * (a * 4294967296 + b) = Q * (a * 4294967296 + b) + (a * 4294967296 + b) := by grind
  rw [e] at top
  generalize Q * (a * 4294967296 + b) = p at *
  simp only [IntKind.wrap_u64]
  omega
end Go.Proofs.Ytlfchlholabijaa
