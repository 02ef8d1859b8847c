/- Numbers that saturate: the plain arithmetic beneath package fix. -/
import Derived.Test.YtlfchlholabijaaWMath
namespace Go.Proofs.Ytlfchlholabijaa
set_option linter.unusedVariables false
set_option maxRecDepth 2000
open Go.RowKit

/-- the nearest int64 -/
def sat (z : Int) : Int := if z < -9223372036854775808 then -9223372036854775808 else if 9223372036854775807 < z then 9223372036854775807 else z

/-- the least int64, or the greatest -/
def lim (t : Bool) : Int := if t then -9223372036854775808 else 9223372036854775807
def pickF (t : Bool) (a b : Int) : Int := bif t then a else b

theorem sat_bd (z : Int) : -9223372036854775808 ≤ sat z ∧ sat z ≤ 9223372036854775807 := by
  unfold sat; split
  · omega
  · split <;> omega
theorem sat_in (z : Int) (h0 : -9223372036854775808 ≤ z) (h1 : z ≤ 9223372036854775807) : sat z = z := by
  unfold sat; rw [if_neg (by omega), if_neg (by omega)]
theorem sat_lo (z : Int) (h : z < -9223372036854775808) : sat z = -9223372036854775808 := by
  unfold sat; rw [if_pos h]
theorem sat_hi (z : Int) (h : 9223372036854775807 < z) : sat z = 9223372036854775807 := by
  unfold sat; rw [if_neg (by omega), if_pos h]

/-- the sign of (a xor c) and (b xor c), c the sum with wraparound: below 0 just if the sum leaves the range -/
theorem add_over (a b : Int) (a0 : -9223372036854775808 ≤ a) (a1 : a ≤ 9223372036854775807) (b0 : -9223372036854775808 ≤ b) (b1 : b ≤ 9223372036854775807) :
    decide (bits .and .i64 (bits .xor .i64 a (wrap64 (a + b))) (bits .xor .i64 b (wrap64 (a + b))) < 0) = !decide (-9223372036854775808 ≤ a + b ∧ a + b ≤ 9223372036854775807) := by
  have bc : -9223372036854775808 ≤ wrap64 (a + b) ∧ wrap64 (a + b) ≤ 9223372036854775807 := by unfold wrap64; omega
  rw [and_xor_neg _ _ _ a0 a1 b0 b1 bc.1 bc.2, Bool.eq_iff_iff]
  simp only [Bool.and_eq_true, bne_iff_ne, ne_eq, decide_eq_decide, Bool.not_eq_true', decide_eq_false_iff_not]
  unfold wrap64
  omega
/-- the same of a difference -/
theorem sub_over (a b : Int) (a0 : -9223372036854775808 ≤ a) (a1 : a ≤ 9223372036854775807) (b0 : -9223372036854775808 ≤ b) (b1 : b ≤ 9223372036854775807) :
    decide (bits .and .i64 (bits .xor .i64 a b) (bits .xor .i64 a (wrap64 (a - b))) < 0) = !decide (-9223372036854775808 ≤ a - b ∧ a - b ≤ 9223372036854775807) := by
  have bc : -9223372036854775808 ≤ wrap64 (a - b) ∧ wrap64 (a - b) ≤ 9223372036854775807 := by unfold wrap64; omega
  have e : bits .xor .i64 a b = bits .xor .i64 b a := by
    rw [(bits_i64 a b).2, (bits_i64 b a).2, BitVec.xor_comm]
  have e2 : bits .xor .i64 a (wrap64 (a - b)) = bits .xor .i64 (wrap64 (a - b)) a := by
    rw [(bits_i64 a _).2, (bits_i64 _ a).2, BitVec.xor_comm]
  rw [e, e2, and_xor_neg _ _ _ b0 b1 bc.1 bc.2 a0 a1, Bool.eq_iff_iff]
  simp only [Bool.and_eq_true, bne_iff_ne, ne_eq, decide_eq_decide, Bool.not_eq_true', decide_eq_false_iff_not]
  unfold wrap64
  omega
theorem wrap64_in (z : Int) (h0 : -9223372036854775808 ≤ z) (h1 : z ≤ 9223372036854775807) : wrap64 z = z := by unfold wrap64; omega
theorem exists_root (z : Int) (z0 : 0 ≤ z) : ∃ s : Nat, (s : Int) * s ≤ z ∧ z < ((s : Int) + 1) * (s + 1) := by
  obtain ⟨n, rfl⟩ := Int.eq_ofNat_of_zero_le z0
  induction n with
  | zero => exact ⟨0, by simp, by simp⟩
  | succ n ih =>
    obtain ⟨s, h1, h2⟩ := ih (by omega)
    by_cases h : ((s : Int) + 1) * (s + 1) ≤ (n + 1 : Nat)
    · refine ⟨s + 1, by simpa using h, ?_⟩
      have : ((s : Int) + 1) * (s + 1) + ((s : Int) + 1) + ((s : Int) + 1) + 1 = ((s + 1 : Nat) + 1 : Int) * ((s + 1 : Nat) + 1) := by
        rw [Int.natCast_add]; grind
      omega
    · exact ⟨s, by omega, by omega⟩
end Go.Proofs.Ytlfchlholabijaa
