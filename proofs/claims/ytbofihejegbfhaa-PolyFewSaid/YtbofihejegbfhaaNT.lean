/- Digits into bytes: numbers. -/
import Derived.Test.YtbofihejegbfhaaNM
import Derived.Test.YtbofihejegbfhaaNL
import Derived.Lib.Hide
namespace Go.Proofs.Ytbofihejegbfhaa
set_option linter.unusedVariables false
set_option maxRecDepth 2000
set_option linter.unusedSimpArgs false
open Go.RowKit
theorem and1_i64 (n : Int) : bits .and .i64 n 1 = n % 2 := by
  have h1 : (BitVec.ofInt 64 1).toNat = 2 ^ 1 - 1 := by decide
  have key : (BitVec.ofInt 64 n &&& BitVec.ofInt 64 1).toNat = (n % ((2 ^ 64 : Nat) : Int)).toNat % 2 ^ 1 := by
    rw [BitVec.toNat_and, BitVec.toNat_ofInt, h1, Nat.and_two_pow_sub_one_eq_mod]
  show IntKind.i64.wrap ((BitVec.ofInt 64 n &&& BitVec.ofInt 64 1).toNat : Nat) = n % 2
  rw [key, IntKind.wrap_i64]
  omega
/-- what is carried to the i-th byte of a sum -/
def carO (H S i : Nat) : Nat := (H % 256 ^ i + S % 256 ^ i) / 256 ^ i
theorem carO0 (H S : Nat) : carO H S 0 = 0 := by simp [carO, Nat.mod_one]
theorem carO_bd (H S i : Nat) : carO H S i ≤ 1 := by
  unfold carO
  have hM := pow256_pos i
  have h1 := Nat.mod_lt H hM
  have h2 := Nat.mod_lt S hM
  generalize 256 ^ i = M at *
  have : (H % M + S % M) / M < 2 := Nat.div_lt_of_lt_mul (by omega)
  exact Nat.le_of_lt_succ this
theorem out_next (H S i : Nat) : byt (H + S) i = (((S / 256 ^ i % 256 + carO H S i + H / 256 ^ i % 256) % 256 : Nat) : Int) ∧ carO H S (i + 1) = (S / 256 ^ i % 256 + carO H S i + H / 256 ^ i % 256) / 256 := by
  unfold byt carO
  have hM := pow256_pos i
  rw [Nat.pow_succ]
  generalize 256 ^ i = M at *
  constructor
  · rw [nat_add_div H S M hM]
    congr 1
    omega
  · rw [nat_mod_mul H M, nat_mod_mul S M, ← Nat.div_div_eq_div_mul, show H % M + M * (H / M % 256) + (S % M + M * (S / M % 256)) = H % M + S % M + M * (H / M % 256 + S / M % 256) by rw [Nat.mul_add]; omega, Nat.add_mul_div_left _ _ hM]
    congr 1
    omega
theorem dig_bit (H s t : Nat) (ht : t < 26) : digs H s / ((2 ^ t : Nat) : Int) % 2 = ((H / 2 ^ (26 * s + t) % 2 : Nat) : Int) := by
  unfold digs
  rw [Nat.pow_add, ← Nat.div_div_eq_div_mul]
  generalize H / 2 ^ (26 * s) = d
  rw [← Int.natCast_ediv]
  have e : d % 67108864 / 2 ^ t % 2 = d / 2 ^ t % 2 := by
    have e2 : 67108864 = 2 ^ t * (2 * 2 ^ (25 - t)) := by
      rw [← Nat.pow_succ', ← Nat.pow_add]; rw [show t + (25 - t + 1) = 26 by omega]
    rw [e2, Nat.mod_mul_right_div_self, Nat.mod_mul_right_mod]
  rw [← e]
  omega
/-- the next bit of a byte -/
theorem bit_next (H i k : Nat) : H / 256 ^ i % 2 ^ (k + 1) = H / 256 ^ i % 2 ^ k + 2 ^ k * (H / 2 ^ (8 * i + k) % 2) := by
  rw [Nat.pow_add 2 (8 * i) k, show 2 ^ (8 * i) = 256 ^ i by rw [Nat.pow_mul], ← Nat.div_div_eq_div_mul, mod_next]
end Go.Proofs.Ytbofihejegbfhaa
