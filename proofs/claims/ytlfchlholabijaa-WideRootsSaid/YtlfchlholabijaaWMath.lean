/- Whole numbers of 128 bits as two halves: the plain arithmetic beneath the walks; no program is named here. -/
import Derived.WalkKit
import Derived.Laws.Externs
import Derived.Laws.Bits64b
namespace Go.Proofs.Ytlfchlholabijaa
set_option linter.unusedVariables false
set_option maxRecDepth 2000
open Go.RowKit

/-- the upper and the lower half of a whole number, as Go's Hi and Lo -/
def hi (z : Int) : Int := z / 18446744073709551616
def lo (z : Int) : Int := z % 18446744073709551616

/-- two wide numbers are the same, half by half -/
def eqB (a b c d : Int) : Bool := a == c && b == d

theorem hl (z : Int) : hi z * 18446744073709551616 + lo z = z := by unfold hi lo; omega
theorem lo_bd (z : Int) : 0 ≤ lo z ∧ lo z < 18446744073709551616 := by unfold lo; omega
theorem lo_bd' (z : Int) : 0 ≤ lo z ∧ lo z ≤ 18446744073709551615 := by unfold lo; omega
theorem hi_of (h l : Int) (h0 : 0 ≤ l) (h1 : l < 18446744073709551616) : hi (h * 18446744073709551616 + l) = h := by unfold hi; omega
theorem lo_of (h l : Int) (h0 : 0 ≤ l) (h1 : l < 18446744073709551616) : lo (h * 18446744073709551616 + l) = l := by unfold lo; omega
theorem hi_small (z : Int) (h0 : 0 ≤ z) (h1 : z < 18446744073709551616) : hi z = 0 := by unfold hi; omega
theorem lo_small (z : Int) (h0 : 0 ≤ z) (h1 : z < 18446744073709551616) : lo z = z := by unfold lo; omega
theorem hi_bd (z : Int) (h0 : -170141183460469231731687303715884105728 ≤ z) (h1 : z < 170141183460469231731687303715884105728) : -9223372036854775808 ≤ hi z ∧ hi z ≤ 9223372036854775807 := by unfold hi; omega
theorem hl_inj {y z : Int} (h : hi y = hi z) (l : lo y = lo z) : y = z := by rw [← hl y, ← hl z, h, l]

theorem eqB_wide (x y : Int) : eqB (hi x) (lo x) (hi y) (lo y) = decide (x = y) := by
  unfold eqB
  by_cases h : x = y
  · subst h; simp
  · rw [decide_eq_false h]
    by_cases a : hi x = hi y
    · have : lo x ≠ lo y := fun b => h (hl_inj a b)
      simp [this]
    · simp [a]

/-- what math/bits.Sub64 is taken to be -/
def sub64Entry : Array Value → Sem Value := fun args => do
  let (x, y, b) ← Extern.MathBitsCarry.three "Sub64" args
  pure (Extern.MathBitsCarry.pair ((x + Extern.MathBitsCarry.m64 - y - b) % Extern.MathBitsCarry.m64) (if x < y + b then 1 else 0))

theorem run_sub64 {P : Program} (x y : Int) (hx : 0 ≤ x) (hy : 0 ≤ y) (hy1 : y < 18446744073709551616) (w : World) :
    (sub64Entry #[.int .u64 x, .int .u64 y, .int .u64 0]).run P w =
      .ok (.tuple #[.int .u64 (lo (x - y)), .int .u64 (if x < y then 1 else 0)]) w := by
  have key : (sub64Entry #[.int .u64 x, .int .u64 y, .int .u64 0]).run P w =
      .ok (Extern.MathBitsCarry.pair ((x.toNat + Extern.MathBitsCarry.m64 - y.toNat - 0) % Extern.MathBitsCarry.m64) (if x.toNat < y.toNat + 0 then 1 else 0)) w := rfl
  rw [key]
  obtain ⟨X, rfl⟩ := Int.eq_ofNat_of_zero_le hx
  obtain ⟨Y, rfl⟩ := Int.eq_ofNat_of_zero_le hy
  have e1 : (Int.ofNat ((X + 18446744073709551616 - Y - 0) % 18446744073709551616)) = lo ((X : Int) - Y) := by
    simp only [lo, Int.ofNat_eq_natCast]; omega
  have e2 : (Int.ofNat (if X < Y + 0 then 1 else 0)) = (if (X : Int) < Y then 1 else 0) := by
    by_cases h : X < Y
    · rw [if_pos (by omega), if_pos (by omega)]; rfl
    · rw [if_neg (by omega), if_neg (by omega)]; rfl
  simp only [Extern.MathBitsCarry.pair, Int.toNat_natCast, Extern.MathBitsCarry.m64, Nat.reducePow]
  rw [e1, e2]


theorem toInt_wrap (x : BitVec 64) : IntKind.i64.wrap (x.toNat : Int) = x.toInt := by
  rw [IntKind.wrap_i64, BitVec.toInt_eq_toNat_cond]
  have := x.isLt
  split <;> omega
theorem bits_i64 (a b : Int) : bits .and .i64 a b = (BitVec.ofInt 64 a &&& BitVec.ofInt 64 b).toInt ∧ bits .xor .i64 a b = (BitVec.ofInt 64 a ^^^ BitVec.ofInt 64 b).toInt :=
  ⟨toInt_wrap _, toInt_wrap _⟩
theorem toInt_in (a : Int) (h0 : -9223372036854775808 ≤ a) (h1 : a ≤ 9223372036854775807) : (BitVec.ofInt 64 a).toInt = a := by
  rw [BitVec.toInt_ofInt]
  exact Int.bmod_eq_of_le (by omega) (by omega)
theorem msb_in (a : Int) (h0 : -9223372036854775808 ≤ a) (h1 : a ≤ 9223372036854775807) : (BitVec.ofInt 64 a).msb = decide (a < 0) := by
  rw [BitVec.msb_eq_toInt, toInt_in a h0 h1]
/-- the sign of (a xor c) and (b xor c): below 0 where c has neither's sign -/
theorem and_xor_neg (a b c : Int) (a0 : -9223372036854775808 ≤ a) (a1 : a ≤ 9223372036854775807) (b0 : -9223372036854775808 ≤ b) (b1 : b ≤ 9223372036854775807)
    (c0 : -9223372036854775808 ≤ c) (c1 : c ≤ 9223372036854775807) :
    decide (bits .and .i64 (bits .xor .i64 a c) (bits .xor .i64 b c) < 0) = (decide (a < 0) != decide (c < 0) && decide (b < 0) != decide (c < 0)) := by
  rw [(bits_i64 _ _).1, (bits_i64 a c).2, (bits_i64 b c).2, BitVec.ofInt_toInt, BitVec.ofInt_toInt, ← BitVec.msb_eq_toInt, BitVec.msb_and, BitVec.msb_xor, BitVec.msb_xor,
    msb_in a a0 a1, msb_in b b0 b1, msb_in c c0 c1]
theorem and_sign (a b : Int) (a0 : -9223372036854775808 ≤ a) (a1 : a ≤ 9223372036854775807) (b0 : -9223372036854775808 ≤ b) (b1 : b ≤ 9223372036854775807) :
    bits .and .i64 (a / 9223372036854775808) b = if a < 0 then b else 0 := by
  have e : a / 9223372036854775808 = if a < 0 then -1 else 0 := by split <;> omega
  rw [(bits_i64 _ _).1, e]
  split
  · rw [show BitVec.ofInt 64 (-1) = BitVec.allOnes 64 from by decide, BitVec.allOnes_and, toInt_in b b0 b1]
  · rw [show BitVec.ofInt 64 0 = 0#64 from by decide, BitVec.zero_and]; rfl

theorem wrap_of_bool (a : Int) : IntKind.u64.wrap a = lo a := by rw [IntKind.wrap_u64]; rfl

theorem plus_hi (ha hb c : Int) : wrap64 (wrap64 (ha + hb) + c) = wrap64 (ha + hb + c) := by unfold wrap64; omega
theorem flip_hi (h b : Int) : wrap64 (wrap64 (-h) - b) = wrap64 (-h - b) := by unfold wrap64; omega
theorem flip_hi_of (z : Int) : hi (-z) = -hi z - (if 0 < lo z then 1 else 0) ∧ lo (-z) = lo (-lo z) := by
  unfold hi lo; constructor
  · split <;> omega
  · omega
theorem plus_hi_of (a b : Int) : hi (a + b) = hi a + hi b + hi (lo a + lo b) ∧ lo (a + b) = lo (lo a + lo b) := by
  unfold hi lo; omega
theorem carry_bd (a b : Int) : 0 ≤ hi (lo a + lo b) ∧ hi (lo a + lo b) ≤ 1 := by unfold hi lo; omega
/-- whether the sum's sign shows that it left the range -/
theorem plus_over (a b : Int) (a0 : -170141183460469231731687303715884105728 ≤ a) (a1 : a < 170141183460469231731687303715884105728)
    (b0 : -170141183460469231731687303715884105728 ≤ b) (b1 : b < 170141183460469231731687303715884105728) :
    decide (bits .and .i64 (bits .xor .i64 (hi a) (wrap64 (hi (a + b)))) (bits .xor .i64 (hi b) (wrap64 (hi (a + b)))) < 0)
      = !decide (-170141183460469231731687303715884105728 ≤ a + b ∧ a + b < 170141183460469231731687303715884105728) := by
  have ba := hi_bd a a0 a1
  have bb := hi_bd b b0 b1
  have bc : -9223372036854775808 ≤ wrap64 (hi (a + b)) ∧ wrap64 (hi (a + b)) ≤ 9223372036854775807 := by unfold wrap64; omega
  rw [and_xor_neg _ _ _ ba.1 ba.2 bb.1 bb.2 bc.1 bc.2, Bool.eq_iff_iff]
  simp only [Bool.and_eq_true, bne_iff_ne, ne_eq, decide_eq_decide, Bool.not_eq_true', decide_eq_false_iff_not]
  unfold wrap64 hi
  omega
theorem wrap_hi (z : Int) (h0 : -170141183460469231731687303715884105728 ≤ z) (h1 : z < 170141183460469231731687303715884105728) : wrap64 (hi z) = hi z := by
  have := hi_bd z h0 h1; unfold wrap64; omega

theorem prod_bd (a b : Int) (a0 : -9223372036854775808 ≤ a) (a1 : a ≤ 9223372036854775807) (b0 : -9223372036854775808 ≤ b) (b1 : b ≤ 9223372036854775807) :
    -85070591730234615865843651857942052864 ≤ a * b ∧ a * b ≤ 85070591730234615865843651857942052864 := by
  have h1 : 0 ≤ (9223372036854775808 - a) * (9223372036854775808 - b) := Int.mul_nonneg (by omega) (by omega)
  have h2 : 0 ≤ (9223372036854775808 + a) * (9223372036854775808 + b) := Int.mul_nonneg (by omega) (by omega)
  have h3 : 0 ≤ (9223372036854775808 - a) * (9223372036854775808 + b) := Int.mul_nonneg (by omega) (by omega)
  have h4 : 0 ≤ (9223372036854775808 + a) * (9223372036854775808 - b) := Int.mul_nonneg (by omega) (by omega)
  constructor <;> grind

theorem mul_hi_of (a b : Int) (a0 : -9223372036854775808 ≤ a) (a1 : a ≤ 9223372036854775807) (b0 : -9223372036854775808 ≤ b) (b1 : b ≤ 9223372036854775807) :
    wrap64 (wrap64 (wrap64 (hi (lo a * lo b)) - (if a < 0 then b else 0)) - (if b < 0 then a else 0)) = hi (a * b) ∧ lo (lo a * lo b) = lo (a * b) := by
  have ea : lo a = a + (if a < 0 then 18446744073709551616 else 0) := by unfold lo; split <;> omega
  have eb : lo b = b + (if b < 0 then 18446744073709551616 else 0) := by unfold lo; split <;> omega
  have bd := prod_bd a b a0 a1 b0 b1
  have e : lo a * lo b = a * b + 18446744073709551616 * ((if a < 0 then b else 0) + (if b < 0 then a else 0) + (if a < 0 ∧ b < 0 then 18446744073709551616 else 0)) := by
    rw [ea, eb]
    by_cases ha : a < 0 <;> by_cases hb : b < 0 <;> simp only [ha, hb, if_true, if_false, and_self, and_false, false_and] <;> grind
  rw [e]
  generalize a * b = p at *
  by_cases ha : a < 0 <;> by_cases hb : b < 0 <;> simp only [ha, hb, if_true, if_false, and_self, and_false, false_and] <;> unfold wrap64 hi lo <;> omega

end Go.Proofs.Ytlfchlholabijaa
