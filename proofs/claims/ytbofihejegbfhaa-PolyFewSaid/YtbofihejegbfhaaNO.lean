/- What carrying does to a number; a product of digits; the document's times. -/
import Derived.Test.YtbofihejegbfhaaNN
import Derived.Lib.Hide
namespace Go.Proofs.Ytbofihejegbfhaa
set_option linter.unusedVariables false
set_option maxRecDepth 2000
set_option linter.unusedSimpArgs false
open Go.RowKit
theorem round_parts (g : Nat → Int) : ∃ c0 t1 c1 t2 c2 t3 c3 t4 c4 : Int, c0 = g 0 / 67108864 ∧ t1 = g 1 + c0 ∧ c1 = t1 / 67108864 ∧ t2 = g 2 + c1 ∧ c2 = t2 / 67108864 ∧ t3 = g 3 + c2 ∧ c3 = t3 / 67108864 ∧ t4 = g 4 + c3 ∧ c4 = t4 / 67108864 ∧
    itC g 5 0 = g 0 - c0 * 67108864 + 5 * c4 ∧ itC g 5 1 = t1 - c1 * 67108864 ∧ itC g 5 2 = t2 - c2 * 67108864 ∧ itC g 5 3 = t3 - c3 * 67108864 ∧ itC g 5 4 = t4 - c4 * 67108864 :=
  ⟨_, _, _, _, _, _, _, _, _, rfl, rfl, rfl, rfl, rfl, rfl, rfl, rfl, rfl, rfl, rfl, rfl, rfl, rfl⟩
/-- a round takes away the prime a few times -/
theorem round_V5 (g : Nat → Int) : ∃ c : Int, V5 (itC g 5) = V5 g - 1361129467683753853853498429727072845819 * c := by
  obtain ⟨c0, t1, c1, t2, c2, t3, c3, t4, c4, e0, e1, e2, e3, e4, e5, e6, e7, e8, h0, h1, h2, h3, h4⟩ := round_parts g
  refine ⟨c4, ?_⟩
  unfold V5
  rw [h0, h1, h2, h3, h4]
  omega
theorem five {P : Nat → Prop} (h0 : P 0) (h1 : P 1) (h2 : P 2) (h3 : P 3) (h4 : P 4) : ∀ j, j < 5 → P j := fun j hj => by
  have : j = 0 ∨ j = 1 ∨ j = 2 ∨ j = 3 ∨ j = 4 := by omega
  rcases this with rfl | rfl | rfl | rfl | rfl <;> assumption
/-- three rounds make digits -/
theorem carry_digits (f : Nat → Int) (hf : ∀ j, j < 5 → 0 ≤ f j ∧ f j ≤ 2305843009213693952) : ∀ j, j < 5 → 0 ≤ itR f 3 j ∧ itR f 3 j < 67108864 := by
  have r1 : ∀ j, j < 5 → 0 ≤ itR f 1 j ∧ itR f 1 j ≤ if j = 0 then 549755813888 else 67108863 := by
    obtain ⟨c0, t1, c1, t2, c2, t3, c3, t4, c4, e0, e1, e2, e3, e4, e5, e6, e7, e8, h0, h1, h2, h3, h4⟩ := round_parts f
    have q0 := hf 0 (by decide); have q1 := hf 1 (by decide); have q2 := hf 2 (by decide); have q3 := hf 3 (by decide); have q4 := hf 4 (by decide)
    show ∀ j, j < 5 → 0 ≤ itC f 5 j ∧ itC f 5 j ≤ _
    refine five ?_ ?_ ?_ ?_ ?_
    · rw [h0, if_pos rfl]; omega
    · rw [h1, if_neg (by decide)]; omega
    · rw [h2, if_neg (by decide)]; omega
    · rw [h3, if_neg (by decide)]; omega
    · rw [h4, if_neg (by decide)]; omega
  have r2 : ∀ j, j < 5 → 0 ≤ itR f 2 j ∧ itR f 2 j ≤ if j = 0 then 67108868 else 67108863 := by
    have e : itR f 2 = itC (itR f 1) 5 := rfl
    rw [e]
    clear e
    generalize itR f 1 = g at *
    have q0 := r1 0 (by decide); have q1 := r1 1 (by decide); have q2 := r1 2 (by decide); have q3 := r1 3 (by decide); have q4 := r1 4 (by decide)
    rw [if_pos rfl] at q0
    rw [if_neg (by decide)] at q1 q2 q3 q4
    obtain ⟨c0, t1, c1, t2, c2, t3, c3, t4, c4, e0, e1, e2, e3, e4, e5, e6, e7, e8, h0, h1, h2, h3, h4⟩ := round_parts g
    refine five ?_ ?_ ?_ ?_ ?_
    · rw [h0, if_pos rfl]; omega
    · rw [h1, if_neg (by decide)]; omega
    · rw [h2, if_neg (by decide)]; omega
    · rw [h3, if_neg (by decide)]; omega
    · rw [h4, if_neg (by decide)]; omega
  have e : itR f 3 = itC (itR f 2) 5 := rfl
  rw [e]
  clear e
  generalize itR f 2 = g at *
  have q0 := r2 0 (by decide); have q1 := r2 1 (by decide); have q2 := r2 2 (by decide); have q3 := r2 3 (by decide); have q4 := r2 4 (by decide)
  rw [if_pos rfl] at q0
  rw [if_neg (by decide)] at q1 q2 q3 q4
  obtain ⟨c0, t1, c1, t2, c2, t3, c3, t4, c4, e0, e1, e2, e3, e4, e5, e6, e7, e8, h0, h1, h2, h3, h4⟩ := round_parts g
  refine five ?_ ?_ ?_ ?_ ?_
  · rw [h0]; omega
  · rw [h1]; omega
  · rw [h2]; omega
  · rw [h3]; omega
  · rw [h4]; omega
/-- carried digits are those of a number, with the same remainder -/
theorem carry_num (f : Nat → Int) (hf : ∀ j, j < 5 → 0 ≤ f j ∧ f j ≤ 2305843009213693952) : ∃ M : Nat, M < TT ∧ nums .i64 (itR f 3) 5 = nums .i64 (digs M) 5 ∧ ((M : Int) - V5 f) % 1361129467683753853853498429727072845819 = 0 := by
  obtain ⟨v0, v1, v2⟩ := digs_V5 (itR f 3) (carry_digits f hf)
  refine ⟨_, v1, nums_congr _ v2, ?_⟩
  obtain ⟨x1, h1⟩ := round_V5 (itR f 0)
  obtain ⟨x2, h2⟩ := round_V5 (itR f 1)
  obtain ⟨x3, h3⟩ := round_V5 (itR f 2)
  have e1 : V5 (itC (itR f 0) 5) = V5 (itR f 1) := rfl
  have e2 : V5 (itC (itR f 1) 5) = V5 (itR f 2) := rfl
  have e3 : V5 (itC (itR f 2) 5) = V5 (itR f 3) := rfl
  have e0 : V5 (itR f 0) = V5 f := rfl
  rw [e1, e0] at h1; rw [e2] at h2; rw [e3] at h3
  rw [Int.toNat_of_nonneg v0]
  omega
/-- a factor of the n-th step -/
def pT (a b : Nat → Int) (n : Nat) : Int := if 5 ≤ n / 5 + n % 5 then 5 * (a (n / 5) * b (n % 5)) else a (n / 5) * b (n % 5)
/-- the digits of a product behind n steps -/
def accT (a b : Nat → Int) : Nat → Nat → Int
  | 0 => fun _ => 0
  | n + 1 => at1 (accT a b n) ((n / 5 + n % 5) % 5) (accT a b n ((n / 5 + n % 5) % 5) + pT a b n)
theorem acc25 (a b : Nat → Int) : accT a b 25 0 = 0 + a 0 * b 0 + 5 * (a 1 * b 4) + 5 * (a 2 * b 3) + 5 * (a 3 * b 2) + 5 * (a 4 * b 1) ∧ accT a b 25 1 = 0 + a 0 * b 1 + a 1 * b 0 + 5 * (a 2 * b 4) + 5 * (a 3 * b 3) + 5 * (a 4 * b 2) ∧ accT a b 25 2 = 0 + a 0 * b 2 + a 1 * b 1 + a 2 * b 0 + 5 * (a 3 * b 4) + 5 * (a 4 * b 3) ∧ accT a b 25 3 = 0 + a 0 * b 3 + a 1 * b 2 + a 2 * b 1 + a 3 * b 0 + 5 * (a 4 * b 4) ∧ accT a b 25 4 = 0 + a 0 * b 4 + a 1 * b 3 + a 2 * b 2 + a 3 * b 1 + a 4 * b 0 := ⟨rfl, rfl, rfl, rfl, rfl⟩
theorem prod_V5 (a b : Nat → Int) : V5 a * V5 b = V5 (accT a b 25) + 1361129467683753853853498429727072845819 * (1 * (a 1 * b 4) + 1 * (a 2 * b 3) + 67108864 * (a 2 * b 4) + 1 * (a 3 * b 2) + 67108864 * (a 3 * b 3) + 4503599627370496 * (a 3 * b 4) + 1 * (a 4 * b 1) + 67108864 * (a 4 * b 2) + 4503599627370496 * (a 4 * b 3) + 302231454903657293676544 * (a 4 * b 4)) := by
  obtain ⟨h0, h1, h2, h3, h4⟩ := acc25 a b
  unfold V5
  rw [h0, h1, h2, h3, h4]
  grind
theorem acc_bd (a b : Nat → Int) (ha : ∀ j, j < 5 → 0 ≤ a j ∧ a j ≤ 134217728) (hb : ∀ j, j < 5 → 0 ≤ b j ∧ b j ≤ 134217728) : ∀ n, n ≤ 25 → ∀ j, 0 ≤ accT a b n j ∧ accT a b n j ≤ (n : Int) * 90071992547409920
  | 0, _, j => by simp [accT]
  | n + 1, hn, j => by
    have ih := acc_bd a b ha hb n (by omega)
    have x := ha (n / 5) (by omega); have y := hb (n % 5) (by omega)
    have p0 := Int.mul_nonneg x.1 y.1
    have p1 : a (n / 5) * b (n % 5) ≤ 134217728 * 134217728 := Int.mul_le_mul x.2 y.2 y.1 (by decide)
    have q : 0 ≤ pT a b n ∧ pT a b n ≤ 90071992547409920 := by
      unfold pT
      split <;> omega
    rw [accT]
    unfold at1
    have i1 := ih ((n / 5 + n % 5) % 5); have i2 := ih j
    split <;> omega
end Go.Proofs.Ytbofihejegbfhaa
