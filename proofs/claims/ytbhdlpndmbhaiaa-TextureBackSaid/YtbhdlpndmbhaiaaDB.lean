/- codec: what fits (the two function values); the document's greatest number of a width. -/
import Derived.Test.YtbhdlpndmbhaiaaDA
import Derived.Lib.Hide
import Derived.LoopN
import Derived.LoopTactic
import Derived.Deep.Onto
namespace Go.Proofs.Ytbhdlpndmbhaiaa
set_option linter.unusedVariables false
set_option maxRecDepth 2000
set_option linter.unusedSimpArgs false
open Go.RowKit
theorem fitU_shift (W : Nat) (x : Int) (hx : 0 ≤ x) : (x / 2 ^ (8 * W) == 0) = fitU W x := by
  have hp := pw_pos W
  rw [← pw_two]
  unfold fitU
  by_cases h : x < pw W
  · rw [Int.ediv_eq_zero_of_lt hx h]; simp [h]
  · have : 1 ≤ x / pw W := (Int.le_ediv_iff_mul_le hp).2 (by omega)
    have e : ¬x / pw W = 0 := by omega
    simp [h, e]
theorem pw_half (W k : Nat) (h1 : 1 ≤ W) (ek : 8 * W - 1 = k) : pw W = 2 * 2 ^ k := by
  rw [pw_two, show 8 * W = k + 1 by omega, Int.pow_succ, Int.mul_comm]
theorem fitS_shift (W k : Nat) (x : Int) (h1 : 1 ≤ W) (ek : 8 * W - 1 = k) : fitS W x = decide (x / 2 ^ k = 0 ∨ x / 2 ^ k = -1) := by
  have hp : (0 : Int) < 2 ^ k := Int.pow_pos (by decide)
  have e := pw_half W k h1 ek
  unfold fitS
  rw [e]
  generalize (2 : Int) ^ k = p at *
  have a := Int.emod_add_mul_ediv x p
  have b := Int.emod_nonneg x (Int.ne_of_gt hp)
  have c := Int.emod_lt_of_pos x hp
  by_cases h0 : x / p = 0
  · rw [h0] at a ⊢
    simp only [Int.mul_zero] at a
    simp
    omega
  · by_cases h2 : x / p = -1
    · rw [h2] at a ⊢
      simp
      omega
    · simp only [h0, h2, or_self, decide_false, decide_eq_false_iff_not]
      intro ⟨l, r⟩
      rcases Int.lt_or_lt_of_ne h0 with h3 | h3
      · have : p * (x / p) ≤ p * -2 := Int.mul_le_mul_of_nonneg_left (by omega) (Int.le_of_lt hp)
        omega
      · have : p * 1 ≤ p * (x / p) := Int.mul_le_mul_of_nonneg_left (by omega) (Int.le_of_lt hp)
        omega
theorem FitU_any (W : Nat) (x : Int) (B : Nat) (h1 : 1 ≤ W) (h8 : W ≤ 8) (hx : 0 ≤ x) (hx2 : x < 18446744073709551616) (w : World) (hB : w.cell? ⟨B, 0, none⟩ = some (.int .i64 W)) :
    Calls Try.prog 42 #[.int .u64 x, .pointer (some ⟨B, 0, none⟩)] w fun e w' => e = .returned (.bool (fitU W x)) ∧ w' = w := by
  have w8 : IntKind.i64.wrap (8 * (W : Int)) = ((8 * W : Nat) : Int) := by rw [IntWalk.i64_in _ (by omega)]; omega
  have R := fitU_shift W x hx
  go_enter Try.func42, Try.ntmps42
  go_wp2_with (fail)
  go_ret
  exact ⟨by rw [← R]; rfl, rfl⟩
end Go.Proofs.Ytbhdlpndmbhaiaa
