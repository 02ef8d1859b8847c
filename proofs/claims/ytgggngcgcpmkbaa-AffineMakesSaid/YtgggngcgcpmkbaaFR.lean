/- The document's answers for package fix (umbraref02): what each call gives: sizes, wholes, sums. -/
import Derived.Test.YtgggngcgcpmkbaaFC
namespace Go.Proofs.Ytgggngcgcpmkbaa
set_option linter.unusedVariables false
set_option maxRecDepth 2000
open Go.RowKit
attribute [local go_sem] setCell_twice setCell_pair

theorem and_low32 (z : Int) (z0 : 0 ≤ z) (z1 : z ≤ 18446744073709551615) : bits .and .u64 z 4294967295 = z % 4294967296 := by
  obtain ⟨n, rfl⟩ := Int.eq_ofNat_of_zero_le z0
  rw [show (4294967295 : Int) = ((4294967295 : Nat) : Int) by rfl, bits_and_u64_nat n 4294967295 (by omega) (by omega), show (4294967295 : Nat) = 2 ^ 32 - 1 by rfl, Nat.and_two_pow_sub_one_eq_mod]
  omega

theorem size_any (x : Int) (x0 : -9223372036854775808 ≤ x) (x1 : x ≤ 9223372036854775807) (w : World) :
    Calls Try.prog 74 #[.int .i64 x] w fun e w' => e = .returned (.int .u64 (x.natAbs : Int)) ∧ w = w' := by
  by_cases hx : x < 0
  all_goals
    go_enter Try.func74, Try.ntmps74
    go_wp2
    go_ret
    exact ⟨ret_int (by (try rw [IntKind.wrap_u64]); omega), rfl⟩

theorem near_core (s r : Int) (t b : Bool) (w : World) (s0 : 0 ≤ s) (s1 : s ≤ 18446744073709551615) (hr : Hid ((if t then (if b ∨ 9223372036854775808 ≤ s then -9223372036854775808 else -s) else (if b ∨ 9223372036854775808 ≤ s then 9223372036854775807 else s)) = r)) :
    Calls Try.prog 125 #[.int .u64 s, .bool t, .bool b] w fun e w' => e = .returned (.int .i64 r) ∧ w = w' := by
  have nb : s < 9223372036854775808 → -9223372036854775808 ≤ -s := by omega
  cases t <;> cases b <;> by_cases hs : 9223372036854775808 ≤ s
  all_goals
    have hr' := hr.out
    simp [hs] at hr'
    have HR := Lib.hid hr'
    clear hr hr'
    go_enter Try.func125, Try.ntmps125
    go_wp2
    go_ret
    exact ⟨ret_int (by have := HR.out; (try unfold wrap64); (try rw [IntKind.wrap_i64]); omega), rfl⟩

/-- Near: of a size m, which may be 2^64 or more, with a sign -/
theorem near_any (m s : Int) (t b : Bool) (s0 : 0 ≤ s) (s1 : s ≤ 18446744073709551615) (hb : b = decide (18446744073709551616 ≤ m)) (hm : m < 18446744073709551616 → s = m) (w : World) :
    Calls Try.prog 125 #[.int .u64 s, .bool t, .bool b] w fun e w' => e = .returned (.int .i64 (sat (if t then -m else m))) ∧ w = w' := by
  refine near_core s _ t b w s0 s1 ?_
  show (_ : Int) = _
  subst hb
  unfold sat
  by_cases h : 18446744073709551616 ≤ m
  · rw [decide_eq_true h]
    cases t
    · simp; omega
    · simp; omega
  · rw [decide_eq_false h]
    have := hm (by omega)
    subst this
    cases t
    · simp; split <;> omega
    · simp; split <;> omega

end Go.Proofs.Ytgggngcgcpmkbaa
