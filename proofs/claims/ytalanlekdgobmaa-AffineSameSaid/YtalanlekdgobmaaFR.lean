/- The document's answers for package fix (umbraref02): what each call gives: sizes, wholes, sums. -/
import Derived.Test.YtalanlekdgobmaaFC
namespace Go.Proofs.Ytalanlekdgobmaa
set_option linter.unusedVariables false
set_option maxRecDepth 2000
open Go.RowKit
attribute [local go_sem] setCell_twice setCell_pair

theorem and_low32 (z : Int) (z0 : 0 ≤ z) (z1 : z ≤ 18446744073709551615) : bits .and .u64 z 4294967295 = z % 4294967296 := by
  obtain ⟨n, rfl⟩ := Int.eq_ofNat_of_zero_le z0
  rw [show (4294967295 : Int) = ((4294967295 : Nat) : Int) by rfl, bits_and_u64_nat n 4294967295 (by omega) (by omega), show (4294967295 : Nat) = 2 ^ 32 - 1 by rfl, Nat.and_two_pow_sub_one_eq_mod]
  omega

theorem size_any (x : Int) (x0 : -9223372036854775808 ≤ x) (x1 : x ≤ 9223372036854775807) (w : World) :
    Calls Try.prog 109 #[.int .i64 x] w fun e w' => e = .returned (.int .u64 (x.natAbs : Int)) ∧ w = w' := by
  by_cases hx : x < 0
  all_goals
    go_enter Try.func109, Try.ntmps109
    go_wp2
    go_ret
    exact ⟨ret_int (by (try rw [IntKind.wrap_u64]); omega), rfl⟩

theorem near_core (s r : Int) (t b : Bool) (w : World) (s0 : 0 ≤ s) (s1 : s ≤ 18446744073709551615) (hr : Hid ((if t then (if b ∨ 9223372036854775808 ≤ s then -9223372036854775808 else -s) else (if b ∨ 9223372036854775808 ≤ s then 9223372036854775807 else s)) = r)) :
    Calls Try.prog 110 #[.int .u64 s, .bool t, .bool b] w fun e w' => e = .returned (.int .i64 r) ∧ w = w' := by
  have nb : s < 9223372036854775808 → -9223372036854775808 ≤ -s := by omega
  cases t <;> cases b <;> by_cases hs : 9223372036854775808 ≤ s
  all_goals
    have hr' := hr.out
    simp [hs] at hr'
    have HR := Lib.hid hr'
    clear hr hr'
    go_enter Try.func110, Try.ntmps110
    go_wp2
    go_ret
    exact ⟨ret_int (by have := HR.out; (try unfold wrap64); (try rw [IntKind.wrap_i64]); omega), rfl⟩

/-- Near: of a size m, which may be 2^64 or more, with a sign -/
theorem near_any (m s : Int) (t b : Bool) (s0 : 0 ≤ s) (s1 : s ≤ 18446744073709551615) (hb : b = decide (18446744073709551616 ≤ m)) (hm : m < 18446744073709551616 → s = m) (w : World) :
    Calls Try.prog 110 #[.int .u64 s, .bool t, .bool b] w fun e w' => e = .returned (.int .i64 (sat (if t then -m else m))) ∧ w = w' := by
  refine near_core s _ t b w s0 s1 ?_
  show (_ : Int) = _
  subst hb
  unfold sat
  by_cases h : 18446744073709551616 ≤ m
  · rw [decide_eq_true h]
    cases t
    · simp; omega
    · simp; omega
  · rw [decide_eq_false h]
    have := hm (by omega)
    subst this
    cases t
    · simp; split <;> omega
    · simp; split <;> omega

theorem ROf_core (n z s r : Int) (t b : Bool) (w : World) (ht : decide (n < 0) = t) (hb : decide (4294967296 ≤ z) = b) (hs : Hid (IntKind.u64.wrap (z * 4294967296) = s)) (z0 : 0 ≤ z) (z1 : z ≤ 18446744073709551615)
    (sz : Hid (∀ w, Calls Try.prog 109 #[.int .i64 n] w fun e w' => e = .returned (.int .u64 z) ∧ w = w'))
    (ne : Hid (∀ w, Calls Try.prog 110 #[.int .u64 (IntKind.u64.wrap (z * 4294967296)), .bool t, .bool b] w fun e w' => e = .returned (.int .i64 r) ∧ w = w')) :
    Calls Try.prog 99 #[.int .i64 n] w fun e w' => e = .returned (.int .i64 r) ∧ w = w' := by
  go_enter Try.func99, Try.ntmps99
  go_wp2_with (fail); go_at_call 109; refine (sz.out _).mono ?_; rintro e w1 ⟨rfl, rfl⟩
  go_wp2_with (fail); go_at_call 110; refine (ne.out _).mono ?_; rintro e w1 ⟨rfl, rfl⟩
  go_wp2
  go_ret
  exact ⟨rfl, rfl⟩

theorem ROf_any (n : Int) (n0 : -9223372036854775808 ≤ n) (n1 : n ≤ 9223372036854775807) (w : World) :
    Calls Try.prog 99 #[.int .i64 n] w fun e w' => e = .returned (.int .i64 (sat (n * 4294967296))) ∧ w = w' := by
  have wb : 0 ≤ IntKind.u64.wrap ((n.natAbs : Int) * 4294967296) ∧ IntKind.u64.wrap ((n.natAbs : Int) * 4294967296) ≤ 18446744073709551615 := by rw [IntKind.wrap_u64]; omega
  have ne := fun w => near_any ((n.natAbs : Int) * 4294967296) (IntKind.u64.wrap ((n.natAbs : Int) * 4294967296)) (decide (n < 0)) (decide (4294967296 ≤ (n.natAbs : Int))) wb.1 wb.2
    (by rw [decide_eq_decide]; omega) (fun h => by rw [IntKind.wrap_u64]; omega) w
  rw [show (if decide (n < 0) = true then -((n.natAbs : Int) * 4294967296) else (n.natAbs : Int) * 4294967296) = n * 4294967296 by simp only [decide_eq_true_eq]; split <;> omega] at ne
  exact ROf_core n _ _ _ _ _ w rfl rfl rfl (by omega) (by omega) (fun w => size_any n n0 n1 w) ne

theorem RFloor_core (x z r : Int) (w : World) (z0 : 0 ≤ z) (z1 : z ≤ 9223372036854775808) (hr : Hid ((if 0 ≤ x then z / 4294967296 else if z % 4294967296 = 0 then -(z / 4294967296) else -(z / 4294967296) - 1) = r))
    (sz : Hid (∀ w, Calls Try.prog 109 #[.int .i64 x] w fun e w' => e = .returned (.int .u64 z) ∧ w = w')) :
    Calls Try.prog 100 #[.int .i64 x] w fun e w' => e = .returned (.int .i64 r) ∧ w = w' := by
  have q0 : 0 ≤ z / 4294967296 := by omega
  have q1 : z / 4294967296 ≤ 2147483648 := by omega
  have ha : bits .and .u64 z 4294967295 = z % 4294967296 := and_low32 z z0 (by omega)
  by_cases hx : 0 ≤ x
  · have hr' := hr.out
    rw [if_pos hx] at hr'
    have HR := Lib.hid hr'
    clear hr hr' ha
    go_enter Try.func100, Try.ntmps100
    go_wp2_with (fail); go_at_call 109; refine (sz.out _).mono ?_; rintro e w1 ⟨rfl, rfl⟩
    go_wp2
    go_ret
    exact ⟨ret_int HR.out, rfl⟩
  · by_cases hm : z % 4294967296 = 0
    all_goals
      have hr' := hr.out
      rw [if_neg hx] at hr'
      first | rw [if_pos hm] at hr' | rw [if_neg hm] at hr'
      have HR := Lib.hid hr'
      clear hr hr'
      go_enter Try.func100, Try.ntmps100
      go_wp2_with (fail); go_at_call 109; refine (sz.out _).mono ?_; rintro e w1 ⟨rfl, rfl⟩
      go_wp2
      go_ret
      exact ⟨ret_int HR.out, rfl⟩
end Go.Proofs.Ytalanlekdgobmaa
