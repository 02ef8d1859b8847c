/- The document's answers for package fix (umbraref02): what each call gives: floors, sums, products, quotients. -/
import Derived.Test.YtgggngcgcpmkbaaFR
namespace Go.Proofs.Ytgggngcgcpmkbaa
set_option linter.unusedVariables false
set_option maxRecDepth 2000
open Go.RowKit
attribute [local go_sem] setCell_twice setCell_pair

theorem Two_same (a b x y S r : Int) (t big : Bool) (w : World) (ht : decide (a < 0) = t) (hu : decide (b < 0) = t) (hS : IntKind.u64.wrap (x + y) = S) (hb : decide (S < x) = big)
    (sa : Hid (∀ w, Calls Try.prog 74 #[.int .i64 a] w fun e w' => e = .returned (.int .u64 x) ∧ w = w'))
    (sb : Hid (∀ w, Calls Try.prog 74 #[.int .i64 b] w fun e w' => e = .returned (.int .u64 y) ∧ w = w'))
    (ne : Hid (∀ w, Calls Try.prog 125 #[.int .u64 S, .bool t, .bool big] w fun e w' => e = .returned (.int .i64 r) ∧ w = w')) :
    Calls Try.prog 118 #[.int .i64 a, .int .i64 b] w fun e w' => e = .returned (.int .i64 r) ∧ w = w' := by
  go_enter Try.func118, Try.ntmps118
  go_wp2_with (fail); go_at_call 74; refine (sa.out _).mono ?_; rintro e w1 ⟨rfl, rfl⟩
  go_wp2_with (fail); go_at_call 74; refine (sb.out _).mono ?_; rintro e w1 ⟨rfl, rfl⟩
  go_wp2_with (fail); go_at_call 125; refine (ne.out _).mono ?_; rintro e w1 ⟨rfl, rfl⟩
  go_wp2
  go_ret
  exact ⟨rfl, rfl⟩

theorem Two_unlike (a b x y : Int) (t : Bool) (w : World) (ht : decide (a < 0) = t) (hu : decide (b < 0) = !t) (s0 : -9223372036854775808 ≤ a + b) (s1 : a + b ≤ 9223372036854775807)
    (sa : Hid (∀ w, Calls Try.prog 74 #[.int .i64 a] w fun e w' => e = .returned (.int .u64 x) ∧ w = w'))
    (sb : Hid (∀ w, Calls Try.prog 74 #[.int .i64 b] w fun e w' => e = .returned (.int .u64 y) ∧ w = w')) :
    Calls Try.prog 118 #[.int .i64 a, .int .i64 b] w fun e w' => e = .returned (.int .i64 (a + b)) ∧ w = w' := by
  cases t
  all_goals
    simp only [Bool.not_true, Bool.not_false] at hu
    go_enter Try.func118, Try.ntmps118
    go_wp2_with (fail); go_at_call 74; refine (sa.out _).mono ?_; rintro e w1 ⟨rfl, rfl⟩
    go_wp2_with (fail); go_at_call 74; refine (sb.out _).mono ?_; rintro e w1 ⟨rfl, rfl⟩
    go_wp2
    go_ret
    exact ⟨rfl, rfl⟩

theorem Two_any (a b : Int) (a0 : -9223372036854775808 ≤ a) (a1 : a ≤ 9223372036854775807) (b0 : -9223372036854775808 ≤ b) (b1 : b ≤ 9223372036854775807) (w : World) :
    Calls Try.prog 118 #[.int .i64 a, .int .i64 b] w fun e w' => e = .returned (.int .i64 (sat (a + b))) ∧ w = w' := by
  by_cases hs : a < 0 ↔ b < 0
  · have ht : decide (b < 0) = decide (a < 0) := by rw [decide_eq_decide]; exact hs.symm
    have wb : 0 ≤ IntKind.u64.wrap ((a.natAbs : Int) + b.natAbs) ∧ IntKind.u64.wrap ((a.natAbs : Int) + b.natAbs) ≤ 18446744073709551615 := by rw [IntKind.wrap_u64]; omega
    have ne := fun w => near_any ((a.natAbs : Int) + b.natAbs) (IntKind.u64.wrap ((a.natAbs : Int) + b.natAbs)) (decide (a < 0)) (decide (IntKind.u64.wrap ((a.natAbs : Int) + b.natAbs) < (a.natAbs : Int))) wb.1 wb.2
      (by rw [decide_eq_decide, IntKind.wrap_u64]; omega) (fun h => by rw [IntKind.wrap_u64]; omega) w
    rw [show (if decide (a < 0) = true then -((a.natAbs : Int) + b.natAbs) else (a.natAbs : Int) + b.natAbs) = a + b by simp only [decide_eq_true_eq]; split <;> omega] at ne
    exact Two_same a b _ _ _ _ _ _ w rfl ht rfl rfl (fun w => size_any a a0 a1 w) (fun w => size_any b b0 b1 w) ne
  · have hu : decide (b < 0) = !decide (a < 0) := by
      by_cases ha : a < 0 <;> by_cases hb : b < 0 <;> simp [ha, hb] <;> omega
    rw [sat_in (a + b) (by omega) (by omega)]
    exact Two_unlike a b _ _ _ w rfl hu (by omega) (by omega) (fun w => size_any a a0 a1 w) (fun w => size_any b b0 b1 w)

theorem RSub_unlike (a b x y S r : Int) (t big : Bool) (w : World) (ht : decide (a < 0) = t) (hu : decide (b < 0) = !t) (hS : IntKind.u64.wrap (x + y) = S) (hb : decide (S < x) = big)
    (sa : Hid (∀ w, Calls Try.prog 74 #[.int .i64 a] w fun e w' => e = .returned (.int .u64 x) ∧ w = w'))
    (sb : Hid (∀ w, Calls Try.prog 74 #[.int .i64 b] w fun e w' => e = .returned (.int .u64 y) ∧ w = w'))
    (ne : Hid (∀ w, Calls Try.prog 125 #[.int .u64 S, .bool t, .bool big] w fun e w' => e = .returned (.int .i64 r) ∧ w = w')) :
    Calls Try.prog 115 #[.int .i64 a, .int .i64 b] w fun e w' => e = .returned (.int .i64 r) ∧ w = w' := by
  cases t
  all_goals
    simp only [Bool.not_true, Bool.not_false] at hu
    go_enter Try.func115, Try.ntmps115
    go_wp2_with (fail); go_at_call 74; refine (sa.out _).mono ?_; rintro e w1 ⟨rfl, rfl⟩
    go_wp2_with (fail); go_at_call 74; refine (sb.out _).mono ?_; rintro e w1 ⟨rfl, rfl⟩
    go_wp2_with (fail); go_at_call 125; refine (ne.out _).mono ?_; rintro e w1 ⟨rfl, rfl⟩
    go_wp2
    go_ret
    exact ⟨rfl, rfl⟩

theorem RSub_same (a b x y : Int) (t : Bool) (w : World) (ht : decide (a < 0) = t) (hu : decide (b < 0) = t) (s0 : -9223372036854775808 ≤ a - b) (s1 : a - b ≤ 9223372036854775807)
    (sa : Hid (∀ w, Calls Try.prog 74 #[.int .i64 a] w fun e w' => e = .returned (.int .u64 x) ∧ w = w'))
    (sb : Hid (∀ w, Calls Try.prog 74 #[.int .i64 b] w fun e w' => e = .returned (.int .u64 y) ∧ w = w')) :
    Calls Try.prog 115 #[.int .i64 a, .int .i64 b] w fun e w' => e = .returned (.int .i64 (a - b)) ∧ w = w' := by
  go_enter Try.func115, Try.ntmps115
  go_wp2_with (fail); go_at_call 74; refine (sa.out _).mono ?_; rintro e w1 ⟨rfl, rfl⟩
  go_wp2_with (fail); go_at_call 74; refine (sb.out _).mono ?_; rintro e w1 ⟨rfl, rfl⟩
  go_wp2
  go_ret
  exact ⟨rfl, rfl⟩

theorem RSub_any (a b : Int) (a0 : -9223372036854775808 ≤ a) (a1 : a ≤ 9223372036854775807) (b0 : -9223372036854775808 ≤ b) (b1 : b ≤ 9223372036854775807) (w : World) :
    Calls Try.prog 115 #[.int .i64 a, .int .i64 b] w fun e w' => e = .returned (.int .i64 (sat (a - b))) ∧ w = w' := by
  by_cases hs : a < 0 ↔ b < 0
  · have ht : decide (b < 0) = decide (a < 0) := by rw [decide_eq_decide]; exact hs.symm
    rw [sat_in (a - b) (by omega) (by omega)]
    exact RSub_same a b _ _ _ w rfl ht (by omega) (by omega) (fun w => size_any a a0 a1 w) (fun w => size_any b b0 b1 w)
  · have hu : decide (b < 0) = !decide (a < 0) := by
      by_cases ha : a < 0 <;> by_cases hb : b < 0 <;> simp [ha, hb] <;> omega
    have wb : 0 ≤ IntKind.u64.wrap ((a.natAbs : Int) + b.natAbs) ∧ IntKind.u64.wrap ((a.natAbs : Int) + b.natAbs) ≤ 18446744073709551615 := by rw [IntKind.wrap_u64]; omega
    have ne := fun w => near_any ((a.natAbs : Int) + b.natAbs) (IntKind.u64.wrap ((a.natAbs : Int) + b.natAbs)) (decide (a < 0)) (decide (IntKind.u64.wrap ((a.natAbs : Int) + b.natAbs) < (a.natAbs : Int))) wb.1 wb.2
      (by rw [decide_eq_decide, IntKind.wrap_u64]; omega) (fun h => by rw [IntKind.wrap_u64]; omega) w
    rw [show (if decide (a < 0) = true then -((a.natAbs : Int) + b.natAbs) else (a.natAbs : Int) + b.natAbs) = a - b by simp only [decide_eq_true_eq]; split <;> omega] at ne
    exact RSub_unlike a b _ _ _ _ _ _ w rfl hu rfl rfl (fun w => size_any a a0 a1 w) (fun w => size_any b b0 b1 w) ne

end Go.Proofs.Ytgggngcgcpmkbaa
