/- StreamBelow: its walk. -/
import Derived.Test.YtbepgbpmgiihbaaJA
namespace Go.Proofs.Ytbepgbpmgiihbaa
set_option linter.unusedVariables false
set_option maxRecDepth 2000
set_option linter.unusedSimpArgs false
open Go.RowKit
theorem belowF_lt {x n : Int} (hx : in32 x) (hn : 1 ≤ n) : belowF x n < n := by
  unfold belowF in32 at *
  have hc : 1 ≤ capN n ∧ capN n ≤ n := by unfold capN; split <;> (try split) <;> omega
  have h : x * capN n < 4294967296 * capN n := Int.mul_lt_mul_of_pos_right hx.2 (by omega)
  have : x * capN n / 4294967296 < capN n := Int.ediv_lt_of_lt_mul (by decide) (by rw [Int.mul_comm (capN n)]; exact h)
  omega
theorem belowF_up {x y n : Int} (hx : in32 x) (h : x ≤ y) : belowF x n ≤ belowF y n := by
  unfold belowF
  exact Int.ediv_le_ediv (by decide) (Int.mul_le_mul_of_nonneg_right h (in_capN n).1)
theorem belowF_0 {x n : Int} (hn : n < 1) : belowF x n = 0 := by
  unfold belowF capN
  rw [if_pos hn]
  simp
theorem Below_law (x y n : Int) (hx : in32 x) (hy : in32 y) (hn : inI n) (w : World) :
    Calls Try.prog 4 #[.int .u32 x, .int .u32 y, .int .i64 n] w fun e w' => e = .returned (.bool true) ∧ Below w.heap.size w w' := by
  have FA := Lib.hid (Below_any x n hx hn)
  have FB := Lib.hid (Below_any y n hy hn)
  have FU := Lib.hid (Unit_any x hx)
  have Fa := in_belowF hx n
  have Fb := in_belowF hy n
  have z1 : n < 1 → belowF x n = 0 := belowF_0
  have z2 : n < 1 → belowF y n = 0 := belowF_0
  have l1 : 1 ≤ n → belowF x n < n := belowF_lt hx
  have u1 : x ≤ y → belowF x n ≤ belowF y n := belowF_up hx
  generalize belowF x n = a at *
  generalize belowF y n = b at *
  unfold in32 inI at *
  by_cases h1 : n < 1
  · have e1 := z1 h1
    have e2 := z2 h1
    subst e1
    subst e2
    have h2 : decide (n < 1) = true := decide_eq_true h1
    clear z1 z2 l1 u1 Fa Fb h1
    go_enter Try.func4, Try.ntmps4
    go_wp2_with (fail)
    go_at_call 7
    refine (FA.out _).mono ?_
    rintro e w1 ⟨rfl, hb⟩
    go_wp2_with (fail)
    go_at_call 7
    refine (FB.out _).mono ?_
    rintro e w2 ⟨rfl, hb2⟩
    have hB := Below.go hb hb2
    clear hb hb2
    go_wp2_with (fail)
    go_at_call 11
    refine (works10_any _).mono ?_
    rintro e w3 ⟨rfl, hb3⟩
    have hB2 := Below.go hB hb3
    go_wp2_with (fail)
    go_ret
    exact ⟨rfl, hB2⟩
  · have h2 : decide (n < 1) = false := decide_eq_false h1
    have h3 : decide (0 ≤ a) = true := decide_eq_true Fa.1
    have h4 : decide (a < n) = true := decide_eq_true (l1 (by omega))
    have h5 : decide (0 ≤ x) = true := decide_eq_true hx.1
    have h6 : decide (x < 4294967296) = true := decide_eq_true hx.2
    have hlt : a < n := l1 (by omega)
    by_cases h7 : y < x
    · have h8 : decide (y < x) = true := decide_eq_true h7
      clear z1 z2 l1 u1 h1
      go_enter Try.func4, Try.ntmps4
      go_wp2_with (fail)
      go_at_call 7
      refine (FA.out _).mono ?_
      rintro e w1 ⟨rfl, hb⟩
      go_wp2_with (fail)
      go_at_call 7
      refine (FB.out _).mono ?_
      rintro e w2 ⟨rfl, hb2⟩
      have hB := Below.go hb hb2
      clear hb hb2
      go_wp2_with (fail)
      go_at_call 9
      refine (FU.out _).mono ?_
      rintro e w3 ⟨rfl, hb3⟩
      have hB2 := Below.go hB hb3
      clear hB hb3
      go_wp2_with (fail)
      go_at_call 9
      refine (FU.out _).mono ?_
      rintro e w4 ⟨rfl, hb4⟩
      have hB3 := Below.go hB2 hb4
      clear hB2 hb4
      go_wp2_with (fail)
      go_at_call 11
      refine (works10_any _).mono ?_
      rintro e w5 ⟨rfl, hb5⟩
      have hB4 := Below.go hB3 hb5
      go_wp2_with (fail)
      go_ret
      exact ⟨rfl, hB4⟩
    · have h8 : decide (y < x) = false := decide_eq_false h7
      have h9 : decide (a ≤ b) = true := decide_eq_true (u1 (by omega))
      have h10 := u1 (by omega)
      clear z1 z2 l1 u1 h1
      go_enter Try.func4, Try.ntmps4
      go_wp2_with (fail)
      go_at_call 7
      refine (FA.out _).mono ?_
      rintro e w1 ⟨rfl, hb⟩
      go_wp2_with (fail)
      go_at_call 7
      refine (FB.out _).mono ?_
      rintro e w2 ⟨rfl, hb2⟩
      have hB := Below.go hb hb2
      clear hb hb2
      go_wp2_with (fail)
      go_at_call 9
      refine (FU.out _).mono ?_
      rintro e w3 ⟨rfl, hb3⟩
      have hB2 := Below.go hB hb3
      clear hB hb3
      go_wp2_with (fail)
      go_at_call 9
      refine (FU.out _).mono ?_
      rintro e w4 ⟨rfl, hb4⟩
      have hB3 := Below.go hB2 hb4
      clear hB2 hb4
      go_wp2_with (fail)
      go_at_call 11
      refine (works10_any _).mono ?_
      rintro e w5 ⟨rfl, hb5⟩
      have hB4 := Below.go hB3 hb5
      go_wp2_with (fail)
      go_ret
      exact ⟨rfl, hB4⟩
end Go.Proofs.Ytbepgbpmgiihbaa
