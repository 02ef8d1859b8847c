/- The document's answers for package fix (umbraref02): quotients. -/
import Derived.Test.YtalclbngpimajaaFU
namespace Go.Proofs.Ytalclbngpimajaa
set_option linter.unusedVariables false
set_option maxRecDepth 2000
open Go.RowKit
attribute [local go_sem] setCell_twice setCell_pair

theorem RDiv_zero (a x r : Int) (t : Bool) (w : World) (ht : decide (a < 0) = t) (ha : (a == 0) = false)
    (sa : Hid (∀ w, Calls Try.prog 87 #[.int .i64 a] w fun e w' => e = .returned (.int .u64 x) ∧ w = w'))
    (sb : Hid (∀ w, Calls Try.prog 87 #[.int .i64 0] w fun e w' => e = .returned (.int .u64 0) ∧ w = w'))
    (ne : Hid (∀ w, Calls Try.prog 95 #[.int .u64 0, .bool t, .bool true] w fun e w' => e = .returned (.int .i64 r) ∧ w = w')) :
    Calls Try.prog 91 #[.int .i64 a, .int .i64 0] w fun e w' => e = .returned (.int .i64 r) ∧ w = w' := by
  cases t
  all_goals
    go_enter Try.func91, Try.ntmps91
    go_wp2_with (fail); go_at_call 87; refine (sa.out _).mono ?_; rintro e w1 ⟨rfl, rfl⟩
    go_wp2_with (fail); go_at_call 87; refine (sb.out _).mono ?_; rintro e w1 ⟨rfl, rfl⟩
    go_wp2_with (fail); go_at_call 95; refine (ne.out _).mono ?_; rintro e w1 ⟨rfl, rfl⟩
    go_wp2
    go_ret
    exact ⟨rfl, rfl⟩

theorem RDiv_none (w : World) :
    Calls Try.prog 91 #[.int .i64 0, .int .i64 0] w fun e w' => e = .returned (.int .i64 0) ∧ w = w' := by
  go_enter Try.func91, Try.ntmps91
  go_wp2
  go_ret
  exact ⟨rfl, rfl⟩

theorem RDiv_big (a b x y r : Int) (ta tb : Bool) (w : World) (ht : decide (a < 0) = ta) (hu : decide (b < 0) = tb) (hb : (b == 0) = false) (x0 : 0 ≤ x) (x1 : x ≤ 9223372036854775808) (hx : y ≤ x / 4294967296)
    (sa : Hid (∀ w, Calls Try.prog 87 #[.int .i64 a] w fun e w' => e = .returned (.int .u64 x) ∧ w = w'))
    (sb : Hid (∀ w, Calls Try.prog 87 #[.int .i64 b] w fun e w' => e = .returned (.int .u64 y) ∧ w = w'))
    (ne : Hid (∀ w, Calls Try.prog 95 #[.int .u64 0, .bool (ta != tb), .bool true] w fun e w' => e = .returned (.int .i64 r) ∧ w = w')) :
    Calls Try.prog 91 #[.int .i64 a, .int .i64 b] w fun e w' => e = .returned (.int .i64 r) ∧ w = w' := by
  have ne' := ne.out
  cases ta <;> cases tb
  all_goals
    simp at ne'
    have NE := Lib.hid ne'
    clear ne ne'
    go_enter Try.func91, Try.ntmps91
    go_wp2_with (fail); go_at_call 87; refine (sa.out _).mono ?_; rintro e w1 ⟨rfl, rfl⟩
    go_wp2_with (fail); go_at_call 87; refine (sb.out _).mono ?_; rintro e w1 ⟨rfl, rfl⟩
    go_wp2_with (fail); go_at_call 95; refine (NE.out _).mono ?_; rintro e w1 ⟨rfl, rfl⟩
    go_wp2
    go_ret
    exact ⟨rfl, rfl⟩

/-- like signs, or nothing is left -/
theorem RDiv_plain (a b x y u q l r : Int) (ta tb : Bool) (w : World) (ht : decide (a < 0) = ta) (hu : decide (b < 0) = tb) (hb : (b == 0) = false) (x0 : 0 ≤ x) (x1 : x ≤ 9223372036854775808) (hx : ¬ y ≤ x / 4294967296)
    (hw : IntKind.u64.wrap (x * 4294967296) = u) (hl : ta = tb ∨ l = 0)
    (sa : Hid (∀ w, Calls Try.prog 87 #[.int .i64 a] w fun e w' => e = .returned (.int .u64 x) ∧ w = w'))
    (sb : Hid (∀ w, Calls Try.prog 87 #[.int .i64 b] w fun e w' => e = .returned (.int .u64 y) ∧ w = w'))
    (dv : Hid (∀ w, Calls Try.prog 94 #[.int .u64 (x / 4294967296), .int .u64 u, .int .u64 y] w fun e w' => e = .returned (.tuple #[.int .u64 q, .int .u64 l]) ∧ ∃ n, w' = w.drewN n))
    (ne : Hid (∀ w, Calls Try.prog 95 #[.int .u64 q, .bool (ta != tb), .bool false] w fun e w' => e = .returned (.int .i64 r) ∧ w = w')) :
    Calls Try.prog 91 #[.int .i64 a, .int .i64 b] w fun e w' => e = .returned (.int .i64 r) ∧ Below w.heap.size w w' := by
  have ne' := ne.out
  have hl' : (ta != tb) = true → l = 0 := by rcases hl with rfl | h <;> simp_all
  clear hl
  cases ta <;> cases tb
  all_goals
    simp at ne'
    first | (have l0 := hl' rfl; subst l0; clear hl') | clear hl'
    have NE := Lib.hid ne'
    clear ne ne'
    go_enter Try.func91, Try.ntmps91
    go_wp2_with (fail); go_at_call 87; refine (sa.out _).mono ?_; rintro e w1 ⟨rfl, rfl⟩
    go_wp2_with (fail); go_at_call 87; refine (sb.out _).mono ?_; rintro e w1 ⟨rfl, rfl⟩
    go_wp2_with (fail); go_at_call 94; refine (dv.out _).mono ?_; rintro e w1 ⟨rfl, n, rfl⟩
    go_wp2_with (fail); go_at_call 95; refine (NE.out _).mono ?_; rintro e w1 ⟨rfl, rfl⟩
    go_wp2
    go_ret
    exact ⟨rfl, (by repeat (first | exact Below.refl _ _ | assumption | refine below_drewN ?_ _ | refine Below.drew ?_ | refine Below.alloc ?_ (by first | omega | (simp; done) | (simp; omega)) _ | refine Below.setCell ?_ (by first | (simp; done) | (simp; omega)) _))⟩

/-- unlike signs, and something is left -/
theorem RDiv_left (a b x y u q q1 l r : Int) (ta tb z : Bool) (w : World) (ht : decide (a < 0) = ta) (hu : decide (b < 0) = tb) (hb : (b == 0) = false) (x0 : 0 ≤ x) (x1 : x ≤ 9223372036854775808) (hx : ¬ y ≤ x / 4294967296)
    (hw : IntKind.u64.wrap (x * 4294967296) = u) (hn : (ta != tb) = true) (hl : 0 < l) (hq : IntKind.u64.wrap (q + 1) = q1) (hz : (q1 == 0) = z)
    (sa : Hid (∀ w, Calls Try.prog 87 #[.int .i64 a] w fun e w' => e = .returned (.int .u64 x) ∧ w = w'))
    (sb : Hid (∀ w, Calls Try.prog 87 #[.int .i64 b] w fun e w' => e = .returned (.int .u64 y) ∧ w = w'))
    (dv : Hid (∀ w, Calls Try.prog 94 #[.int .u64 (x / 4294967296), .int .u64 u, .int .u64 y] w fun e w' => e = .returned (.tuple #[.int .u64 q, .int .u64 l]) ∧ ∃ n, w' = w.drewN n))
    (ne : Hid (∀ w, Calls Try.prog 95 #[.int .u64 q1, .bool true, .bool z] w fun e w' => e = .returned (.int .i64 r) ∧ w = w')) :
    Calls Try.prog 91 #[.int .i64 a, .int .i64 b] w fun e w' => e = .returned (.int .i64 r) ∧ Below w.heap.size w w' := by
  cases ta <;> cases tb
  all_goals first | (simp at hn; done) | skip
  all_goals
    clear hn
    go_enter Try.func91, Try.ntmps91
    go_wp2_with (fail); go_at_call 87; refine (sa.out _).mono ?_; rintro e w1 ⟨rfl, rfl⟩
    go_wp2_with (fail); go_at_call 87; refine (sb.out _).mono ?_; rintro e w1 ⟨rfl, rfl⟩
    go_wp2_with (fail); go_at_call 94; refine (dv.out _).mono ?_; rintro e w1 ⟨rfl, n, rfl⟩
    go_wp2_with (fail); go_at_call 95; refine (ne.out _).mono ?_; rintro e w1 ⟨rfl, rfl⟩
    go_wp2
    go_ret
    exact ⟨rfl, (by repeat (first | exact Below.refl _ _ | assumption | refine below_drewN ?_ _ | refine Below.drew ?_ | refine Below.alloc ?_ (by first | omega | (simp; done) | (simp; omega)) _ | refine Below.setCell ?_ (by first | (simp; done) | (simp; omega)) _))⟩

/-- a by 0: the bound on the side of a -/
theorem RDiv_by0 (a : Int) (a0 : -9223372036854775808 ≤ a) (a1 : a ≤ 9223372036854775807) (w : World) :
    Calls Try.prog 91 #[.int .i64 a, .int .i64 0] w fun e w' => e = .returned (.int .i64 (if a = 0 then 0 else lim (decide (a < 0)))) ∧ Below w.heap.size w w' := by
  by_cases ha : a = 0
  · subst ha
    exact (RDiv_none w).mono fun e w' ⟨he, hw⟩ => ⟨he, hw ▸ Below.refl _ _⟩
  · rw [if_neg ha]
    have ne := fun w => near_any 18446744073709551616 0 (decide (a < 0)) true (by omega) (by omega) (by decide) (by omega) w
    have e : sat (if decide (a < 0) = true then -18446744073709551616 else 18446744073709551616) = lim (decide (a < 0)) := by
      by_cases h : a < 0
      · rw [decide_eq_true h]; decide
      · rw [decide_eq_false h]; decide
    rw [e] at ne
    exact (RDiv_zero a _ _ _ w rfl (by simpa using ha) (fun w => size_any a a0 a1 w) (fun w => size_any 0 (by omega) (by omega) w) ne).mono fun e w' ⟨he, hw⟩ => ⟨he, hw ▸ Below.refl _ _⟩

/-- a number by another one, rounded down -/
theorem exists_quo (n b : Int) (hb : b ≠ 0) : ∃ q r, n = b * q + r ∧ (0 < b → 0 ≤ r ∧ r < b) ∧ (b < 0 → b < r ∧ r ≤ 0) := by
  by_cases h : 0 < b
  · exact ⟨n / b, n % b, (Int.mul_ediv_add_emod n b).symm, fun _ => ⟨Int.emod_nonneg _ hb, Int.emod_lt_of_pos _ h⟩, fun h' => by omega⟩
  · have e := Int.mul_ediv_add_emod (-n) (-b)
    have m0 := Int.emod_nonneg (-n) (show -b ≠ 0 by omega)
    have m1 := Int.emod_lt_of_pos (-n) (show 0 < -b by omega)
    refine ⟨-n / -b, -(-n % -b), ?_, fun h' => by omega, fun _ => by omega⟩
    rw [Int.neg_mul] at e
    omega

theorem RDiv_any (a b q r : Int) (a0 : -9223372036854775808 ≤ a) (a1 : a ≤ 9223372036854775807)
    (b0 : -9223372036854775808 ≤ b) (b1 : b ≤ 9223372036854775807) (hb : b ≠ 0) (e : a * 4294967296 = b * q + r) (hp : 0 < b → 0 ≤ r ∧ r < b) (hm : b < 0 → b < r ∧ r ≤ 0) (w : World) :
    Calls Try.prog 91 #[.int .i64 a, .int .i64 b] w fun e w' => e = .returned (.int .i64 (sat q)) ∧ Below w.heap.size w w' := by
  have hb' : (b == 0) = false := by simpa using hb
  have y0 : 1 ≤ (b.natAbs : Int) := by omega
  have tt : (decide (a < 0) != decide (b < 0)) = !decide (a < 0 ↔ b < 0) := by
    by_cases h1 : a < 0 <;> by_cases h2 : b < 0 <;> simp [h1, h2]
  have sa := fun w => size_any a a0 a1 w
  have sb := fun w => size_any b b0 b1 w
  -- the size of the quotient, and what is left of the sizes
  obtain ⟨Q, l, eQ, l0, l1, hQ⟩ : ∃ Q l : Int, (a.natAbs : Int) * 4294967296 = b.natAbs * Q + l ∧ 0 ≤ l ∧ l < b.natAbs ∧
      ((a < 0 ↔ b < 0) ∧ q = Q ∨ ¬ (a < 0 ↔ b < 0) ∧ (l = 0 ∧ q = -Q ∨ 0 < l ∧ q = -(Q + 1))) := by
    have eb : b * q = b.natAbs * q ∨ b * q = -(b.natAbs * q) := by
      by_cases h : 0 < b
      · left; rw [show (b.natAbs : Int) = b by omega]
      · right; rw [show (b.natAbs : Int) = -b by omega, Int.neg_mul, Int.neg_neg]
    by_cases hs : a < 0 ↔ b < 0
    · refine ⟨q, r.natAbs, ?_, by omega, by omega, .inl ⟨hs, rfl⟩⟩
      by_cases h : 0 < b
      · have eb : b * q = b.natAbs * q := by rw [show (b.natAbs : Int) = b by omega]
        rw [← eb]; omega
      · have eb : b * q = -(b.natAbs * q) := by rw [show (b.natAbs : Int) = -b by omega, Int.neg_mul, Int.neg_neg]
        omega
    · by_cases hr : r = 0
      · refine ⟨-q, 0, ?_, by omega, by omega, .inr ⟨hs, .inl ⟨rfl, by omega⟩⟩⟩
        rw [Int.mul_neg]
        by_cases h : 0 < b
        · have eb : b * q = b.natAbs * q := by rw [show (b.natAbs : Int) = b by omega]
          rw [← eb]; omega
        · have eb : b * q = -(b.natAbs * q) := by rw [show (b.natAbs : Int) = -b by omega, Int.neg_mul, Int.neg_neg]
          omega
      · refine ⟨-q - 1, b.natAbs - r.natAbs, ?_, by omega, by omega, .inr ⟨hs, .inr ⟨by omega, by omega⟩⟩⟩
        rw [Int.mul_sub, Int.mul_neg, Int.mul_one]
        by_cases h : 0 < b
        · have eb : b * q = b.natAbs * q := by rw [show (b.natAbs : Int) = b by omega]
          rw [← eb]; omega
        · have eb : b * q = -(b.natAbs * q) := by rw [show (b.natAbs : Int) = -b by omega, Int.neg_mul, Int.neg_neg]
          omega
  have QR := quo_rem eQ l0 l1
  have Q0 : 0 ≤ Q := by rw [← QR.1]; exact Int.ediv_nonneg (by omega) (by omega)
  by_cases hx : (b.natAbs : Int) ≤ (a.natAbs : Int) / 4294967296
  · -- 2^64 or more
    have QB : 18446744073709551616 ≤ Q := by
      refine Int.not_lt.1 fun h => ?_
      have := Int.mul_le_mul_of_nonneg_left (show Q ≤ 18446744073709551615 by omega) (show 0 ≤ (b.natAbs : Int) by omega)
      omega
    have ne := fun w => near_any 18446744073709551616 0 (decide (a < 0) != decide (b < 0)) true (by omega) (by omega) (by decide) (by omega) w
    have es : sat (if (decide (a < 0) != decide (b < 0)) = true then -18446744073709551616 else 18446744073709551616) = sat q := by
      rw [tt]
      rcases hQ with ⟨hs, rfl⟩ | ⟨hs, hq⟩
      · rw [decide_eq_true hs, sat_hi q (by omega)]; decide
      · rw [decide_eq_false hs, sat_lo q (by omega)]; decide
    rw [es] at ne
    exact (RDiv_big a b _ _ _ _ _ w rfl rfl hb' (by omega) (by omega) hx sa sb ne).mono fun e w' ⟨he, hw⟩ => ⟨he, hw ▸ Below.refl _ _⟩
  · have hu0 : 0 ≤ IntKind.u64.wrap ((a.natAbs : Int) * 4294967296) ∧ IntKind.u64.wrap ((a.natAbs : Int) * 4294967296) ≤ 18446744073709551615 := by rw [IntKind.wrap_u64]; omega
    have eN : (a.natAbs : Int) / 4294967296 * 18446744073709551616 + IntKind.u64.wrap ((a.natAbs : Int) * 4294967296) = (a.natAbs : Int) * 4294967296 := by rw [IntKind.wrap_u64]; omega
    have dv := fun w => Div64_any ((a.natAbs : Int) / 4294967296) (IntKind.u64.wrap ((a.natAbs : Int) * 4294967296)) (b.natAbs : Int) (by omega) (by omega) (by omega) hu0.1 hu0.2 w
    rw [eN, QR.1, QR.2] at dv
    have QB : Q < 18446744073709551616 := by
      refine Int.not_le.1 fun h => ?_
      have := Int.mul_le_mul_of_nonneg_left h (show 0 ≤ (b.natAbs : Int) by omega)
      omega
    have nq := fun w => near_any Q Q (decide (a < 0) != decide (b < 0)) false Q0 (by omega) (by rw [decide_eq_false (by omega)]) (fun _ => rfl) w
    rcases hQ with ⟨hs, rfl⟩ | ⟨hs, ⟨rfl, rfl⟩ | ⟨hl, rfl⟩⟩
    · rw [tt, decide_eq_true hs] at nq
      refine RDiv_plain a b _ _ _ _ _ _ _ _ w rfl rfl hb' (by omega) (by omega) hx rfl (.inl (by rw [decide_eq_decide]; exact hs)) sa sb dv ?_
      rw [tt, decide_eq_true hs]; exact nq
    · rw [tt, decide_eq_false hs] at nq
      refine RDiv_plain a b _ _ _ _ _ _ _ _ w rfl rfl hb' (by omega) (by omega) hx rfl (.inr rfl) sa sb dv ?_
      rw [tt, decide_eq_false hs]; exact nq
    · have wb : 0 ≤ IntKind.u64.wrap (Q + 1) ∧ IntKind.u64.wrap (Q + 1) ≤ 18446744073709551615 := by rw [IntKind.wrap_u64]; omega
      have n1 := fun w => near_any (Q + 1) (IntKind.u64.wrap (Q + 1)) true (IntKind.u64.wrap (Q + 1) == 0) wb.1 wb.2
        (by rw [Bool.eq_iff_iff]; simp only [decide_eq_true_eq, beq_iff_eq]; rw [IntKind.wrap_u64]; omega) (fun h => by rw [IntKind.wrap_u64]; omega) w
      exact RDiv_left a b _ _ _ _ _ _ _ _ _ _ w rfl rfl hb' (by omega) (by omega) hx rfl (by rw [tt, decide_eq_false hs]; rfl) hl rfl rfl sa sb dv n1
end Go.Proofs.Ytalclbngpimajaa
