/- The document's answers for package fix (umbraref02): products and quotients. -/
import Derived.Test.YtgggngcgcpmkbaaFS
namespace Go.Proofs.Ytgggngcgcpmkbaa
set_option linter.unusedVariables false
set_option maxRecDepth 2000
open Go.RowKit
attribute [local go_sem] setCell_twice setCell_pair

theorem or_hi_lo (m : Int) (h0 : 0 ≤ hi m) : bits .or .u64 (IntKind.u64.wrap (hi m * 4294967296)) (lo m / 4294967296) = lo (m / 4294967296) := by
  have e1 : IntKind.u64.wrap (hi m * 4294967296) = hi m % 4294967296 * 4294967296 := by
    rw [IntKind.wrap_u64]; omega
  have e2 : lo (m / 4294967296) = hi m % 4294967296 * 4294967296 + lo m / 4294967296 := by unfold hi lo; omega
  have b1 : 0 ≤ hi m % 4294967296 ∧ hi m % 4294967296 < 4294967296 := by omega
  have b2 : 0 ≤ lo m / 4294967296 ∧ lo m / 4294967296 < 4294967296 := by unfold lo; omega
  rw [e1, e2]
  obtain ⟨p, hm⟩ := Int.eq_ofNat_of_zero_le b1.1
  obtain ⟨a, ha⟩ := Int.eq_ofNat_of_zero_le b2.1
  rw [hm] at b1 ⊢
  rw [ha] at b2 ⊢
  have b2' : a < 2 ^ 32 := by omega
  rw [show (p : Int) * 4294967296 = ((p * 4294967296 : Nat) : Int) by omega, bits_or_u64_nat _ a (by omega) (by omega)]
  have h := Nat.two_pow_add_eq_or_of_lt b2' p
  rw [show p * 4294967296 = 2 ^ 32 * p by omega, ← h]
  omega

/-- like signs, or nothing is left -/
theorem Times_plain (a b x y H L S r : Int) (ta tb big : Bool) (w : World) (ht : decide (a < 0) = ta) (hu : decide (b < 0) = tb) (hl : ta = tb ∨ bits .and .u64 L 4294967295 = 0)
    (hS : bits .or .u64 (IntKind.u64.wrap (H * 4294967296)) (L / 4294967296) = S) (hb : decide (4294967296 ≤ H) = big) (L0 : 0 ≤ L) (L1 : L ≤ 18446744073709551615)
    (sa : Hid (∀ w, Calls Try.prog 74 #[.int .i64 a] w fun e w' => e = .returned (.int .u64 x) ∧ w = w'))
    (sb : Hid (∀ w, Calls Try.prog 74 #[.int .i64 b] w fun e w' => e = .returned (.int .u64 y) ∧ w = w'))
    (ml : Hid (∀ w, Calls Try.prog 73 #[.int .u64 x, .int .u64 y] w fun e w' => e = .returned (.tuple #[.int .u64 H, .int .u64 L]) ∧ w = w'))
    (ne : Hid (∀ w, Calls Try.prog 125 #[.int .u64 S, .bool (ta != tb), .bool big] w fun e w' => e = .returned (.int .i64 r) ∧ w = w')) :
    Calls Try.prog 119 #[.int .i64 a, .int .i64 b] w fun e w' => e = .returned (.int .i64 r) ∧ w = w' := by
  have ne' := ne.out
  cases ta <;> cases tb
  all_goals
    simp at hl ne'
    have NE := Lib.hid ne'
    clear ne ne'
    go_enter Try.func119, Try.ntmps119
    go_wp2_with (fail); go_at_call 74; refine (sa.out _).mono ?_; rintro e w1 ⟨rfl, rfl⟩
    go_wp2_with (fail); go_at_call 74; refine (sb.out _).mono ?_; rintro e w1 ⟨rfl, rfl⟩
    go_wp2_with (fail); go_at_call 73; refine (ml.out _).mono ?_; rintro e w1 ⟨rfl, rfl⟩
    go_wp2_with (fail); go_at_call 125; refine (NE.out _).mono ?_; rintro e w1 ⟨rfl, rfl⟩
    go_wp2
    go_ret
    exact ⟨rfl, rfl⟩

/-- unlike signs, and something is left -/
theorem Times_left (a b x y H L S S1 r l : Int) (ta tb big z : Bool) (w : World) (ht : decide (a < 0) = ta) (hu : decide (b < 0) = tb) (hn : (ta != tb) = true) (hl : bits .and .u64 L 4294967295 = l) (l0 : 0 < l)
    (hS : bits .or .u64 (IntKind.u64.wrap (H * 4294967296)) (L / 4294967296) = S) (hb : decide (4294967296 ≤ H) = big) (L0 : 0 ≤ L) (L1 : L ≤ 18446744073709551615)
    (hS1 : IntKind.u64.wrap (S + 1) = S1) (hz : (S1 == 0) = z)
    (sa : Hid (∀ w, Calls Try.prog 74 #[.int .i64 a] w fun e w' => e = .returned (.int .u64 x) ∧ w = w'))
    (sb : Hid (∀ w, Calls Try.prog 74 #[.int .i64 b] w fun e w' => e = .returned (.int .u64 y) ∧ w = w'))
    (ml : Hid (∀ w, Calls Try.prog 73 #[.int .u64 x, .int .u64 y] w fun e w' => e = .returned (.tuple #[.int .u64 H, .int .u64 L]) ∧ w = w'))
    (ne : Hid (∀ w, Calls Try.prog 125 #[.int .u64 S1, .bool true, .bool (big || z)] w fun e w' => e = .returned (.int .i64 r) ∧ w = w')) :
    Calls Try.prog 119 #[.int .i64 a, .int .i64 b] w fun e w' => e = .returned (.int .i64 r) ∧ w = w' := by
  have ne' := ne.out
  cases ta <;> cases tb <;> cases big
  all_goals first | (simp at hn; done) | skip
  all_goals
    simp at ne'
    have NE := Lib.hid ne'
    clear ne ne' hn
    go_enter Try.func119, Try.ntmps119
    go_wp2_with (fail); go_at_call 74; refine (sa.out _).mono ?_; rintro e w1 ⟨rfl, rfl⟩
    go_wp2_with (fail); go_at_call 74; refine (sb.out _).mono ?_; rintro e w1 ⟨rfl, rfl⟩
    go_wp2_with (fail); go_at_call 73; refine (ml.out _).mono ?_; rintro e w1 ⟨rfl, rfl⟩
    go_wp2_with (fail); go_at_call 125; refine (NE.out _).mono ?_; rintro e w1 ⟨rfl, rfl⟩
    go_wp2
    go_ret
    exact ⟨rfl, rfl⟩

theorem sign_prod (a b : Int) : ((a < 0 ↔ b < 0) → 0 ≤ a * b) ∧ (¬ (a < 0 ↔ b < 0) → a * b ≤ 0) := by
  constructor
  · intro h
    by_cases ha : a < 0
    · exact Int.mul_nonneg_of_nonpos_of_nonpos (by omega) (by have := h.1 ha; omega)
    · exact Int.mul_nonneg (by omega) (by omega)
  · intro h
    by_cases ha : a < 0
    · exact Int.mul_nonpos_of_nonpos_of_nonneg (by omega) (by omega)
    · exact Int.mul_nonpos_of_nonneg_of_nonpos (by omega) (by omega)

theorem RTimes_any (a b : Int) (a0 : -9223372036854775808 ≤ a) (a1 : a ≤ 9223372036854775807) (b0 : -9223372036854775808 ≤ b) (b1 : b ≤ 9223372036854775807) (w : World) :
    Calls Try.prog 119 #[.int .i64 a, .int .i64 b] w fun e w' => e = .returned (.int .i64 (mulF a b)) ∧ w = w' := by
  have pb := prod_bd a b a0 a1 b0 b1
  have sg := sign_prod a b
  have em : (a.natAbs : Int) * b.natAbs = ((a * b).natAbs : Int) := by rw [Int.natAbs_mul, Int.natCast_mul]
  have ml := fun w => Mul64_any (a.natAbs : Int) (b.natAbs : Int) (by omega) (by omega) (by omega) (by omega) w
  rw [em] at ml
  unfold mulF
  generalize a * b = p at *
  have hm0 : 0 ≤ hi (p.natAbs : Int) := by unfold hi; omega
  have hS := or_hi_lo (p.natAbs : Int) hm0
  have lb := lo_bd' (p.natAbs : Int)
  have la := and_low32 (lo (p.natAbs : Int)) lb.1 lb.2
  have lb2 := lo_bd' ((p.natAbs : Int) / 4294967296)
  have tt : (decide (a < 0) != decide (b < 0)) = !decide (a < 0 ↔ b < 0) := by
    by_cases h1 : a < 0 <;> by_cases h2 : b < 0 <;> simp [h1, h2]
  by_cases hs : a < 0 ↔ b < 0
  · have p0 := sg.1 hs
    have ne := fun w => near_any ((p.natAbs : Int) / 4294967296) (lo ((p.natAbs : Int) / 4294967296)) (decide (a < 0) != decide (b < 0)) (decide (4294967296 ≤ hi (p.natAbs : Int))) lb2.1 lb2.2
      (by rw [decide_eq_decide]; unfold hi; omega) (fun h => by unfold lo; omega) w
    have h := Times_plain a b _ _ _ _ _ _ _ _ _ w rfl rfl (.inl (by rw [decide_eq_decide]; exact hs)) hS rfl lb.1 lb.2 (fun w => size_any a a0 a1 w) (fun w => size_any b b0 b1 w) ml ne
    rw [tt, decide_eq_true hs, show ((p.natAbs : Int)) = p by omega] at h
    exact h
  · have p0 := sg.2 hs
    have el : lo (p.natAbs : Int) % 4294967296 = (p.natAbs : Int) % 4294967296 := by unfold lo; omega
    by_cases hr : (p.natAbs : Int) % 4294967296 = 0
    · have ne := fun w => near_any ((p.natAbs : Int) / 4294967296) (lo ((p.natAbs : Int) / 4294967296)) (decide (a < 0) != decide (b < 0)) (decide (4294967296 ≤ hi (p.natAbs : Int))) lb2.1 lb2.2
        (by rw [decide_eq_decide]; unfold hi; omega) (fun h => by unfold lo; omega) w
      have h := Times_plain a b _ _ _ _ _ _ _ _ _ w rfl rfl (.inr (by rw [la, el, hr])) hS rfl lb.1 lb.2 (fun w => size_any a a0 a1 w) (fun w => size_any b b0 b1 w) ml ne
      rw [tt, decide_eq_false hs] at h
      simp only [Bool.not_false, if_true] at h
      rw [show -((p.natAbs : Int) / 4294967296) = p / 4294967296 by omega] at h
      exact h
    · have wb : 0 ≤ IntKind.u64.wrap (lo ((p.natAbs : Int) / 4294967296) + 1) ∧ IntKind.u64.wrap (lo ((p.natAbs : Int) / 4294967296) + 1) ≤ 18446744073709551615 := by rw [IntKind.wrap_u64]; omega
      have ne := fun w => near_any ((p.natAbs : Int) / 4294967296 + 1) (IntKind.u64.wrap (lo ((p.natAbs : Int) / 4294967296) + 1)) true (decide (4294967296 ≤ hi (p.natAbs : Int)) || (IntKind.u64.wrap (lo ((p.natAbs : Int) / 4294967296) + 1) == 0)) wb.1 wb.2
        (by rw [Bool.eq_iff_iff]; simp only [Bool.or_eq_true, decide_eq_true_eq, beq_iff_eq]; rw [IntKind.wrap_u64]; unfold hi lo; omega) (fun h => by rw [IntKind.wrap_u64]; unfold lo; omega) w
      have h := Times_left a b _ _ _ _ _ _ _ _ _ _ _ _ w rfl rfl (by rw [tt, decide_eq_false hs]; rfl) la (by rw [el]; omega) hS rfl lb.1 lb.2 rfl rfl (fun w => size_any a a0 a1 w) (fun w => size_any b b0 b1 w) ml ne
      simp only [if_true] at h
      rw [show -((p.natAbs : Int) / 4294967296 + 1) = p / 4294967296 by omega] at h
      exact h
end Go.Proofs.Ytgggngcgcpmkbaa
