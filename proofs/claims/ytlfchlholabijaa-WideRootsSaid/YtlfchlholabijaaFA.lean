/- wide.Shr by 32, wide.MulDiv. -/
import Derived.Test.YtlfchlholabijaaWI
import Derived.Test.YtlfchlholabijaaWJ
import Derived.Test.YtlfchlholabijaaFMath
namespace Go.Proofs.Ytlfchlholabijaa
set_option linter.unusedVariables false
set_option maxRecDepth 2000
open Go.RowKit
attribute [local go_sem] setCell_twice setCell_pair

theorem shr_lo (z : Int) : bits .or .u64 (lo z / 4294967296) (IntKind.u64.wrap (IntKind.u64.wrap (hi z) * 4294967296)) = lo (z / 4294967296) := by
  have e1 : IntKind.u64.wrap (IntKind.u64.wrap (hi z) * 4294967296) = hi z % 4294967296 * 4294967296 := by
    rw [IntKind.wrap_u64, IntKind.wrap_u64]; omega
  have e2 : lo (z / 4294967296) = hi z % 4294967296 * 4294967296 + lo z / 4294967296 := by unfold hi lo; omega
  have b1 : 0 ≤ hi z % 4294967296 ∧ hi z % 4294967296 < 4294967296 := by omega
  have b2 : 0 ≤ lo z / 4294967296 ∧ lo z / 4294967296 < 4294967296 := by unfold lo; omega
  rw [e1, e2]
  obtain ⟨m, hm⟩ := Int.eq_ofNat_of_zero_le b1.1
  obtain ⟨a, ha⟩ := Int.eq_ofNat_of_zero_le b2.1
  rw [hm] at b1 ⊢
  rw [ha] at b2 ⊢
  have b1' : m < 4294967296 := by omega
  have b2' : a < 2 ^ 32 := by omega
  rw [show (m : Int) * 4294967296 = ((m * 4294967296 : Nat) : Int) by omega, bits_or_u64_nat a _ (by omega) (by omega), Nat.or_comm]
  have h := Nat.two_pow_add_eq_or_of_lt b2' m
  rw [show m * 4294967296 = 2 ^ 32 * m by omega, ← h]
  omega

theorem MulDiv_zero (a b : Int) (h l : Int) (w : World)
    (ml : Hid (∀ w, Calls Try.prog 8 #[.int .i64 a, .int .i64 b] w fun e w' => e = .returned (.agg #[.int .i64 h, .int .u64 l]) ∧ Below w.heap.size w w')) :
    Calls Try.prog 9 #[.int .i64 a, .int .i64 b, .int .i64 0] w fun e w' => e = .returned (.int .i64 0) ∧ Below w.heap.size w w' := by
  go_enter Try.func9, Try.ntmps9
  go_wp2_with (first | (go_at_call 8; refine (ml.out _).mono ?_; rintro e w1 ⟨rfl, hb⟩) | (go_at_call 22; refine (Div_zero _ _ _).mono ?_; rintro e w2 ⟨rfl, hc⟩))
  go_ret
  have hbc : Below w.heap.size w w2 := below_step hb hc
  have hsz := hbc.size
  exact ⟨rfl, (by repeat (first | exact Below.refl _ _ | assumption | refine below_drewN ?_ _ | refine Below.drew ?_ | refine Below.alloc ?_ (by first | omega | (simp; done) | (simp; omega)) _ | refine Below.setCell ?_ (by first | (simp; done) | (simp; omega)) _))⟩

theorem MulDiv_yes (a b c h l qh ql r n : Int) (w : World)
    (ml : Hid (∀ w, Calls Try.prog 8 #[.int .i64 a, .int .i64 b] w fun e w' => e = .returned (.agg #[.int .i64 h, .int .u64 l]) ∧ Below w.heap.size w w'))
    (dv : Hid (∀ w, Calls Try.prog 22 #[.agg #[.int .i64 h, .int .u64 l], .int .i64 c] w fun e w' => e = .returned (.tuple #[.agg #[.int .i64 qh, .int .u64 ql], .int .i64 r, .bool true]) ∧ Below w.heap.size w w'))
    (iv : Hid (∀ w, Calls Try.prog 23 #[.agg #[.int .i64 qh, .int .u64 ql]] w fun e w' => e = .returned (.tuple #[.int .i64 n, .bool true]) ∧ Below w.heap.size w w')) :
    Calls Try.prog 9 #[.int .i64 a, .int .i64 b, .int .i64 c] w fun e w' => e = .returned (.int .i64 n) ∧ Below w.heap.size w w' := by
  go_enter Try.func9, Try.ntmps9
  go_wp2_with (first | (go_at_call 8; refine (ml.out _).mono ?_; rintro e w1 ⟨rfl, hb⟩) | (go_at_call 22; refine (dv.out _).mono ?_; rintro e w2 ⟨rfl, hc⟩) | (go_at_call 23; refine (iv.out _).mono ?_; rintro e w3 ⟨rfl, hd⟩))
  go_ret
  have hbc : Below w.heap.size w w2 := below_step hb hc
  have hsz := hbc.size
  have hbd : Below w.heap.size w w3 := below_step (by repeat (first | exact Below.refl _ _ | assumption | refine below_drewN ?_ _ | refine Below.drew ?_ | refine Below.alloc ?_ (by first | omega | (simp; done) | (simp; omega)) _ | refine Below.setCell ?_ (by first | (simp; done) | (simp; omega)) _)) hd
  exact ⟨rfl, (by repeat (first | exact Below.refl _ _ | assumption | refine below_drewN ?_ _ | refine Below.drew ?_ | refine Below.alloc ?_ (by first | omega | (simp; done) | (simp; omega)) _ | refine Below.setCell ?_ (by first | (simp; done) | (simp; omega)) _))⟩

theorem MulDiv_no (a b c h l qh ql r : Int) (w : World)
    (ml : Hid (∀ w, Calls Try.prog 8 #[.int .i64 a, .int .i64 b] w fun e w' => e = .returned (.agg #[.int .i64 h, .int .u64 l]) ∧ Below w.heap.size w w'))
    (dv : Hid (∀ w, Calls Try.prog 22 #[.agg #[.int .i64 h, .int .u64 l], .int .i64 c] w fun e w' => e = .returned (.tuple #[.agg #[.int .i64 qh, .int .u64 ql], .int .i64 r, .bool true]) ∧ Below w.heap.size w w'))
    (iv : Hid (∀ w, Calls Try.prog 23 #[.agg #[.int .i64 qh, .int .u64 ql]] w fun e w' => e = .returned (.tuple #[.int .i64 0, .bool false]) ∧ Below w.heap.size w w')) :
    Calls Try.prog 9 #[.int .i64 a, .int .i64 b, .int .i64 c] w fun e w' => e = .returned (.int .i64 (if qh < 0 then -9223372036854775808 else 9223372036854775807)) ∧ Below w.heap.size w w' := by
  by_cases hq : qh < 0
  all_goals
    go_enter Try.func9, Try.ntmps9
    go_wp2_with (first | (go_at_call 8; refine (ml.out _).mono ?_; rintro e w1 ⟨rfl, hb⟩) | (go_at_call 22; refine (dv.out _).mono ?_; rintro e w2 ⟨rfl, hc⟩) | (go_at_call 23; refine (iv.out _).mono ?_; rintro e w3 ⟨rfl, hd⟩; have hz : w2.heap.size < w3.heap.size := (by have := hd.size; (try simp at this); omega); have c00 := hd.cell (p := ⟨w2.heap.size, 0, none⟩) (by first | omega | (simp; done) | (simp; omega)); have c01 := hd.cell (p := ⟨w2.heap.size, 1, none⟩) (by first | omega | (simp; done) | (simp; omega)); simp [go_sem] at c00 c01))
    go_ret
    have hbc : Below w.heap.size w w2 := below_step hb hc
    have hsz := hbc.size
    have hbd : Below w.heap.size w w3 := below_step (by repeat (first | exact Below.refl _ _ | assumption | refine below_drewN ?_ _ | refine Below.drew ?_ | refine Below.alloc ?_ (by first | omega | (simp; done) | (simp; omega)) _ | refine Below.setCell ?_ (by first | (simp; done) | (simp; omega)) _)) hd
    exact ⟨rfl, (by repeat (first | exact Below.refl _ _ | assumption | refine below_drewN ?_ _ | refine Below.drew ?_ | refine Below.alloc ?_ (by first | omega | (simp; done) | (simp; omega)) _ | refine Below.setCell ?_ (by first | (simp; done) | (simp; omega)) _))⟩

theorem q_bd (p c q r : Int) (e : p = c * q + r) (p0 : -85070591730234615865843651857942052864 ≤ p) (p1 : p ≤ 85070591730234615865843651857942052864) (hp : 0 < c → 0 ≤ r ∧ r < c) (hm : c < 0 → c < r ∧ r ≤ 0) (hc : c ≠ 0)
    (c0 : -9223372036854775808 ≤ c) (c1 : c ≤ 9223372036854775807) : -170141183460469231731687303715884105728 ≤ q ∧ q < 170141183460469231731687303715884105728 := by
  refine ⟨Int.not_lt.1 fun h => ?_, Int.not_le.1 fun h => ?_⟩
  · by_cases hc0 : 0 < c
    · have := Int.mul_le_mul_of_nonneg_right (show 1 ≤ c by omega) (show 0 ≤ -q by omega)
      simp only [Int.mul_neg, Int.one_mul] at this; have := hp hc0; omega
    · have := Int.mul_le_mul_of_nonneg_right (show 1 ≤ -c by omega) (show 0 ≤ -q by omega)
      simp only [Int.mul_neg, Int.neg_mul, Int.neg_neg, Int.one_mul] at this; have := hm (by omega); omega
  · by_cases hc0 : 0 < c
    · have := Int.mul_le_mul_of_nonneg_right (show 1 ≤ c by omega) (show 0 ≤ q by omega)
      rw [Int.one_mul] at this; have := hp hc0; omega
    · have := Int.mul_le_mul_of_nonneg_right (show 1 ≤ -c by omega) (show 0 ≤ q by omega)
      simp only [Int.neg_mul, Int.one_mul] at this; have := hm (by omega); omega

/-- MulDiv: a b by c, rounded down: the nearest int64 -/
theorem MulDiv_any (a b c q r : Int) (a0 : -9223372036854775808 ≤ a) (a1 : a ≤ 9223372036854775807) (b0 : -9223372036854775808 ≤ b) (b1 : b ≤ 9223372036854775807)
    (c0 : -9223372036854775808 ≤ c) (c1 : c ≤ 9223372036854775807) (hc : c ≠ 0) (e : a * b = c * q + r) (hp : 0 < c → 0 ≤ r ∧ r < c) (hm : c < 0 → c < r ∧ r ≤ 0) (w : World) :
    Calls Try.prog 9 #[.int .i64 a, .int .i64 b, .int .i64 c] w fun e w' => e = .returned (.int .i64 (sat q)) ∧ Below w.heap.size w w' := by
  have pb := prod_bd a b a0 a1 b0 b1
  have qb := q_bd (a * b) c q r e pb.1 pb.2 hp hm hc c0 c1
  have iv := fun w => Int_any q w
  have dv := fun w => Div_yes (a * b) c q r (by omega) (by omega) c0 c1 e hp hm hc qb.1 qb.2 w
  by_cases hq : -9223372036854775808 ≤ q ∧ q ≤ 9223372036854775807
  · rw [decide_eq_true hq] at iv
    have h := MulDiv_yes a b c _ _ _ _ r q w (fun w => Mul_any a b a0 a1 b0 b1 w) dv iv
    rw [sat_in q hq.1 hq.2]
    exact h
  · rw [decide_eq_false hq] at iv
    have h := MulDiv_no a b c _ _ _ _ r w (fun w => Mul_any a b a0 a1 b0 b1 w) dv iv
    by_cases hn : q < -9223372036854775808
    · rw [if_pos (by unfold hi; omega)] at h; rw [sat_lo q hn]; exact h
    · rw [if_neg (by unfold hi; omega)] at h; rw [sat_hi q (by omega)]; exact h
end Go.Proofs.Ytlfchlholabijaa
