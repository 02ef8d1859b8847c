/- wide.Div: what it gives. -/
import Derived.Test.YtlfchlholabijaaWG
import Derived.Test.YtlfchlholabijaaWH
namespace Go.Proofs.Ytlfchlholabijaa
set_option linter.unusedVariables false
set_option maxRecDepth 2000
open Go.RowKit

theorem div_parts (H L D : Int) (L0 : 0 ≤ L) (L1 : L < 18446744073709551616) (D0 : 0 < D) :
    hi ((H * 18446744073709551616 + L) / D) = H / D ∧ lo ((H * 18446744073709551616 + L) / D) = (H % D * 18446744073709551616 + L) / D
      ∧ (H * 18446744073709551616 + L) % D = (H % D * 18446744073709551616 + L) % D := by
  have e := Int.mul_ediv_add_emod H D
  have m0 := Int.emod_nonneg H (show D ≠ 0 by omega)
  have m1 := Int.emod_lt_of_pos H D0
  have eN : H * 18446744073709551616 + L = (H % D * 18446744073709551616 + L) + D * (H / D * 18446744073709551616) := by
    generalize H / D = x at *; generalize H % D = y at *; rw [← e]; grind
  have q0 : 0 ≤ (H % D * 18446744073709551616 + L) / D := Int.ediv_nonneg (by omega) (by omega)
  have q1 : (H % D * 18446744073709551616 + L) / D < 18446744073709551616 := Int.ediv_lt_of_lt_mul D0 (by omega)
  rw [eN, Int.add_mul_ediv_left _ _ (show D ≠ 0 by omega), Int.add_mul_emod_self_left]
  generalize (H % D * 18446744073709551616 + L) / D = q at *
  generalize H / D = x at *
  refine ⟨?_, ?_, rfl⟩
  · unfold hi; omega
  · unfold lo; omega

/-- divide: the size of z by D, with what is left -/
theorem divide_any (z D N : Int) (z0 : -170141183460469231731687303715884105728 ≤ z) (z1 : z < 170141183460469231731687303715884105728) (hN : N = if z < 0 then -z else z)
    (D0 : 1 ≤ D) (D1 : D ≤ 18446744073709551615) (w : World) :
    Calls Try.prog 33 #[(.agg #[.int .i64 (hi (z)), .int .u64 (lo (z))]), .int .u64 D] w fun e w' => e = .returned (.tuple #[.agg #[.int .i64 (wrap64 (hi (N / D))), .int .u64 (lo (N / D))], .int .u64 (N % D)]) ∧ Below w.heap.size w w' := by
  have hb := hi_bd z z0 z1
  have lb := lo_bd z
  have D0' : 0 < D := by omega
  by_cases hz : z < 0
  · rw [if_pos hz] at hN
    rw [hN]
    have lb2 := lo_bd (-z)
    have p := div_parts (hi (-z)) (lo (-z)) D lb2.1 lb2.2 D0'
    rw [hl] at p
    have h0 : hi z < 0 := by unfold hi; omega
    have H0 : 0 ≤ hi (-z) := by unfold hi; omega
    have H1 : hi (-z) ≤ 9223372036854775808 := by unfold hi; omega
    have hu : IntKind.u64.wrap (wrap64 (hi (-z))) = hi (-z) := by rw [IntKind.wrap_u64]; unfold wrap64; omega
    have := divide_neg (hi z) (lo z) (wrap64 (hi (-z))) D (hi (-z)) (lo (-z)) _ _ _ w h0 H0 (by omega) lb2.1 (by omega) D0 D1 (fun w => flip_any z w) hu (Int.emod_nonneg _ (by omega)) (Int.emod_lt_of_pos _ D0') rfl rfl rfl
    rwa [← p.2.2, ← p.2.1, ← p.1] at this
  · rw [if_neg hz] at hN
    rw [hN]
    have p := div_parts (hi z) (lo z) D lb.1 lb.2 D0'
    rw [hl] at p
    have H0 : 0 ≤ hi z := by unfold hi; omega
    have := divide_nonneg D (hi z) (lo z) _ _ _ w H0 hb.2 lb.1 (by omega) D0 D1 (Int.emod_nonneg _ (by omega)) (Int.emod_lt_of_pos _ D0') rfl rfl rfl
    rwa [← p.2.2, ← p.2.1, ← p.1] at this

theorem quo_rem {N D q r : Int} (e : N = D * q + r) (r0 : 0 ≤ r) (r1 : r < D) : N / D = q ∧ N % D = r := by
  subst e
  constructor
  · rw [Int.add_comm, Int.add_mul_ediv_left _ _ (by omega), Int.ediv_eq_zero_of_lt r0 r1, Int.zero_add]
  · rw [Int.add_comm, Int.add_mul_emod_self_left, Int.emod_eq_of_lt r0 r1]

theorem flip_wrap (m : Int) (w : World) :
    Calls Try.prog 35 #[.agg #[.int .i64 (wrap64 (hi m)), .int .u64 (lo m)]] w fun e w' => e = .returned (.agg #[.int .i64 (wrap64 (hi (-m))), .int .u64 (lo (-m))]) ∧ Below w.heap.size w w' := by
  have hl := lo_bd m
  have h := flip_core (wrap64 (hi m)) (lo m) (if 0 < lo m then 1 else 0) w (by split <;> omega) (by split <;> omega)
    (fun w => by have := sub64 0 (lo m) (by omega) hl.1 hl.2 w; rwa [Int.zero_sub] at this)
  rw [flip_hi, show wrap64 (-wrap64 (hi m) - (if 0 < lo m then 1 else 0)) = wrap64 (-hi m - (if 0 < lo m then 1 else 0)) by unfold wrap64; omega, (flip_hi_of m).1.symm, (flip_hi_of m).2.symm] at h
  exact h

theorem Of_minus (w : World) : Calls Try.prog 25 #[.int .i64 (-1)] w fun e w' => e = .returned (.agg #[.int .i64 (-1), .int .u64 18446744073709551615]) ∧ Below w.heap.size w w' := by
  have h := Of_any (-1) (by omega) (by omega) w
  rwa [show hi (-1) = -1 by unfold hi; omega, show lo (-1) = 18446744073709551615 by unfold lo; omega] at h

set_option maxRecDepth 10000 in
/-- Div where there is a quotient: it is told, and what is left -/
theorem Div_yes (z d q r : Int) (z0 : -170141183460469231731687303715884105728 ≤ z) (z1 : z < 170141183460469231731687303715884105728)
    (d0 : -9223372036854775808 ≤ d) (d1 : d ≤ 9223372036854775807) (e : z = d * q + r) (hp : 0 < d → 0 ≤ r ∧ r < d) (hm : d < 0 → d < r ∧ r ≤ 0) (hd : d ≠ 0)
    (q0 : -170141183460469231731687303715884105728 ≤ q) (q1 : q < 170141183460469231731687303715884105728) (w : World) :
    Calls Try.prog 22 #[(.agg #[.int .i64 (hi (z)), .int .u64 (lo (z))]), .int .i64 d] w fun e w' => e = .returned (.tuple #[(.agg #[.int .i64 (hi (q)), .int .u64 (lo (q))]), .int .i64 r, .bool true]) ∧ Below w.heap.size w w' := by
  have hdb : (d == 0) = false := by simpa using hd
  have mg := mag_any d d0 d1
  have hz : hi z < 0 ↔ z < 0 := by unfold hi; omega
  have dv := divide_any z d.natAbs _ z0 z1 rfl (by omega) (by omega)
  have unlike : ∀ (N r' : Int), (z < 0 ∧ ¬ d < 0 ∨ ¬ z < 0 ∧ d < 0) → 0 ≤ N → N = (d.natAbs : Int) * (-q) + r' → (∀ w, Calls Try.prog 33 #[(.agg #[.int .i64 (hi (z)), .int .u64 (lo (z))]), .int .u64 (d.natAbs : Int)] w fun e w' => e = .returned (.tuple #[.agg #[.int .i64 (wrap64 (hi (N / d.natAbs))), .int .u64 (lo (N / d.natAbs))], .int .u64 (N % d.natAbs)]) ∧ Below w.heap.size w w') →
      (d < 0 → r' = r) → (¬ d < 0 → r' = -r) → -(d.natAbs : Int) < r' → r' ≤ 0 →
      Calls Try.prog 22 #[(.agg #[.int .i64 (hi (z)), .int .u64 (lo (z))]), .int .i64 d] w fun e w' => e = .returned (.tuple #[(.agg #[.int .i64 (hi (q)), .int .u64 (lo (q))]), .int .i64 r, .bool true]) ∧ Below w.heap.size w w' := by
    intro N r' sgn N0 eN dv rd rd' lo' hi'
    have sgn' : hi z < 0 ∧ ¬ d < 0 ∨ ¬ hi z < 0 ∧ d < 0 := by omega
    have wq := wrap_hi q q0 q1
    by_cases hr : r' = 0
    · have qr := quo_rem (N := N) (D := d.natAbs) (q := -q) (r := 0) (by rw [eN, hr]) (by omega) (by omega)
      rw [qr.1, qr.2] at dv
      have sg := signed_any 0 d (by omega) (by omega)
      rw [show (if d < 0 then -(0 : Int) else 0) = r by split <;> omega] at sg
      have fp := fun w => flip_wrap (-q) w
      rw [Int.neg_neg, wq] at fp
      exact Div_unlike0 (hi z) (lo z) d d.natAbs _ _ r (hi q) (lo q) w hdb sgn' mg dv fp sg
    · have qr := quo_rem (N := N) (D := d.natAbs) (q := -q - 1) (r := d.natAbs + r') (by rw [eN]; grind) (by omega) (by omega)
      rw [qr.1, qr.2] at dv
      have sg := signed_any (d.natAbs - (d.natAbs + r')) d (by omega) (by omega)
      rw [show (if d < 0 then -((d.natAbs : Int) - (d.natAbs + r')) else (d.natAbs : Int) - (d.natAbs + r')) = r by split <;> omega] at sg
      have fp := fun w => flip_wrap (-q - 1) w
      have hq : -q - 1 = N / d.natAbs := qr.1.symm
      have hq0 : 0 ≤ -q - 1 := by rw [hq]; exact Int.ediv_nonneg N0 (by omega)
      rw [show -(-q - 1) = q + 1 by omega, wrap_hi (q + 1) (by omega) (by omega)] at fp
      have pp := fun w => plus_yes (q + 1) (-1) (by omega) (by omega) (by omega) (by omega) (by omega) (by omega) w
      rw [show q + 1 + -1 = q by omega, show hi (-1) = -1 by unfold hi; omega, show lo (-1) = 18446744073709551615 by unfold lo; omega] at pp
      exact Div_unlike1 (hi z) (lo z) d d.natAbs _ _ _ r _ _ (hi q) (lo q) true w hdb sgn' (by simp; omega) (by omega) (by omega) (by omega) mg dv fp (fun w => Of_minus w) pp sg
  have like : ∀ (N r' : Int), (z < 0 ∧ d < 0 ∨ ¬ z < 0 ∧ ¬ d < 0) → 0 ≤ N → N = (d.natAbs : Int) * q + r' → (∀ w, Calls Try.prog 33 #[(.agg #[.int .i64 (hi (z)), .int .u64 (lo (z))]), .int .u64 (d.natAbs : Int)] w fun e w' => e = .returned (.tuple #[.agg #[.int .i64 (wrap64 (hi (N / d.natAbs))), .int .u64 (lo (N / d.natAbs))], .int .u64 (N % d.natAbs)]) ∧ Below w.heap.size w w') →
      (d < 0 → r' = -r) → (¬ d < 0 → r' = r) → 0 ≤ r' → r' < (d.natAbs : Int) →
      Calls Try.prog 22 #[(.agg #[.int .i64 (hi (z)), .int .u64 (lo (z))]), .int .i64 d] w fun e w' => e = .returned (.tuple #[(.agg #[.int .i64 (hi (q)), .int .u64 (lo (q))]), .int .i64 r, .bool true]) ∧ Below w.heap.size w w' := by
    intro N r' sgn N0 eN dv rd rd' lo' hi'
    have sgn' : hi z < 0 ∧ d < 0 ∨ ¬ hi z < 0 ∧ ¬ d < 0 := by omega
    have qr := quo_rem (N := N) (D := d.natAbs) (q := q) (r := r') eN lo' hi'
    have hq0 : 0 ≤ q := by rw [← qr.1]; exact Int.ediv_nonneg N0 (by omega)
    rw [qr.1, qr.2, wrap_hi q q0 q1] at dv
    have sg := signed_any r' d (by omega) (by omega)
    rw [show (if d < 0 then -r' else r') = r by split <;> omega] at sg
    exact Div_same (hi z) (lo z) d d.natAbs (hi q) (lo q) r' r w hdb sgn' (by unfold hi; omega) mg dv sg
  by_cases sz : z < 0 <;> by_cases sd : d < 0
  · rw [if_pos sz] at dv
    have sp := hm sd
    exact like (-z) (-r) (.inl ⟨sz, sd⟩) (by omega) (by rw [e, show ((d.natAbs : Nat) : Int) = -d by omega]; grind) dv (by omega) (by omega) (by omega) (by omega)
  · rw [if_pos sz] at dv
    have sp := hp (by omega)
    exact unlike (-z) (-r) (.inl ⟨sz, sd⟩) (by omega) (by rw [e, show ((d.natAbs : Nat) : Int) = d by omega]; grind) dv (by omega) (by omega) (by omega) (by omega)
  · rw [if_neg sz] at dv
    have sp := hm sd
    exact unlike z r (.inr ⟨sz, sd⟩) (by omega) (by rw [e, show ((d.natAbs : Nat) : Int) = -d by omega]; grind) dv (by omega) (by omega) (by omega) (by omega)
  · rw [if_neg sz] at dv
    have sp := hp (by omega)
    exact like z r (.inr ⟨sz, sd⟩) (by omega) (by rw [e, show ((d.natAbs : Nat) : Int) = d by omega]) dv (by omega) (by omega) (by omega) (by omega)

/-- Div where the quotient is no wide number: there is one such, -2^127 by -1 -/
theorem Div_no (w : World) :
    Calls Try.prog 22 #[(.agg #[.int .i64 (hi (-170141183460469231731687303715884105728)), .int .u64 (lo (-170141183460469231731687303715884105728))]), .int .i64 (-1)] w fun e w' => e = .returned (.tuple #[.agg #[.int .i64 0, .int .u64 0], .int .i64 0, .bool false]) ∧ Below w.heap.size w w' := by
  have mg := mag_any (-1) (by omega) (by omega)
  have dv := divide_any (-170141183460469231731687303715884105728) 1 170141183460469231731687303715884105728 (by omega) (by omega) (by omega) (by omega) (by omega)
  exact Div_over _ _ (-1) 1 _ _ _ w (by decide) (by unfold hi; omega) (by omega) (by unfold wrap64 hi; omega) mg dv
end Go.Proofs.Ytlfchlholabijaa
