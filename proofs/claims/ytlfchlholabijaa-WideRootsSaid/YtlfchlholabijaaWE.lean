/- math/bits.Div64: what it gives: quotient and remainder of a number of two digits. -/
import Derived.Test.YtlfchlholabijaaWD
import Derived.Deep.QuietTactic
import Derived.BigQuiet
namespace Go.Proofs.Ytlfchlholabijaa
set_option linter.unusedVariables false
set_option maxRecDepth 2000
open Go.RowKit

theorem or_sum (A P c : Nat) (s : Nat) (hP : P = 2 ^ s) (hP1 : P ≤ 18446744073709551616) (hc : c < P) (hA : A * P < 18446744073709551616) :
    bits .or .u64 ((A * P : Nat) : Int) (c : Int) = ((A * P + c : Nat) : Int) := by
  rw [bits_or_u64_nat _ _ hA (by omega)]
  subst hP
  rw [Nat.mul_comm A, Nat.two_pow_add_eq_or_of_lt hc]

theorem Div64_none (l y : Int) (hy : 1 ≤ y) (hy1 : y ≤ 18446744073709551615) (hl0 : 0 ≤ l) (hl : l ≤ 18446744073709551615) (w : World) :
    Calls Try.prog 37 #[.int .u64 0, .int .u64 l, .int .u64 y] w fun e w' => e = .returned (.tuple #[.int .u64 (l / y), .int .u64 (l % y)]) ∧ ∃ n, w' = w.drewN n := by
  go_enter Try.func37, Try.ntmps37
  go_wp2
  go_quiet (fail)
  go_wp2
  go_ret2
  exact ⟨rfl, _, rfl⟩

/-- the shift that makes the divisor's highest bit 1 -/
theorem shift_of (y : Nat) (hy : 1 ≤ y) (hy1 : y < 18446744073709551616) :
    ∃ s P P' : Nat, s ≤ 63 ∧ (64 : Int) - bitLen y = s ∧ P = 2 ^ s ∧ P' = 2 ^ (64 - s) ∧ P * P' = 18446744073709551616 ∧ 1 ≤ P ∧ 1 ≤ P' ∧ 9223372036854775808 ≤ y * P ∧ y * P < 18446744073709551616 := by
  obtain ⟨h1, h2⟩ := bitLen_spec y
  have h2 := h2 (by omega)
  have hb0 : 1 ≤ bitLen y := by
    rcases Nat.eq_zero_or_pos (bitLen y) with h | h
    · rw [h] at h1; omega
    · exact h
  have hb : bitLen y ≤ 64 := by
    rcases Nat.lt_or_ge 64 (bitLen y) with h | h
    · have := Nat.pow_le_pow_right (n := 2) (by omega) (show 64 ≤ bitLen y - 1 by omega)
      omega
    · exact h
  refine ⟨64 - bitLen y, 2 ^ (64 - bitLen y), 2 ^ (64 - (64 - bitLen y)), by omega, by omega, rfl, rfl, ?_, Nat.two_pow_pos _, Nat.two_pow_pos _, ?_, ?_⟩
  · rw [← Nat.pow_add, show 64 - bitLen y + (64 - (64 - bitLen y)) = 64 by omega]
  · have e : (9223372036854775808 : Nat) = 2 ^ (bitLen y - 1) * 2 ^ (64 - bitLen y) := by rw [← Nat.pow_add, show bitLen y - 1 + (64 - bitLen y) = 63 by omega]
    rw [e]; exact Nat.mul_le_mul_right _ h2
  · have e : (18446744073709551616 : Nat) = 2 ^ bitLen y * 2 ^ (64 - bitLen y) := by rw [← Nat.pow_add, show bitLen y + (64 - bitLen y) = 64 by omega]
    rw [e]; exact Nat.mul_lt_mul_of_pos_right h1 (Nat.two_pow_pos _)

/-- one digit of the quotient -/
theorem digit_of (a b U u : Int) (a0 : 2147483648 ≤ a) (a1 : a ≤ 4294967295) (b0 : 0 ≤ b) (b1 : b ≤ 4294967295) (u0 : 0 ≤ u) (u1 : u ≤ 4294967295) (U0 : 0 ≤ U) (hU : U < a * 4294967296 + b) :
    Kn a b U u ((U * 4294967296 + u) / (a * 4294967296 + b)) := by
  have hY : 0 < a * 4294967296 + b := by omega
  have e := Int.mul_ediv_add_emod (U * 4294967296 + u) (a * 4294967296 + b)
  have m0 := Int.emod_nonneg (U * 4294967296 + u) (show a * 4294967296 + b ≠ 0 by omega)
  have m1 := Int.emod_lt_of_pos (U * 4294967296 + u) hY
  have q0 : 0 ≤ (U * 4294967296 + u) / (a * 4294967296 + b) := Int.ediv_nonneg (by omega) (by omega)
  have q1 : (U * 4294967296 + u) / (a * 4294967296 + b) < 4294967296 := Int.ediv_lt_of_lt_mul hY (by omega)
  generalize (U * 4294967296 + u) / (a * 4294967296 + b) = Q at *
  generalize (U * 4294967296 + u) % (a * 4294967296 + b) = M at *
  have c : (a * 4294967296 + b) * Q = Q * (a * 4294967296 + b) := Int.mul_comm _ _
  have d : (Q + 1) * (a * 4294967296 + b) = Q * (a * 4294967296 + b) + (a * 4294967296 + b) := by grind
  exact ⟨a0, a1, b0, b1, u0, u1, q0, by omega, by omega, by omega⟩

theorem start_p {a b U u Q : Int} (k : Kn a b U u Q) (hU : U ≤ 18446744073709551615) : IntKind.u64.wrap (U / a * a) = U / a * a ∧ 0 ≤ U / a * a ∧ U / a * a ≤ U := by
  have ⟨s, U0⟩ := k.start
  have := s.eq
  have := s.r0
  have : 0 ≤ U / a * a := Int.mul_nonneg (by have := s.ge; have := k.q0; omega) (by have := k.a0; omega)
  rw [IntKind.wrap_u64]
  omega

set_option maxRecDepth 100000 in
theorem Div64_some (h l y : Int) (hh : 1 ≤ h) (hy : h < y) (hy1 : y ≤ 18446744073709551615) (hl0 : 0 ≤ l) (hl : l ≤ 18446744073709551615) (w : World) :
    Calls Try.prog 37 #[.int .u64 h, .int .u64 l, .int .u64 y] w fun e w' => e = .returned (.tuple #[.int .u64 ((h * 18446744073709551616 + l) / y), .int .u64 ((h * 18446744073709551616 + l) % y)]) ∧ w = w' := by
  obtain ⟨s, P, P', s1, hs, eP, eP', hPP, p0, p0', y0, y1⟩ := shift_of y.toNat (by omega) (by omega)
  obtain ⟨H, rfl⟩ := Int.eq_ofNat_of_zero_le (show 0 ≤ h by omega)
  obtain ⟨L, rfl⟩ := Int.eq_ofNat_of_zero_le hl0
  obtain ⟨Y, rfl⟩ := Int.eq_ofNat_of_zero_le (show 0 ≤ y by omega)
  rw [Int.toNat_natCast] at *
  have hP1 : P ≤ 18446744073709551616 := by rw [← hPP]; exact Nat.le_mul_of_pos_right _ p0'
  have hHP : H * P < Y * P := Nat.mul_lt_mul_of_pos_right (by omega) p0
  have dl := Nat.div_add_mod L P'
  have ml : L % P' < P' := Nat.mod_lt _ p0'
  have hd : L / P' < P := by rw [Nat.div_lt_iff_lt_mul p0', hPP]; omega
  have eL : L * P = L / P' * 18446744073709551616 + L % P' * P := by
    rw [← hPP]
    have : L * P = (P' * (L / P') + L % P') * P := by rw [dl]
    rw [this]; grind
  have hLm : L % P' * P < 18446744073709551616 := by rw [← hPP, Nat.mul_comm P P']; exact Nat.mul_lt_mul_of_pos_right ml p0
  have eU : bits .or .u64 (IntKind.u64.wrap ((H : Int) * 2 ^ ((s : Int)).toNat)) ((L : Int) / 2 ^ (64 - (s : Int)).toNat) = ((H * P + L / P' : Nat) : Int) := by
    have e1 : IntKind.u64.wrap ((H : Int) * 2 ^ ((s : Int)).toNat) = ((H * P : Nat) : Int) := by
      rw [Int.toNat_natCast, show ((2 : Int) ^ s) = ((P : Nat) : Int) from by rw [eP]; simp, ← Int.natCast_mul, IntKind.wrap_u64]; omega
    have e2 : ((L : Int) / 2 ^ (64 - (s : Int)).toNat) = ((L / P' : Nat) : Int) := by
      rw [show (64 - (s : Int)).toNat = 64 - s from by omega, show ((2 : Int) ^ (64 - s)) = ((P' : Nat) : Int) from by rw [eP']; simp, Int.natCast_ediv]
    rw [e1, e2]; exact or_sum H P (L / P') s eP hP1 hd (by omega)
  have eY : IntKind.u64.wrap ((Y : Int) * 2 ^ ((s : Int)).toNat) = ((Y * P : Nat) : Int) := by
    rw [Int.toNat_natCast, show ((2 : Int) ^ s) = ((P : Nat) : Int) from by rw [eP]; simp, ← Int.natCast_mul, IntKind.wrap_u64]; omega
  have eLL : IntKind.u64.wrap ((L : Int) * 2 ^ ((s : Int)).toNat) = ((L % P' * P : Nat) : Int) := by
    rw [Int.toNat_natCast, show ((2 : Int) ^ s) = ((P : Nat) : Int) from by rw [eP]; simp, ← Int.natCast_mul, IntKind.wrap_u64]; omega
  have hUY : H * P + L / P' < Y * P := by
    have : (H + 1) * P ≤ Y * P := Nat.mul_le_mul_right _ (by omega)
    rw [Nat.add_mul] at this; omega
  have eN : (H * 18446744073709551616 + L) * P = (H * P + L / P') * 18446744073709551616 + L % P' * P := by
    rw [Nat.add_mul, eL]; grind
  have ePs : ((2 : Int) ^ ((s : Int)).toNat) = ((P : Nat) : Int) := by rw [Int.toNat_natCast, eP]; simp
  clear dl ml hd eL eP eP' hPP hHP
  generalize H * P + L / P' = U at *
  generalize L % P' * P = L2 at *
  have hab : (Y * P : Nat) = ((Y * P : Nat) : Int) / 4294967296 * 4294967296 + ((Y * P : Nat) : Int) % 4294967296 := by omega
  generalize hY2 : Y * P = Y2 at *
  have K1 := digit_of ((Y2 : Int) / 4294967296) ((Y2 : Int) % 4294967296) U ((L2 : Int) / 4294967296) (by omega) (by omega) (by omega) (by omega) (by omega) (by omega) (by omega) (by omega)
  rw [← hab] at K1
  have S1 := K1.start
  have P1 := start_p K1 (by omega)
  have V1 := K1.left
  rw [← hab] at V1
  generalize hQ1 : ((U : Int) * 4294967296 + (L2 : Int) / 4294967296) / (Y2 : Int) = Q1 at *
  generalize hV : (U : Int) * 4294967296 + (L2 : Int) / 4294967296 - Q1 * (Y2 : Int) = V at *
  have K2 := digit_of ((Y2 : Int) / 4294967296) ((Y2 : Int) % 4294967296) V ((L2 : Int) % 4294967296) (by omega) (by omega) (by omega) (by omega) (by omega) (by omega) (by omega) (by omega)
  rw [← hab] at K2
  have S2 := K2.start
  have P2 := start_p K2 (by omega)
  have V2 := K2.left
  rw [← hab] at V2
  generalize hQ2 : (V * 4294967296 + (L2 : Int) % 4294967296) / (Y2 : Int) = Q2 at *
  generalize hR : V * 4294967296 + (L2 : Int) % 4294967296 - Q2 * (Y2 : Int) = R at *
  -- the whole
  have eN2 : ((H : Int) * 18446744073709551616 + L) * P = (Y2 : Int) * (Q1 * 4294967296 + Q2) + R := by
    have : ((H : Int) * 18446744073709551616 + L) * P = (U : Int) * 18446744073709551616 + L2 := by
      have h0 : (((H * 18446744073709551616 + L) * P : Nat) : Int) = ((U * 18446744073709551616 + L2 : Nat) : Int) := by rw [eN]
      rw [Int.natCast_mul, Int.natCast_add, Int.natCast_mul, Int.natCast_add, Int.natCast_mul, show ((18446744073709551616 : Nat) : Int) = 18446744073709551616 from rfl] at h0
      exact h0
    rw [this]
    have hL2 : (L2 : Int) = (L2 : Int) / 4294967296 * 4294967296 + (L2 : Int) % 4294967296 := by omega
    rw [← hR, ← hV]
    generalize (L2 : Int) / 4294967296 = x at *
    generalize (L2 : Int) % 4294967296 = z at *
    rw [hL2]; grind
  have eY2 : (Y2 : Int) = (Y : Int) * P := by rw [← hY2]; exact Int.natCast_mul _ _
  have eq : ((H : Int) * 18446744073709551616 + L) / Y = Q1 * 4294967296 + Q2 := by
    have : ((H : Int) * 18446744073709551616 + L) * P / ((Y : Int) * P) = Q1 * 4294967296 + Q2 := by
      rw [eN2, ← eY2, Int.add_comm, Int.add_mul_ediv_left _ _ (show (Y2 : Int) ≠ 0 by omega), Int.ediv_eq_zero_of_lt V2.2.1 V2.2.2, Int.zero_add]
    rwa [Int.mul_ediv_mul_of_pos_left _ _ (show 0 < (P : Int) by omega)] at this
  have em : R / (P : Int) = ((H : Int) * 18446744073709551616 + L) % Y := by
    have e0 := Int.mul_ediv_add_emod ((H : Int) * 18446744073709551616 + L) Y
    rw [eq] at e0
    have : R = (((H : Int) * 18446744073709551616 + L) % Y) * P := by
      rw [eY2] at eN2
      generalize ((H : Int) * 18446744073709551616 + L) % Y = M at *
      rw [← e0] at eN2
      grind
    rw [this, Int.mul_ediv_cancel _ (show (P : Int) ≠ 0 by omega)]
  have LZ : ∀ w, Calls Try.prog 40 #[.int .u64 (Y : Int)] w fun e w' => e = .returned (.int .i64 (s : Int)) ∧ w = w' := fun w => by
    have := Lead64_any (Y : Int) (by omega) (by omega) w
    rwa [Int.toNat_natCast, hs] at this
  have core := div64_core H L Y s Y2 ((Y2 : Int) / 4294967296) ((Y2 : Int) % 4294967296) U L2 ((L2 : Int) / 4294967296) ((L2 : Int) % 4294967296) _ _ _ Q1 V _ _ _ _ _ _ Q2 _ _ _ R (R / (P : Int)) w
    hh hy hy1 hl0 hl (by omega) (by omega) LZ K1 K2 S1.1 S2.1 (by omega) (by omega) (by omega) (by omega) (by omega) (by omega) (by omega) (by omega)
    (by omega) (by omega) (by omega) (by omega) (by omega) (by omega) (by omega) (by omega)
    (by have := S1.1.ge; have := K1.q0; omega) S1.1.le S1.1.r0 S1.1.r1 P1.2.1 P1.2.2
    (by have := S2.1.ge; have := K2.q0; omega) S2.1.le S2.1.r0 S2.1.r1 P2.2.1 P2.2.2
    K1.q0 K1.q1 K2.q0 K2.q1 (by omega) (by omega)
    eY rfl (and_low32 _ (by omega) (by omega)) eU eLL rfl (and_low32 _ (by omega) (by omega)) rfl P1.1 rfl rfl rfl rfl V1.1 rfl P2.1 rfl rfl rfl rfl V2.1 (by rw [ePs])
  rw [eq, ← em]
  exact core

theorem Div64_any (h l y : Int) (hh : 0 ≤ h) (hy : h < y) (hy1 : y ≤ 18446744073709551615) (hl0 : 0 ≤ l) (hl : l ≤ 18446744073709551615) (w : World) :
    Calls Try.prog 37 #[.int .u64 h, .int .u64 l, .int .u64 y] w fun e w' => e = .returned (.tuple #[.int .u64 ((h * 18446744073709551616 + l) / y), .int .u64 ((h * 18446744073709551616 + l) % y)]) ∧ ∃ n, w' = w.drewN n := by
  rcases Int.lt_or_eq_of_le hh with h1 | rfl
  · exact (Div64_some h l y h1 hy hy1 hl0 hl w).mono fun e w' ⟨he, hw⟩ => ⟨he, 0, hw.symm⟩
  · have := Div64_none l y (by omega) hy1 hl0 hl w
    rwa [Int.zero_mul, Int.zero_add]
end Go.Proofs.Ytlfchlholabijaa
