/- wide.Shr by any number of digits. -/
import Derived.Test.YtgggngcgcpmkbaaWX
import Derived.StillTailTactics
namespace Go.Proofs.Ytgggngcgcpmkbaa
set_option linter.unusedVariables false
set_option maxRecDepth 2000
set_option linter.unusedSimpArgs false
open Go.RowKit
attribute [local go_sem] setCell_twice setCell_pair
theorem two_cast (e : Nat) : (2 : Int) ^ e = ((2 ^ e : Nat) : Int) := by simp
theorem two_pos (e : Nat) : 0 < (2 : Int) ^ e := by rw [two_cast]; have := Nat.two_pow_pos e; omega
/-- far enough to the right just the sign is left -/
theorem sgn_div (h : Int) (e : Nat) (h0 : -9223372036854775808 ≤ h) (h1 : h ≤ 9223372036854775807) (he : 63 ≤ e) : h / 2 ^ e = if h < 0 then -1 else 0 := by
  have p : (9223372036854775808 : Int) ≤ 2 ^ e := by
    rw [two_cast]
    have : 2 ^ 63 ≤ 2 ^ e := Nat.pow_le_pow_right (by omega) he
    omega
  generalize (2 : Int) ^ e = b at *
  by_cases c : h < 0
  · rw [if_pos c]
    exact ((Int.ediv_emod_unique (a := h) (b := b) (r := h + b) (q := -1) (by omega)).2 ⟨by omega, by omega, by omega⟩).1
  · rw [if_neg c]
    exact ((Int.ediv_emod_unique (a := h) (b := b) (r := h) (q := 0) (by omega)).2 ⟨by omega, by omega, by omega⟩).1
/-- a number of two digits by b, where b c is the digits' base -/
theorem shr_num (h l b c : Int) (hb : 0 < b) (hc : 0 < c) (hbc : b * c = 18446744073709551616) (l0 : 0 ≤ l) (l1 : l ≤ 18446744073709551615) :
    hi ((h * 18446744073709551616 + l) / b) = h / b ∧ lo ((h * 18446744073709551616 + l) / b) = h % b * c + l / b ∧ h * c % 18446744073709551616 = h % b * c ∧ 0 ≤ l / b ∧ l / b < c ∧ 0 ≤ h % b ∧ h % b < b := by
  have e1 : (h * 18446744073709551616 + l) / b = h * c + l / b := by
    rw [← hbc, show h * (b * c) + l = l + b * (h * c) by rw [show h * (b * c) = b * (h * c) by ac_rfl]; omega, Int.add_mul_ediv_left _ _ (by omega)]
    omega
  have hr := Int.mul_ediv_add_emod h b
  have r0 := Int.emod_nonneg h (show b ≠ 0 by omega)
  have r1 := Int.emod_lt_of_pos h hb
  have u0 : 0 ≤ l / b := Int.ediv_nonneg l0 (by omega)
  have u1 : l / b < c := by
    refine Int.ediv_lt_of_lt_mul hb ?_
    rw [Int.mul_comm]; omega
  rw [e1]
  generalize l / b = u at *
  generalize h / b = q at *
  generalize h % b = r at *
  have rc : 0 ≤ r * c := Int.mul_nonneg r0 (by omega)
  have rc2 : r * c ≤ 18446744073709551616 - c := by
    have := Int.mul_le_mul_of_nonneg_right (show r ≤ b - 1 by omega) (show 0 ≤ c by omega)
    rw [Int.sub_mul, hbc] at this
    omega
  have hh : h * c = 18446744073709551616 * q + r * c := by
    rw [← hr, Int.add_mul, ← hbc]
    congr 1
    ac_rfl
  have k := (Int.ediv_emod_unique (a := h * c + u) (b := 18446744073709551616) (r := r * c + u) (q := q) (by decide)).2 ⟨by omega, by omega, by omega⟩
  have k2 := (Int.ediv_emod_unique (a := h * c) (b := 18446744073709551616) (r := r * c) (q := q) (by decide)).2 ⟨by omega, by omega, by omega⟩
  exact ⟨k.1, k.2, k2.2, u0, u1, r0, r1⟩
theorem shr_or (h l : Int) (n m : Nat) (hn : n + m = 64) (l0 : 0 ≤ l) (l1 : l ≤ 18446744073709551615) :
    hi ((h * 18446744073709551616 + l) / 2 ^ n) = h / 2 ^ n ∧ bits .or .u64 (l / 2 ^ n) (IntKind.u64.wrap (IntKind.u64.wrap h * 2 ^ m)) = lo ((h * 18446744073709551616 + l) / 2 ^ n) := by
  have hbc : (2 : Int) ^ n * 2 ^ m = 18446744073709551616 := by rw [← Int.pow_add, hn]; rfl
  obtain ⟨a1, a2, a3, a4, a5, a6, a7⟩ := shr_num h l (2 ^ n) (2 ^ m) (two_pos n) (two_pos m) hbc l0 l1
  refine ⟨a1, ?_⟩
  have ew : IntKind.u64.wrap (IntKind.u64.wrap h * 2 ^ m) = h * 2 ^ m % 18446744073709551616 := by
    rw [IntKind.wrap_u64, IntKind.wrap_u64]
    have k := Int.mul_ediv_add_emod h 18446744073709551616
    have : h * 2 ^ m = h % 18446744073709551616 * 2 ^ m + 18446744073709551616 * (h / 18446744073709551616 * 2 ^ m) := by
      conv => lhs; rw [← k]
      rw [Int.add_mul]
      generalize (2 : Int) ^ m = c
      rw [show 18446744073709551616 * (h / 18446744073709551616) * c = 18446744073709551616 * (h / 18446744073709551616 * c) by ac_rfl]
      omega
    rw [this, Int.add_mul_emod_self_left]
  rw [ew, a3, a2]
  have lt : (2 : Int) ^ n * 2 ^ m = 18446744073709551616 := hbc
  have c0 := two_pos m
  have rc2 : h % 2 ^ n * 2 ^ m ≤ 18446744073709551616 - 2 ^ m := by
    have := Int.mul_le_mul_of_nonneg_right (show h % 2 ^ n ≤ 2 ^ n - 1 by omega) (show 0 ≤ (2 : Int) ^ m by omega)
    rw [Int.sub_mul, hbc] at this
    omega
  obtain ⟨u, hu⟩ := Int.eq_ofNat_of_zero_le a4
  obtain ⟨r, hr⟩ := Int.eq_ofNat_of_zero_le a6
  rw [hu] at a5 ⊢
  rw [hr] at rc2 ⊢
  rw [two_cast m] at a5 rc2 c0 ⊢
  rw [show (r : Int) * ((2 ^ m : Nat) : Int) = ((r * 2 ^ m : Nat) : Int) by rw [Int.natCast_mul]] at rc2 ⊢
  have a5' : u < 2 ^ m := by omega
  have p := Nat.two_pow_pos m
  generalize hP : r * 2 ^ m = P at *
  have uP : u < 18446744073709551616 := by omega
  rw [bits_or_u64_nat u P (by omega) (by omega), Nat.or_comm, ← hP, Nat.mul_comm r, ← Nat.two_pow_add_eq_or_of_lt a5' r]
  omega
theorem shr_far (h l : Int) (m : Nat) (h0 : -9223372036854775808 ≤ h) (h1 : h ≤ 9223372036854775807) (l0 : 0 ≤ l) (l1 : l ≤ 18446744073709551615) (j : Nat) (hj : j = m ∨ 64 ≤ j ∧ 64 ≤ m) :
    hi ((h * 18446744073709551616 + l) / 2 ^ (64 + j)) = h / 9223372036854775808 ∧ IntKind.u64.wrap (h / 2 ^ min m 64) = lo ((h * 18446744073709551616 + l) / 2 ^ (64 + j)) := by
  have e0 : (h * 18446744073709551616 + l) / 18446744073709551616 = h := by omega
  have e1 : (h * 18446744073709551616 + l) / 2 ^ (64 + j) = h / 2 ^ j := by
    rw [Int.pow_add, ← Int.ediv_ediv_of_nonneg (by decide), show (2 : Int) ^ 64 = 18446744073709551616 from rfl, e0]
  have e2 : h / 2 ^ min m 64 = h / 2 ^ j := by
    rcases hj with rfl | ⟨a, b⟩
    · by_cases c : j ≤ 64
      · rw [Nat.min_eq_left c]
      · rw [Nat.min_eq_right (by omega), sgn_div h 64 h0 h1 (by omega), sgn_div h j h0 h1 (by omega)]
    · rw [Nat.min_eq_right b, sgn_div h 64 h0 h1 (by omega), sgn_div h j h0 h1 (by omega)]
  rw [e1, e2, IntKind.wrap_u64]
  have b : -9223372036854775808 ≤ h / 2 ^ j ∧ h / 2 ^ j ≤ 9223372036854775807 ∧ (h / 2 ^ j < 0 ↔ h < 0) := by
    have p := two_pos j
    generalize (2 : Int) ^ j = b at *
    have hq := Int.mul_ediv_add_emod h b
    have r0 := Int.emod_nonneg h (show b ≠ 0 by omega)
    have r1 := Int.emod_lt_of_pos h p
    by_cases c : h < 0
    · have q1 : h / b < 0 := Int.ediv_neg_of_neg_of_pos c p
      have q2 : h ≤ h / b := by
        have := Int.mul_le_mul_of_nonneg_left (show h / b ≤ -1 by omega) (show 0 ≤ b - 1 by omega)
        rw [Int.sub_mul, Int.sub_mul, Int.one_mul] at this
        omega
      omega
    · have q1 : 0 ≤ h / b := Int.ediv_nonneg (by omega) (by omega)
      have q2 : h / b ≤ h := Int.ediv_le_self _ (by omega)
      omega
  generalize h / 2 ^ j = q at *
  unfold hi lo
  omega
set_option maxHeartbeats 1000000 in
theorem Shr_near (h l : Int) (x : Int) (n m : Nat) (hx : (if x < 0 then 0 else x) = (n : Int)) (em : IntKind.i64.wrap (64 - (n : Int)) = (m : Int)) (hn : (n : Int) < 64) (h0 : -9223372036854775808 ≤ h) (h1 : h ≤ 9223372036854775807) (l0 : 0 ≤ l) (l1 : l ≤ 18446744073709551615) (w : World) : Calls Try.prog 46 #[(.agg #[.int .i64 h, .int .u64 l]), .int .i64 x] w fun e w' => e = .returned (.agg #[.int .i64 (h / 2 ^ n), .int .u64 (bits .or .u64 (l / 2 ^ n) (IntKind.u64.wrap (IntKind.u64.wrap h * 2 ^ min m 64)))]) ∧ Below w.heap.size w w' := by
  go_enter Try.func46, Try.ntmps46
  go_wp2
  refine wp_region_still_tail 16 (by kernel_rfl) (by kernel_rfl) ?_; simp only [List.take_succ_cons, List.take_zero, List.drop_succ_cons, List.drop_zero]; change wpStill _ _ (World.drew _) (fun a1 => wpList _ _ _ _ a1 (World.drew _)) _ _; repeat still_step
  refine wpStill_nil ?_
  go_wp2
  exact bodyPost_ret (v := (.agg #[.int .i64 (h / 2 ^ n), .int .u64 (bits .or .u64 (l / 2 ^ n) (IntKind.u64.wrap (IntKind.u64.wrap h * 2 ^ min m 64)))])) (by simp [results, Try.results46, go_sem]) rfl ⟨rfl, (by repeat (first | (with_reducible exact Below.refl _ _) | (with_reducible assumption) | (with_reducible refine below_drewN ?_ _) | (with_reducible refine Below.drew ?_) | (with_reducible refine Below.alloc ?_ ?_ _) | (with_reducible refine Below.setCell ?_ ?_ _) | (with_reducible exact Nat.le_refl _) | exact Nat.le_succ _ | (simp; done) | (simp; omega) | omega | fail))⟩
set_option maxHeartbeats 1000000 in
theorem Shr_off (h l : Int) (n m : Nat) (em : IntKind.i64.wrap ((n : Int) - 64) = (m : Int)) (hn : (64 : Int) ≤ n) (hn2 : (n : Int) ≤ 9223372036854775807) (h0 : -9223372036854775808 ≤ h) (h1 : h ≤ 9223372036854775807) (l0 : 0 ≤ l) (l1 : l ≤ 18446744073709551615) (w : World) : Calls Try.prog 46 #[(.agg #[.int .i64 h, .int .u64 l]), .int .i64 n] w fun e w' => e = .returned (.agg #[.int .i64 (h / 9223372036854775808), .int .u64 (IntKind.u64.wrap (h / 2 ^ min m 64))]) ∧ Below w.heap.size w w' := by
  go_enter Try.func46, Try.ntmps46
  go_wp2
  refine wp_region_still_tail 10 (by kernel_rfl) (by kernel_rfl) ?_; simp only [List.take_succ_cons, List.take_zero, List.drop_succ_cons, List.drop_zero]; change wpStill _ _ (World.drew _) (fun a1 => wpList _ _ _ _ a1 (World.drew _)) _ _; repeat still_step
  refine wpStill_nil ?_
  go_wp2
  exact bodyPost_ret (v := (.agg #[.int .i64 (h / 9223372036854775808), .int .u64 (IntKind.u64.wrap (h / 2 ^ min m 64))])) (by simp [results, Try.results46, go_sem]) rfl ⟨rfl, (by repeat (first | (with_reducible exact Below.refl _ _) | (with_reducible assumption) | (with_reducible refine below_drewN ?_ _) | (with_reducible refine Below.drew ?_) | (with_reducible refine Below.alloc ?_ ?_ _) | (with_reducible refine Below.setCell ?_ ?_ _) | (with_reducible exact Nat.le_refl _) | exact Nat.le_succ _ | (simp; done) | (simp; omega) | omega | fail))⟩
/-- Shr by any number: the number by a power of 2, rounded down -/
theorem Shr_law (h l x : Int) (h0 : -9223372036854775808 ≤ h) (h1 : h ≤ 9223372036854775807) (l0 : 0 ≤ l) (l1 : l ≤ 18446744073709551615) (x1 : x ≤ 9223372036854775807) (w : World) : Calls Try.prog 46 #[(.agg #[.int .i64 h, .int .u64 l]), .int .i64 x] w fun e w' => e = .returned (.agg #[.int .i64 (hi ((h * 18446744073709551616 + l) / 2 ^ min x.toNat 200)), .int .u64 (lo ((h * 18446744073709551616 + l) / 2 ^ min x.toNat 200))]) ∧ Below w.heap.size w w' := by
  have hx : (if x < 0 then 0 else x) = (x.toNat : Int) := by split <;> omega
  have hn2 : (x.toNat : Int) ≤ 9223372036854775807 := by omega
  generalize x.toNat = n at *
  by_cases hn : n < 64
  · have := Shr_near h l x n (64 - n) hx (by rw [IntKind.wrap_i64]; omega) (by omega) h0 h1 l0 l1 w
    obtain ⟨a, b⟩ := shr_or h l n (64 - n) (by omega) l0 l1
    rw [Nat.min_eq_left (show 64 - n ≤ 64 by omega), b, ← a] at this
    rw [Nat.min_eq_left (show n ≤ 200 by omega)]
    exact this
  · obtain rfl : x = (n : Int) := by split at hx <;> omega
    have := Shr_off h l n (n - 64) (by rw [IntKind.wrap_i64]; omega) (by omega) hn2 h0 h1 l0 l1 w
    obtain ⟨a, b⟩ := shr_far h l (n - 64) h0 h1 l0 l1 (min n 200 - 64) (by omega)
    rw [show 64 + (min n 200 - 64) = min n 200 by omega] at a b
    rw [a, ← b]
    exact this
end Go.Proofs.Ytgggngcgcpmkbaa
