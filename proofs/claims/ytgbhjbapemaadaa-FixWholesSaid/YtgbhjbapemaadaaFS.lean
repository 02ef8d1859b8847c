/- The document's answers for package fix (umbraref02): what each call gives: floors, sums, products, quotients. -/
import Derived.Test.YtgbhjbapemaadaaFR
namespace Go.Proofs.Ytgbhjbapemaadaa
set_option linter.unusedVariables false
open Go.RowKit
attribute [local go_sem] setCell_twice setCell_pair

theorem RFloor_any (x : Int) (x0 : -9223372036854775808 ≤ x) (x1 : x ≤ 9223372036854775807) (w : World) :
    Calls Try.prog 13 #[.int .i64 x] w fun e w' => e = .returned (.int .i64 (x / 4294967296)) ∧ w = w' :=
  RFloor_core x _ _ w (by omega) (by omega) (by show (_ : Int) = _; split <;> (try split) <;> omega) (fun w => size_any x x0 x1 w)

theorem RRound_any (x : Int) (x0 : -9223372036854775808 ≤ x) (x1 : x ≤ 9223372036854775807) (w : World) :
    Calls Try.prog 15 #[.int .i64 x] w fun e w' => e = .returned (.int .i64 ((x / 2147483648 + 1) / 2)) ∧ w = w' := by
  by_cases hx : 9223372034707292160 ≤ x
  · go_enter Try.func15, Try.ntmps15
    go_wp2
    go_ret
    exact ⟨ret_int (by omega), rfl⟩
  · have fl := Lib.hid (fun w => RFloor_any (x + 2147483648) (by omega) (by omega) w)
    go_enter Try.func15, Try.ntmps15
    go_wp2_with (fail); go_at_call 13; refine (fl.out _).mono ?_; rintro e w1 ⟨rfl, rfl⟩
    go_wp2
    go_ret
    exact ⟨ret_int (by omega), rfl⟩

theorem Two_same (a b x y S r : Int) (t big : Bool) (w : World) (ht : decide (a < 0) = t) (hu : decide (b < 0) = t) (hS : IntKind.u64.wrap (x + y) = S) (hb : decide (S < x) = big)
    (sa : Hid (∀ w, Calls Try.prog 36 #[.int .i64 a] w fun e w' => e = .returned (.int .u64 x) ∧ w = w'))
    (sb : Hid (∀ w, Calls Try.prog 36 #[.int .i64 b] w fun e w' => e = .returned (.int .u64 y) ∧ w = w'))
    (ne : Hid (∀ w, Calls Try.prog 37 #[.int .u64 S, .bool t, .bool big] w fun e w' => e = .returned (.int .i64 r) ∧ w = w')) :
    Calls Try.prog 39 #[.int .i64 a, .int .i64 b] w fun e w' => e = .returned (.int .i64 r) ∧ w = w' := by
  go_enter Try.func39, Try.ntmps39
  go_wp2_with (fail); go_at_call 36; refine (sa.out _).mono ?_; rintro e w1 ⟨rfl, rfl⟩
  go_wp2_with (fail); go_at_call 36; refine (sb.out _).mono ?_; rintro e w1 ⟨rfl, rfl⟩
  go_wp2_with (fail); go_at_call 37; refine (ne.out _).mono ?_; rintro e w1 ⟨rfl, rfl⟩
  go_wp2
  go_ret
  exact ⟨rfl, rfl⟩

theorem Two_unlike (a b x y : Int) (t : Bool) (w : World) (ht : decide (a < 0) = t) (hu : decide (b < 0) = !t) (s0 : -9223372036854775808 ≤ a + b) (s1 : a + b ≤ 9223372036854775807)
    (sa : Hid (∀ w, Calls Try.prog 36 #[.int .i64 a] w fun e w' => e = .returned (.int .u64 x) ∧ w = w'))
    (sb : Hid (∀ w, Calls Try.prog 36 #[.int .i64 b] w fun e w' => e = .returned (.int .u64 y) ∧ w = w')) :
    Calls Try.prog 39 #[.int .i64 a, .int .i64 b] w fun e w' => e = .returned (.int .i64 (a + b)) ∧ w = w' := by
  cases t
  all_goals
    simp only [Bool.not_true, Bool.not_false] at hu
    go_enter Try.func39, Try.ntmps39
    go_wp2_with (fail); go_at_call 36; refine (sa.out _).mono ?_; rintro e w1 ⟨rfl, rfl⟩
    go_wp2_with (fail); go_at_call 36; refine (sb.out _).mono ?_; rintro e w1 ⟨rfl, rfl⟩
    go_wp2
    go_ret
    exact ⟨rfl, rfl⟩

theorem Two_any (a b : Int) (a0 : -9223372036854775808 ≤ a) (a1 : a ≤ 9223372036854775807) (b0 : -9223372036854775808 ≤ b) (b1 : b ≤ 9223372036854775807) (w : World) :
    Calls Try.prog 39 #[.int .i64 a, .int .i64 b] w fun e w' => e = .returned (.int .i64 (sat (a + b))) ∧ w = w' := by
  by_cases hs : a < 0 ↔ b < 0
  · have ht : decide (b < 0) = decide (a < 0) := by rw [decide_eq_decide]; exact hs.symm
    have wb : 0 ≤ IntKind.u64.wrap ((a.natAbs : Int) + b.natAbs) ∧ IntKind.u64.wrap ((a.natAbs : Int) + b.natAbs) ≤ 18446744073709551615 := by rw [IntKind.wrap_u64]; omega
    have ne := fun w => near_any ((a.natAbs : Int) + b.natAbs) (IntKind.u64.wrap ((a.natAbs : Int) + b.natAbs)) (decide (a < 0)) (decide (IntKind.u64.wrap ((a.natAbs : Int) + b.natAbs) < (a.natAbs : Int))) wb.1 wb.2
      (by rw [decide_eq_decide, IntKind.wrap_u64]; omega) (fun h => by rw [IntKind.wrap_u64]; omega) w
    rw [show (if decide (a < 0) = true then -((a.natAbs : Int) + b.natAbs) else (a.natAbs : Int) + b.natAbs) = a + b by simp only [decide_eq_true_eq]; split <;> omega] at ne
    exact Two_same a b _ _ _ _ _ _ w rfl ht rfl rfl (fun w => size_any a a0 a1 w) (fun w => size_any b b0 b1 w) ne
  · have hu : decide (b < 0) = !decide (a < 0) := by
      by_cases ha : a < 0 <;> by_cases hb : b < 0 <;> simp [ha, hb] <;> omega
    rw [sat_in (a + b) (by omega) (by omega)]
    exact Two_unlike a b _ _ _ w rfl hu (by omega) (by omega) (fun w => size_any a a0 a1 w) (fun w => size_any b b0 b1 w)

theorem RSub_unlike (a b x y S r : Int) (t big : Bool) (w : World) (ht : decide (a < 0) = t) (hu : decide (b < 0) = !t) (hS : IntKind.u64.wrap (x + y) = S) (hb : decide (S < x) = big)
    (sa : Hid (∀ w, Calls Try.prog 36 #[.int .i64 a] w fun e w' => e = .returned (.int .u64 x) ∧ w = w'))
    (sb : Hid (∀ w, Calls Try.prog 36 #[.int .i64 b] w fun e w' => e = .returned (.int .u64 y) ∧ w = w'))
    (ne : Hid (∀ w, Calls Try.prog 37 #[.int .u64 S, .bool t, .bool big] w fun e w' => e = .returned (.int .i64 r) ∧ w = w')) :
    Calls Try.prog 17 #[.int .i64 a, .int .i64 b] w fun e w' => e = .returned (.int .i64 r) ∧ w = w' := by
  cases t
  all_goals
    simp only [Bool.not_true, Bool.not_false] at hu
    go_enter Try.func17, Try.ntmps17
    go_wp2_with (fail); go_at_call 36; refine (sa.out _).mono ?_; rintro e w1 ⟨rfl, rfl⟩
    go_wp2_with (fail); go_at_call 36; refine (sb.out _).mono ?_; rintro e w1 ⟨rfl, rfl⟩
    go_wp2_with (fail); go_at_call 37; refine (ne.out _).mono ?_; rintro e w1 ⟨rfl, rfl⟩
    go_wp2
    go_ret
    exact ⟨rfl, rfl⟩

theorem RSub_same (a b x y : Int) (t : Bool) (w : World) (ht : decide (a < 0) = t) (hu : decide (b < 0) = t) (s0 : -9223372036854775808 ≤ a - b) (s1 : a - b ≤ 9223372036854775807)
    (sa : Hid (∀ w, Calls Try.prog 36 #[.int .i64 a] w fun e w' => e = .returned (.int .u64 x) ∧ w = w'))
    (sb : Hid (∀ w, Calls Try.prog 36 #[.int .i64 b] w fun e w' => e = .returned (.int .u64 y) ∧ w = w')) :
    Calls Try.prog 17 #[.int .i64 a, .int .i64 b] w fun e w' => e = .returned (.int .i64 (a - b)) ∧ w = w' := by
  go_enter Try.func17, Try.ntmps17
  go_wp2_with (fail); go_at_call 36; refine (sa.out _).mono ?_; rintro e w1 ⟨rfl, rfl⟩
  go_wp2_with (fail); go_at_call 36; refine (sb.out _).mono ?_; rintro e w1 ⟨rfl, rfl⟩
  go_wp2
  go_ret
  exact ⟨rfl, rfl⟩

theorem RSub_any (a b : Int) (a0 : -9223372036854775808 ≤ a) (a1 : a ≤ 9223372036854775807) (b0 : -9223372036854775808 ≤ b) (b1 : b ≤ 9223372036854775807) (w : World) :
    Calls Try.prog 17 #[.int .i64 a, .int .i64 b] w fun e w' => e = .returned (.int .i64 (sat (a - b))) ∧ w = w' := by
  by_cases hs : a < 0 ↔ b < 0
  · have ht : decide (b < 0) = decide (a < 0) := by rw [decide_eq_decide]; exact hs.symm
    rw [sat_in (a - b) (by omega) (by omega)]
    exact RSub_same a b _ _ _ w rfl ht (by omega) (by omega) (fun w => size_any a a0 a1 w) (fun w => size_any b b0 b1 w)
  · have hu : decide (b < 0) = !decide (a < 0) := by
      by_cases ha : a < 0 <;> by_cases hb : b < 0 <;> simp [ha, hb] <;> omega
    have wb : 0 ≤ IntKind.u64.wrap ((a.natAbs : Int) + b.natAbs) ∧ IntKind.u64.wrap ((a.natAbs : Int) + b.natAbs) ≤ 18446744073709551615 := by rw [IntKind.wrap_u64]; omega
    have ne := fun w => near_any ((a.natAbs : Int) + b.natAbs) (IntKind.u64.wrap ((a.natAbs : Int) + b.natAbs)) (decide (a < 0)) (decide (IntKind.u64.wrap ((a.natAbs : Int) + b.natAbs) < (a.natAbs : Int))) wb.1 wb.2
      (by rw [decide_eq_decide, IntKind.wrap_u64]; omega) (fun h => by rw [IntKind.wrap_u64]; omega) w
    rw [show (if decide (a < 0) = true then -((a.natAbs : Int) + b.natAbs) else (a.natAbs : Int) + b.natAbs) = a - b by simp only [decide_eq_true_eq]; split <;> omega] at ne
    exact RSub_unlike a b _ _ _ _ _ _ w rfl hu rfl rfl (fun w => size_any a a0 a1 w) (fun w => size_any b b0 b1 w) ne

theorem RClamp_any (x l h : Int) (w : World) :
    Calls Try.prog 30 #[.int .i64 x, .int .i64 l, .int .i64 h] w fun e w' => e = .returned (.int .i64 (min h (max x l))) ∧ w = w' := by
  by_cases h1 : x < l
  · by_cases h2 : h < l
    all_goals
      go_enter Try.func30, Try.ntmps30
      go_wp2
      go_ret
      exact ⟨ret_int (by omega), rfl⟩
  · by_cases h2 : h < x
    all_goals
      go_enter Try.func30, Try.ntmps30
      go_wp2
      go_ret
      exact ⟨ret_int (by omega), rfl⟩

set_option maxHeartbeats 1000000 in
theorem RAdd_walk (blk off n cap : Nat) (zs : List Int) (R : Int) (hN : n ≤ 4611686018427387904) (w : World) (sl : FixSl w blk off n zs) (hR : zs.foldl addS 0 = R) :
    Calls Try.prog 19 #[.slice (some ⟨blk, off, none⟩) n cap] w fun e w' => e = .returned (.int .i64 R) ∧ w = w' := by
  have HR := Lib.hid hR; clear hR
  go_enter Try.func19, Try.ntmps19
  go_wp2
  go_loop [3, 4] (fun x i => ∃ (k : Nat) (s : Int), k ≤ n ∧ i = .int .i64 k ∧ x = .int .i64 s ∧ Hid ((zs.drop k).foldl addS s = R) ∧ Hid (in64 s)) (fun _ i => (n - (intOf i).toNat))
  case atStart => exact ⟨0, 0, by omega, rfl, rfl, HR.out, by show in64 0; unfold in64; omega⟩
  case round =>
    obtain ⟨k, s, hk, rfl, rfl, hs, hw⟩ := hrel
    by_cases hlt : k < n
    · have c := sl.cell k hlt
      have wz := sl.bd k hlt
      have st := fold_step addS s zs k (by rw [sl.len]; exact hlt)
      rw [hs.out] at st
      generalize zs.getD k 0 = z at *
      have nx := Lib.hid st.symm
      have pl := Lib.hid (fun w => Two_any s z hw.out.1 hw.out.2 wz.1 wz.2 w)
      clear st hw wz hs
      go_wp2_with (go_at_call 39; refine (pl.out _).mono ?_; rintro e w1 ⟨rfl, rfl⟩)
      go_round
      case rel => exact ⟨k + 1, _, by omega, by go_num, rfl, nx, in64_sat _⟩
      case measure => simp [intOf]; omega
    · obtain rfl : k = n := by omega
      have he := hs.out
      rw [List.drop_eq_nil_of_le (by rw [sl.len]; exact Nat.le_refl _)] at he
      have HE := Lib.hid he
      clear he hs
      go_wp2
      go_ret
      exact ⟨ret_int HE.out, rfl⟩

theorem RAdd_nil (p : Option Addr) (cap : Nat) (w : World) : Calls Try.prog 19 #[.slice p 0 cap] w fun e w' => e = .returned (.int .i64 0) ∧ w = w' := by
  go_enter Try.func19, Try.ntmps19
  go_wp2
  go_loop [3, 4] (fun x i => x = .int .i64 0 ∧ i = .int .i64 0) (fun _ i => 0)
  case atStart => exact ⟨rfl, rfl⟩
  case round =>
    obtain ⟨rfl, rfl⟩ := hrel
    go_wp2
    go_ret
    exact ⟨rfl, rfl⟩
end Go.Proofs.Ytgbhjbapemaadaa
