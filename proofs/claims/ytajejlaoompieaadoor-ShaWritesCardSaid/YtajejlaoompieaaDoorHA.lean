/- Turns to the right; sha.rot, and the document's. -/
import Derived.Test.YtajejlaoompieaaDoorCB
import Derived.Test.YtajejlaoompieaaDoorCD
import Derived.Lib.Hide
import Derived.Deep.QuietTactic
import Derived.BigQuiet
namespace Go.Proofs.YtajejlaoompieaaDoor
set_option linter.unusedVariables false
set_option maxRecDepth 2000
set_option linter.unusedSimpArgs false
open Go.RowKit
/-- turned to the right by n of 32 -/
def ror (n : Nat) (x : Int) : Int := rot32 (32 - n) x
theorem in_ror (n : Nat) {x : Int} (h : in32 x) : in32 (ror n x) := in_rot32 _ h
theorem u32_or_comm {x y : Int} (hx : in32 x) (hy : in32 y) : bits .or .u32 x y = bits .or .u32 y x := by
  unfold in32 at *
  rw [u32_or x y hx.1 hx.2 hy.1 hy.2, u32_or y x hy.1 hy.2 hx.1 hx.2, Nat.or_comm]
theorem ror_form (x : Int) (hx : in32 x) (n : Nat) (m d : Nat) (hm : 2 ^ (32 - n) = m) (hd : 2 ^ n = d) (hn : n ≤ 32) : bits .or .u32 (x / (d : Int)) (x * (m : Int) % 4294967296) = ror n x := by
  unfold ror
  rw [← rot_form x hx m d (32 - n) hm (by rw [show 32 - (32 - n) = n by omega]; exact hd)]
  refine u32_or_comm ?_ ?_
  · unfold in32 at *
    have hd0 : 0 < d := by rw [← hd]; exact Nat.pow_pos (by decide)
    obtain ⟨k, rfl⟩ := Int.eq_ofNat_of_zero_le hx.1
    rw [← Int.natCast_ediv]
    have h3 := Nat.div_le_self k d
    generalize k / d = q at *
    omega
  · unfold in32; omega

theorem left30_any (x : Int) (hx : in32 x) (w : World) : Calls Tryd.prog 32 #[.int .u32 x, .int .i64 (-2)] w fun e w' => e = .returned (.int .u32 (ror 2 x)) ∧ w' = w := by
  have hf : bits .or .u32 (x * 1073741824 % 4294967296) (x / 4) = ror 2 x := rot_form x hx 1073741824 4 30 (by decide) (by decide)
  obtain ⟨h0, h1⟩ := hx
  have e0 : IntKind.u64.wrap (-2) = 18446744073709551614 := by decide
  have e1 : bits .and .u64 18446744073709551614 31 = 30 := by decide
  go_enter Tryd.func32, Tryd.ntmps32
  go_wp2_with (fail)
  exact bodyPost_ret (v := .int .u32 (ror 2 x)) (by simp [results, Tryd.results32, ← hf]) rfl ⟨rfl, rfl⟩
theorem rot2_sha (x : Int) (hx : in32 x) (w : World) : Calls Tryd.prog 27 #[.int .u32 x, .int .i64 2] w fun e w' => e = .returned (.int .u32 (ror 2 x)) ∧ w' = w := by
  have e0 : IntKind.i64.wrap (-2) = -2 := by decide
  go_enter Tryd.func27, Tryd.ntmps27
  go_wp2_with (fail)
  go_at_call 32
  refine (left30_any x hx _).mono ?_
  rintro e w1 ⟨rfl, rfl⟩
  go_wp2_with (fail)
  go_ret
  exact ⟨rfl, rfl⟩
theorem rrot2_any (x : Int) (hx : in32 x) (w : World) : Calls Tryd.prog 30 #[.int .u32 x, .int .i64 2] w fun e w' => e = .returned (.int .u32 (ror 2 x)) ∧ ∃ m, w' = w.drewN m := by
  have hf : bits .or .u32 (x / 4) (x * 1073741824 % 4294967296) = ror 2 x := ror_form x hx 2 1073741824 4 (by decide) (by decide) (by decide)
  obtain ⟨h0, h1⟩ := hx
  have e1 : IntKind.i64.wrap (32 - 2) = 30 := by decide
  have e2 : IntKind.i64.wrap 30 = 30 := by decide
  go_enter Tryd.func30, Tryd.ntmps30
  go_wp2_with (fail)
  go_quiet (fail)
  go_wp2_with (fail)
  exact bodyPost_ret (v := .int .u32 (ror 2 x)) (by simp [results, Tryd.results30, ← hf, IntKind.wrap_u32']) rfl ⟨rfl, nq, rfl⟩

theorem left26_any (x : Int) (hx : in32 x) (w : World) : Calls Tryd.prog 32 #[.int .u32 x, .int .i64 (-6)] w fun e w' => e = .returned (.int .u32 (ror 6 x)) ∧ w' = w := by
  have hf : bits .or .u32 (x * 67108864 % 4294967296) (x / 64) = ror 6 x := rot_form x hx 67108864 64 26 (by decide) (by decide)
  obtain ⟨h0, h1⟩ := hx
  have e0 : IntKind.u64.wrap (-6) = 18446744073709551610 := by decide
  have e1 : bits .and .u64 18446744073709551610 31 = 26 := by decide
  go_enter Tryd.func32, Tryd.ntmps32
  go_wp2_with (fail)
  exact bodyPost_ret (v := .int .u32 (ror 6 x)) (by simp [results, Tryd.results32, ← hf]) rfl ⟨rfl, rfl⟩
theorem rot6_sha (x : Int) (hx : in32 x) (w : World) : Calls Tryd.prog 27 #[.int .u32 x, .int .i64 6] w fun e w' => e = .returned (.int .u32 (ror 6 x)) ∧ w' = w := by
  have e0 : IntKind.i64.wrap (-6) = -6 := by decide
  go_enter Tryd.func27, Tryd.ntmps27
  go_wp2_with (fail)
  go_at_call 32
  refine (left26_any x hx _).mono ?_
  rintro e w1 ⟨rfl, rfl⟩
  go_wp2_with (fail)
  go_ret
  exact ⟨rfl, rfl⟩
theorem rrot6_any (x : Int) (hx : in32 x) (w : World) : Calls Tryd.prog 30 #[.int .u32 x, .int .i64 6] w fun e w' => e = .returned (.int .u32 (ror 6 x)) ∧ ∃ m, w' = w.drewN m := by
  have hf : bits .or .u32 (x / 64) (x * 67108864 % 4294967296) = ror 6 x := ror_form x hx 6 67108864 64 (by decide) (by decide) (by decide)
  obtain ⟨h0, h1⟩ := hx
  have e1 : IntKind.i64.wrap (32 - 6) = 26 := by decide
  have e2 : IntKind.i64.wrap 26 = 26 := by decide
  go_enter Tryd.func30, Tryd.ntmps30
  go_wp2_with (fail)
  go_quiet (fail)
  go_wp2_with (fail)
  exact bodyPost_ret (v := .int .u32 (ror 6 x)) (by simp [results, Tryd.results30, ← hf, IntKind.wrap_u32']) rfl ⟨rfl, nq, rfl⟩

theorem left25_any (x : Int) (hx : in32 x) (w : World) : Calls Tryd.prog 32 #[.int .u32 x, .int .i64 (-7)] w fun e w' => e = .returned (.int .u32 (ror 7 x)) ∧ w' = w := by
  have hf : bits .or .u32 (x * 33554432 % 4294967296) (x / 128) = ror 7 x := rot_form x hx 33554432 128 25 (by decide) (by decide)
  obtain ⟨h0, h1⟩ := hx
  have e0 : IntKind.u64.wrap (-7) = 18446744073709551609 := by decide
  have e1 : bits .and .u64 18446744073709551609 31 = 25 := by decide
  go_enter Tryd.func32, Tryd.ntmps32
  go_wp2_with (fail)
  exact bodyPost_ret (v := .int .u32 (ror 7 x)) (by simp [results, Tryd.results32, ← hf]) rfl ⟨rfl, rfl⟩
theorem rot7_sha (x : Int) (hx : in32 x) (w : World) : Calls Tryd.prog 27 #[.int .u32 x, .int .i64 7] w fun e w' => e = .returned (.int .u32 (ror 7 x)) ∧ w' = w := by
  have e0 : IntKind.i64.wrap (-7) = -7 := by decide
  go_enter Tryd.func27, Tryd.ntmps27
  go_wp2_with (fail)
  go_at_call 32
  refine (left25_any x hx _).mono ?_
  rintro e w1 ⟨rfl, rfl⟩
  go_wp2_with (fail)
  go_ret
  exact ⟨rfl, rfl⟩
theorem rrot7_any (x : Int) (hx : in32 x) (w : World) : Calls Tryd.prog 30 #[.int .u32 x, .int .i64 7] w fun e w' => e = .returned (.int .u32 (ror 7 x)) ∧ ∃ m, w' = w.drewN m := by
  have hf : bits .or .u32 (x / 128) (x * 33554432 % 4294967296) = ror 7 x := ror_form x hx 7 33554432 128 (by decide) (by decide) (by decide)
  obtain ⟨h0, h1⟩ := hx
  have e1 : IntKind.i64.wrap (32 - 7) = 25 := by decide
  have e2 : IntKind.i64.wrap 25 = 25 := by decide
  go_enter Tryd.func30, Tryd.ntmps30
  go_wp2_with (fail)
  go_quiet (fail)
  go_wp2_with (fail)
  exact bodyPost_ret (v := .int .u32 (ror 7 x)) (by simp [results, Tryd.results30, ← hf, IntKind.wrap_u32']) rfl ⟨rfl, nq, rfl⟩

theorem left21_any (x : Int) (hx : in32 x) (w : World) : Calls Tryd.prog 32 #[.int .u32 x, .int .i64 (-11)] w fun e w' => e = .returned (.int .u32 (ror 11 x)) ∧ w' = w := by
  have hf : bits .or .u32 (x * 2097152 % 4294967296) (x / 2048) = ror 11 x := rot_form x hx 2097152 2048 21 (by decide) (by decide)
  obtain ⟨h0, h1⟩ := hx
  have e0 : IntKind.u64.wrap (-11) = 18446744073709551605 := by decide
  have e1 : bits .and .u64 18446744073709551605 31 = 21 := by decide
  go_enter Tryd.func32, Tryd.ntmps32
  go_wp2_with (fail)
  exact bodyPost_ret (v := .int .u32 (ror 11 x)) (by simp [results, Tryd.results32, ← hf]) rfl ⟨rfl, rfl⟩
theorem rot11_sha (x : Int) (hx : in32 x) (w : World) : Calls Tryd.prog 27 #[.int .u32 x, .int .i64 11] w fun e w' => e = .returned (.int .u32 (ror 11 x)) ∧ w' = w := by
  have e0 : IntKind.i64.wrap (-11) = -11 := by decide
  go_enter Tryd.func27, Tryd.ntmps27
  go_wp2_with (fail)
  go_at_call 32
  refine (left21_any x hx _).mono ?_
  rintro e w1 ⟨rfl, rfl⟩
  go_wp2_with (fail)
  go_ret
  exact ⟨rfl, rfl⟩
theorem rrot11_any (x : Int) (hx : in32 x) (w : World) : Calls Tryd.prog 30 #[.int .u32 x, .int .i64 11] w fun e w' => e = .returned (.int .u32 (ror 11 x)) ∧ ∃ m, w' = w.drewN m := by
  have hf : bits .or .u32 (x / 2048) (x * 2097152 % 4294967296) = ror 11 x := ror_form x hx 11 2097152 2048 (by decide) (by decide) (by decide)
  obtain ⟨h0, h1⟩ := hx
  have e1 : IntKind.i64.wrap (32 - 11) = 21 := by decide
  have e2 : IntKind.i64.wrap 21 = 21 := by decide
  go_enter Tryd.func30, Tryd.ntmps30
  go_wp2_with (fail)
  go_quiet (fail)
  go_wp2_with (fail)
  exact bodyPost_ret (v := .int .u32 (ror 11 x)) (by simp [results, Tryd.results30, ← hf, IntKind.wrap_u32']) rfl ⟨rfl, nq, rfl⟩

theorem left19_any (x : Int) (hx : in32 x) (w : World) : Calls Tryd.prog 32 #[.int .u32 x, .int .i64 (-13)] w fun e w' => e = .returned (.int .u32 (ror 13 x)) ∧ w' = w := by
  have hf : bits .or .u32 (x * 524288 % 4294967296) (x / 8192) = ror 13 x := rot_form x hx 524288 8192 19 (by decide) (by decide)
  obtain ⟨h0, h1⟩ := hx
  have e0 : IntKind.u64.wrap (-13) = 18446744073709551603 := by decide
  have e1 : bits .and .u64 18446744073709551603 31 = 19 := by decide
  go_enter Tryd.func32, Tryd.ntmps32
  go_wp2_with (fail)
  exact bodyPost_ret (v := .int .u32 (ror 13 x)) (by simp [results, Tryd.results32, ← hf]) rfl ⟨rfl, rfl⟩
theorem rot13_sha (x : Int) (hx : in32 x) (w : World) : Calls Tryd.prog 27 #[.int .u32 x, .int .i64 13] w fun e w' => e = .returned (.int .u32 (ror 13 x)) ∧ w' = w := by
  have e0 : IntKind.i64.wrap (-13) = -13 := by decide
  go_enter Tryd.func27, Tryd.ntmps27
  go_wp2_with (fail)
  go_at_call 32
  refine (left19_any x hx _).mono ?_
  rintro e w1 ⟨rfl, rfl⟩
  go_wp2_with (fail)
  go_ret
  exact ⟨rfl, rfl⟩
theorem rrot13_any (x : Int) (hx : in32 x) (w : World) : Calls Tryd.prog 30 #[.int .u32 x, .int .i64 13] w fun e w' => e = .returned (.int .u32 (ror 13 x)) ∧ ∃ m, w' = w.drewN m := by
  have hf : bits .or .u32 (x / 8192) (x * 524288 % 4294967296) = ror 13 x := ror_form x hx 13 524288 8192 (by decide) (by decide) (by decide)
  obtain ⟨h0, h1⟩ := hx
  have e1 : IntKind.i64.wrap (32 - 13) = 19 := by decide
  have e2 : IntKind.i64.wrap 19 = 19 := by decide
  go_enter Tryd.func30, Tryd.ntmps30
  go_wp2_with (fail)
  go_quiet (fail)
  go_wp2_with (fail)
  exact bodyPost_ret (v := .int .u32 (ror 13 x)) (by simp [results, Tryd.results30, ← hf, IntKind.wrap_u32']) rfl ⟨rfl, nq, rfl⟩

theorem left15_any (x : Int) (hx : in32 x) (w : World) : Calls Tryd.prog 32 #[.int .u32 x, .int .i64 (-17)] w fun e w' => e = .returned (.int .u32 (ror 17 x)) ∧ w' = w := by
  have hf : bits .or .u32 (x * 32768 % 4294967296) (x / 131072) = ror 17 x := rot_form x hx 32768 131072 15 (by decide) (by decide)
  obtain ⟨h0, h1⟩ := hx
  have e0 : IntKind.u64.wrap (-17) = 18446744073709551599 := by decide
  have e1 : bits .and .u64 18446744073709551599 31 = 15 := by decide
  go_enter Tryd.func32, Tryd.ntmps32
  go_wp2_with (fail)
  exact bodyPost_ret (v := .int .u32 (ror 17 x)) (by simp [results, Tryd.results32, ← hf]) rfl ⟨rfl, rfl⟩
theorem rot17_sha (x : Int) (hx : in32 x) (w : World) : Calls Tryd.prog 27 #[.int .u32 x, .int .i64 17] w fun e w' => e = .returned (.int .u32 (ror 17 x)) ∧ w' = w := by
  have e0 : IntKind.i64.wrap (-17) = -17 := by decide
  go_enter Tryd.func27, Tryd.ntmps27
  go_wp2_with (fail)
  go_at_call 32
  refine (left15_any x hx _).mono ?_
  rintro e w1 ⟨rfl, rfl⟩
  go_wp2_with (fail)
  go_ret
  exact ⟨rfl, rfl⟩
theorem rrot17_any (x : Int) (hx : in32 x) (w : World) : Calls Tryd.prog 30 #[.int .u32 x, .int .i64 17] w fun e w' => e = .returned (.int .u32 (ror 17 x)) ∧ ∃ m, w' = w.drewN m := by
  have hf : bits .or .u32 (x / 131072) (x * 32768 % 4294967296) = ror 17 x := ror_form x hx 17 32768 131072 (by decide) (by decide) (by decide)
  obtain ⟨h0, h1⟩ := hx
  have e1 : IntKind.i64.wrap (32 - 17) = 15 := by decide
  have e2 : IntKind.i64.wrap 15 = 15 := by decide
  go_enter Tryd.func30, Tryd.ntmps30
  go_wp2_with (fail)
  go_quiet (fail)
  go_wp2_with (fail)
  exact bodyPost_ret (v := .int .u32 (ror 17 x)) (by simp [results, Tryd.results30, ← hf, IntKind.wrap_u32']) rfl ⟨rfl, nq, rfl⟩

theorem left14_any (x : Int) (hx : in32 x) (w : World) : Calls Tryd.prog 32 #[.int .u32 x, .int .i64 (-18)] w fun e w' => e = .returned (.int .u32 (ror 18 x)) ∧ w' = w := by
  have hf : bits .or .u32 (x * 16384 % 4294967296) (x / 262144) = ror 18 x := rot_form x hx 16384 262144 14 (by decide) (by decide)
  obtain ⟨h0, h1⟩ := hx
  have e0 : IntKind.u64.wrap (-18) = 18446744073709551598 := by decide
  have e1 : bits .and .u64 18446744073709551598 31 = 14 := by decide
  go_enter Tryd.func32, Tryd.ntmps32
  go_wp2_with (fail)
  exact bodyPost_ret (v := .int .u32 (ror 18 x)) (by simp [results, Tryd.results32, ← hf]) rfl ⟨rfl, rfl⟩
theorem rot18_sha (x : Int) (hx : in32 x) (w : World) : Calls Tryd.prog 27 #[.int .u32 x, .int .i64 18] w fun e w' => e = .returned (.int .u32 (ror 18 x)) ∧ w' = w := by
  have e0 : IntKind.i64.wrap (-18) = -18 := by decide
  go_enter Tryd.func27, Tryd.ntmps27
  go_wp2_with (fail)
  go_at_call 32
  refine (left14_any x hx _).mono ?_
  rintro e w1 ⟨rfl, rfl⟩
  go_wp2_with (fail)
  go_ret
  exact ⟨rfl, rfl⟩
theorem rrot18_any (x : Int) (hx : in32 x) (w : World) : Calls Tryd.prog 30 #[.int .u32 x, .int .i64 18] w fun e w' => e = .returned (.int .u32 (ror 18 x)) ∧ ∃ m, w' = w.drewN m := by
  have hf : bits .or .u32 (x / 262144) (x * 16384 % 4294967296) = ror 18 x := ror_form x hx 18 16384 262144 (by decide) (by decide) (by decide)
  obtain ⟨h0, h1⟩ := hx
  have e1 : IntKind.i64.wrap (32 - 18) = 14 := by decide
  have e2 : IntKind.i64.wrap 14 = 14 := by decide
  go_enter Tryd.func30, Tryd.ntmps30
  go_wp2_with (fail)
  go_quiet (fail)
  go_wp2_with (fail)
  exact bodyPost_ret (v := .int .u32 (ror 18 x)) (by simp [results, Tryd.results30, ← hf, IntKind.wrap_u32']) rfl ⟨rfl, nq, rfl⟩

theorem left13_any (x : Int) (hx : in32 x) (w : World) : Calls Tryd.prog 32 #[.int .u32 x, .int .i64 (-19)] w fun e w' => e = .returned (.int .u32 (ror 19 x)) ∧ w' = w := by
  have hf : bits .or .u32 (x * 8192 % 4294967296) (x / 524288) = ror 19 x := rot_form x hx 8192 524288 13 (by decide) (by decide)
  obtain ⟨h0, h1⟩ := hx
  have e0 : IntKind.u64.wrap (-19) = 18446744073709551597 := by decide
  have e1 : bits .and .u64 18446744073709551597 31 = 13 := by decide
  go_enter Tryd.func32, Tryd.ntmps32
  go_wp2_with (fail)
  exact bodyPost_ret (v := .int .u32 (ror 19 x)) (by simp [results, Tryd.results32, ← hf]) rfl ⟨rfl, rfl⟩
theorem rot19_sha (x : Int) (hx : in32 x) (w : World) : Calls Tryd.prog 27 #[.int .u32 x, .int .i64 19] w fun e w' => e = .returned (.int .u32 (ror 19 x)) ∧ w' = w := by
  have e0 : IntKind.i64.wrap (-19) = -19 := by decide
  go_enter Tryd.func27, Tryd.ntmps27
  go_wp2_with (fail)
  go_at_call 32
  refine (left13_any x hx _).mono ?_
  rintro e w1 ⟨rfl, rfl⟩
  go_wp2_with (fail)
  go_ret
  exact ⟨rfl, rfl⟩
theorem rrot19_any (x : Int) (hx : in32 x) (w : World) : Calls Tryd.prog 30 #[.int .u32 x, .int .i64 19] w fun e w' => e = .returned (.int .u32 (ror 19 x)) ∧ ∃ m, w' = w.drewN m := by
  have hf : bits .or .u32 (x / 524288) (x * 8192 % 4294967296) = ror 19 x := ror_form x hx 19 8192 524288 (by decide) (by decide) (by decide)
  obtain ⟨h0, h1⟩ := hx
  have e1 : IntKind.i64.wrap (32 - 19) = 13 := by decide
  have e2 : IntKind.i64.wrap 13 = 13 := by decide
  go_enter Tryd.func30, Tryd.ntmps30
  go_wp2_with (fail)
  go_quiet (fail)
  go_wp2_with (fail)
  exact bodyPost_ret (v := .int .u32 (ror 19 x)) (by simp [results, Tryd.results30, ← hf, IntKind.wrap_u32']) rfl ⟨rfl, nq, rfl⟩

theorem left10_any (x : Int) (hx : in32 x) (w : World) : Calls Tryd.prog 32 #[.int .u32 x, .int .i64 (-22)] w fun e w' => e = .returned (.int .u32 (ror 22 x)) ∧ w' = w := by
  have hf : bits .or .u32 (x * 1024 % 4294967296) (x / 4194304) = ror 22 x := rot_form x hx 1024 4194304 10 (by decide) (by decide)
  obtain ⟨h0, h1⟩ := hx
  have e0 : IntKind.u64.wrap (-22) = 18446744073709551594 := by decide
  have e1 : bits .and .u64 18446744073709551594 31 = 10 := by decide
  go_enter Tryd.func32, Tryd.ntmps32
  go_wp2_with (fail)
  exact bodyPost_ret (v := .int .u32 (ror 22 x)) (by simp [results, Tryd.results32, ← hf]) rfl ⟨rfl, rfl⟩
theorem rot22_sha (x : Int) (hx : in32 x) (w : World) : Calls Tryd.prog 27 #[.int .u32 x, .int .i64 22] w fun e w' => e = .returned (.int .u32 (ror 22 x)) ∧ w' = w := by
  have e0 : IntKind.i64.wrap (-22) = -22 := by decide
  go_enter Tryd.func27, Tryd.ntmps27
  go_wp2_with (fail)
  go_at_call 32
  refine (left10_any x hx _).mono ?_
  rintro e w1 ⟨rfl, rfl⟩
  go_wp2_with (fail)
  go_ret
  exact ⟨rfl, rfl⟩
theorem rrot22_any (x : Int) (hx : in32 x) (w : World) : Calls Tryd.prog 30 #[.int .u32 x, .int .i64 22] w fun e w' => e = .returned (.int .u32 (ror 22 x)) ∧ ∃ m, w' = w.drewN m := by
  have hf : bits .or .u32 (x / 4194304) (x * 1024 % 4294967296) = ror 22 x := ror_form x hx 22 1024 4194304 (by decide) (by decide) (by decide)
  obtain ⟨h0, h1⟩ := hx
  have e1 : IntKind.i64.wrap (32 - 22) = 10 := by decide
  have e2 : IntKind.i64.wrap 10 = 10 := by decide
  go_enter Tryd.func30, Tryd.ntmps30
  go_wp2_with (fail)
  go_quiet (fail)
  go_wp2_with (fail)
  exact bodyPost_ret (v := .int .u32 (ror 22 x)) (by simp [results, Tryd.results30, ← hf, IntKind.wrap_u32']) rfl ⟨rfl, nq, rfl⟩

theorem left7_any (x : Int) (hx : in32 x) (w : World) : Calls Tryd.prog 32 #[.int .u32 x, .int .i64 (-25)] w fun e w' => e = .returned (.int .u32 (ror 25 x)) ∧ w' = w := by
  have hf : bits .or .u32 (x * 128 % 4294967296) (x / 33554432) = ror 25 x := rot_form x hx 128 33554432 7 (by decide) (by decide)
  obtain ⟨h0, h1⟩ := hx
  have e0 : IntKind.u64.wrap (-25) = 18446744073709551591 := by decide
  have e1 : bits .and .u64 18446744073709551591 31 = 7 := by decide
  go_enter Tryd.func32, Tryd.ntmps32
  go_wp2_with (fail)
  exact bodyPost_ret (v := .int .u32 (ror 25 x)) (by simp [results, Tryd.results32, ← hf]) rfl ⟨rfl, rfl⟩
theorem rot25_sha (x : Int) (hx : in32 x) (w : World) : Calls Tryd.prog 27 #[.int .u32 x, .int .i64 25] w fun e w' => e = .returned (.int .u32 (ror 25 x)) ∧ w' = w := by
  have e0 : IntKind.i64.wrap (-25) = -25 := by decide
  go_enter Tryd.func27, Tryd.ntmps27
  go_wp2_with (fail)
  go_at_call 32
  refine (left7_any x hx _).mono ?_
  rintro e w1 ⟨rfl, rfl⟩
  go_wp2_with (fail)
  go_ret
  exact ⟨rfl, rfl⟩
theorem rrot25_any (x : Int) (hx : in32 x) (w : World) : Calls Tryd.prog 30 #[.int .u32 x, .int .i64 25] w fun e w' => e = .returned (.int .u32 (ror 25 x)) ∧ ∃ m, w' = w.drewN m := by
  have hf : bits .or .u32 (x / 33554432) (x * 128 % 4294967296) = ror 25 x := ror_form x hx 25 128 33554432 (by decide) (by decide) (by decide)
  obtain ⟨h0, h1⟩ := hx
  have e1 : IntKind.i64.wrap (32 - 25) = 7 := by decide
  have e2 : IntKind.i64.wrap 7 = 7 := by decide
  go_enter Tryd.func30, Tryd.ntmps30
  go_wp2_with (fail)
  go_quiet (fail)
  go_wp2_with (fail)
  exact bodyPost_ret (v := .int .u32 (ror 25 x)) (by simp [results, Tryd.results30, ← hf, IntKind.wrap_u32']) rfl ⟨rfl, nq, rfl⟩
end Go.Proofs.YtajejlaoompieaaDoor
