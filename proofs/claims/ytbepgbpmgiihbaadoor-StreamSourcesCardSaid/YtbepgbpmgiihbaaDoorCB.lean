/- Turns, and the document's. -/
import Derived.Test.YtbepgbpmgiihbaaDoorProg
import Derived.Test.YtbepgbpmgiihbaaDoorKA
import Derived.Test.YtbepgbpmgiihbaaDoorCA
import Derived.WalkKit
import Derived.Deep.DeepCutAuto
import Derived.Deep.QuietTactic
namespace Go.Proofs.YtbepgbpmgiihbaaDoor
set_option linter.unusedVariables false
set_option maxRecDepth 2000
set_option linter.unusedSimpArgs false
open Go.RowKit
theorem rot_form (x : Int) (hx : in32 x) (m d : Nat) (n : Nat) (hm : 2 ^ n = m) (hd : 2 ^ (32 - n) = d) : bits .or .u32 (x * (m : Int) % 4294967296) (x / (d : Int)) = rot32 n x := by
  obtain ⟨h0, h1⟩ := hx
  obtain ⟨k, rfl⟩ := Int.eq_ofNat_of_zero_le h0
  have e1 : ((k : Int) * (m : Int) % 4294967296) = ((k * m % 4294967296 : Nat) : Int) := by
    rw [← Int.natCast_mul]
    generalize k * m = z
    omega
  have e2 : (k : Int) / (d : Int) = ((k / d : Nat) : Int) := (Int.natCast_ediv k d).symm
  rw [e1, e2, u32_or_nat _ _ (Nat.mod_lt _ (by decide)) (Nat.lt_of_le_of_lt (Nat.div_le_self _ _) (by omega))]
  unfold rot32
  rw [hm, hd, Int.toNat_natCast]

theorem rot16_any (x : Int) (hx : in32 x) (w : World) : Calls Tryd.prog 28 #[.int .u32 x, .int .i64 16] w fun e w' => e = .returned (.int .u32 (rot32 16 x)) ∧ Below w.heap.size w w' := by
  have hf : bits .or .u32 (x * 65536 % 4294967296) (x / 65536) = rot32 16 x := rot_form x hx 65536 65536 16 (by decide) (by decide)
  obtain ⟨h0, h1⟩ := hx
  have e1 : bits .and .u64 16 31 = 16 := by decide
  go_enter Tryd.func28, Tryd.ntmps28
  go_wp2_with (fail)
  exact bodyPost_ret (v := .int .u32 (rot32 16 x)) (by simp [results, Tryd.results28, ← hf]) rfl ⟨rfl, Below.refl _ _⟩
theorem turn16_any (x : Int) (hx : in32 x) (w : World) : Calls Tryd.prog 29 #[.int .u32 x, .int .i64 16] w fun e w' => e = .returned (.int .u32 (rot32 16 x)) ∧ Below w.heap.size w w' := by
  have hf : bits .or .u32 (x * 65536 % 4294967296) (x / 65536) = rot32 16 x := rot_form x hx 65536 65536 16 (by decide) (by decide)
  obtain ⟨h0, h1⟩ := hx
  have e1 : IntKind.i64.wrap (32 - 16) = 16 := by decide
  have e2 : IntKind.i64.wrap 16 = 16 := by decide
  go_enter Tryd.func29, Tryd.ntmps29
  go_wp2_with (fail)
  go_quiet (fail)
  go_wp2_with (fail)
  exact bodyPost_ret (v := .int .u32 (rot32 16 x)) (by simp [results, Tryd.results29, ← hf, IntKind.wrap_u32']) rfl ⟨rfl, (by repeat (first | (with_reducible exact Below.refl _ _) | (with_reducible assumption) | (with_reducible refine below_drewN ?_ _) | (with_reducible refine Below.drew ?_) | (with_reducible refine Below.alloc ?_ ?_ _) | (with_reducible refine Below.setCell ?_ ?_ _) | (with_reducible exact Nat.le_refl _) | exact Nat.le_succ _ | (simp; done) | (simp; omega) | omega | fail))⟩

theorem rot12_any (x : Int) (hx : in32 x) (w : World) : Calls Tryd.prog 28 #[.int .u32 x, .int .i64 12] w fun e w' => e = .returned (.int .u32 (rot32 12 x)) ∧ Below w.heap.size w w' := by
  have hf : bits .or .u32 (x * 4096 % 4294967296) (x / 1048576) = rot32 12 x := rot_form x hx 4096 1048576 12 (by decide) (by decide)
  obtain ⟨h0, h1⟩ := hx
  have e1 : bits .and .u64 12 31 = 12 := by decide
  go_enter Tryd.func28, Tryd.ntmps28
  go_wp2_with (fail)
  exact bodyPost_ret (v := .int .u32 (rot32 12 x)) (by simp [results, Tryd.results28, ← hf]) rfl ⟨rfl, Below.refl _ _⟩
theorem turn12_any (x : Int) (hx : in32 x) (w : World) : Calls Tryd.prog 29 #[.int .u32 x, .int .i64 12] w fun e w' => e = .returned (.int .u32 (rot32 12 x)) ∧ Below w.heap.size w w' := by
  have hf : bits .or .u32 (x * 4096 % 4294967296) (x / 1048576) = rot32 12 x := rot_form x hx 4096 1048576 12 (by decide) (by decide)
  obtain ⟨h0, h1⟩ := hx
  have e1 : IntKind.i64.wrap (32 - 12) = 20 := by decide
  have e2 : IntKind.i64.wrap 20 = 20 := by decide
  go_enter Tryd.func29, Tryd.ntmps29
  go_wp2_with (fail)
  go_quiet (fail)
  go_wp2_with (fail)
  exact bodyPost_ret (v := .int .u32 (rot32 12 x)) (by simp [results, Tryd.results29, ← hf, IntKind.wrap_u32']) rfl ⟨rfl, (by repeat (first | (with_reducible exact Below.refl _ _) | (with_reducible assumption) | (with_reducible refine below_drewN ?_ _) | (with_reducible refine Below.drew ?_) | (with_reducible refine Below.alloc ?_ ?_ _) | (with_reducible refine Below.setCell ?_ ?_ _) | (with_reducible exact Nat.le_refl _) | exact Nat.le_succ _ | (simp; done) | (simp; omega) | omega | fail))⟩

theorem rot8_any (x : Int) (hx : in32 x) (w : World) : Calls Tryd.prog 28 #[.int .u32 x, .int .i64 8] w fun e w' => e = .returned (.int .u32 (rot32 8 x)) ∧ Below w.heap.size w w' := by
  have hf : bits .or .u32 (x * 256 % 4294967296) (x / 16777216) = rot32 8 x := rot_form x hx 256 16777216 8 (by decide) (by decide)
  obtain ⟨h0, h1⟩ := hx
  have e1 : bits .and .u64 8 31 = 8 := by decide
  go_enter Tryd.func28, Tryd.ntmps28
  go_wp2_with (fail)
  exact bodyPost_ret (v := .int .u32 (rot32 8 x)) (by simp [results, Tryd.results28, ← hf]) rfl ⟨rfl, Below.refl _ _⟩
theorem turn8_any (x : Int) (hx : in32 x) (w : World) : Calls Tryd.prog 29 #[.int .u32 x, .int .i64 8] w fun e w' => e = .returned (.int .u32 (rot32 8 x)) ∧ Below w.heap.size w w' := by
  have hf : bits .or .u32 (x * 256 % 4294967296) (x / 16777216) = rot32 8 x := rot_form x hx 256 16777216 8 (by decide) (by decide)
  obtain ⟨h0, h1⟩ := hx
  have e1 : IntKind.i64.wrap (32 - 8) = 24 := by decide
  have e2 : IntKind.i64.wrap 24 = 24 := by decide
  go_enter Tryd.func29, Tryd.ntmps29
  go_wp2_with (fail)
  go_quiet (fail)
  go_wp2_with (fail)
  exact bodyPost_ret (v := .int .u32 (rot32 8 x)) (by simp [results, Tryd.results29, ← hf, IntKind.wrap_u32']) rfl ⟨rfl, (by repeat (first | (with_reducible exact Below.refl _ _) | (with_reducible assumption) | (with_reducible refine below_drewN ?_ _) | (with_reducible refine Below.drew ?_) | (with_reducible refine Below.alloc ?_ ?_ _) | (with_reducible refine Below.setCell ?_ ?_ _) | (with_reducible exact Nat.le_refl _) | exact Nat.le_succ _ | (simp; done) | (simp; omega) | omega | fail))⟩

theorem rot7_any (x : Int) (hx : in32 x) (w : World) : Calls Tryd.prog 28 #[.int .u32 x, .int .i64 7] w fun e w' => e = .returned (.int .u32 (rot32 7 x)) ∧ Below w.heap.size w w' := by
  have hf : bits .or .u32 (x * 128 % 4294967296) (x / 33554432) = rot32 7 x := rot_form x hx 128 33554432 7 (by decide) (by decide)
  obtain ⟨h0, h1⟩ := hx
  have e1 : bits .and .u64 7 31 = 7 := by decide
  go_enter Tryd.func28, Tryd.ntmps28
  go_wp2_with (fail)
  exact bodyPost_ret (v := .int .u32 (rot32 7 x)) (by simp [results, Tryd.results28, ← hf]) rfl ⟨rfl, Below.refl _ _⟩
theorem turn7_any (x : Int) (hx : in32 x) (w : World) : Calls Tryd.prog 29 #[.int .u32 x, .int .i64 7] w fun e w' => e = .returned (.int .u32 (rot32 7 x)) ∧ Below w.heap.size w w' := by
  have hf : bits .or .u32 (x * 128 % 4294967296) (x / 33554432) = rot32 7 x := rot_form x hx 128 33554432 7 (by decide) (by decide)
  obtain ⟨h0, h1⟩ := hx
  have e1 : IntKind.i64.wrap (32 - 7) = 25 := by decide
  have e2 : IntKind.i64.wrap 25 = 25 := by decide
  go_enter Tryd.func29, Tryd.ntmps29
  go_wp2_with (fail)
  go_quiet (fail)
  go_wp2_with (fail)
  exact bodyPost_ret (v := .int .u32 (rot32 7 x)) (by simp [results, Tryd.results29, ← hf, IntKind.wrap_u32']) rfl ⟨rfl, (by repeat (first | (with_reducible exact Below.refl _ _) | (with_reducible assumption) | (with_reducible refine below_drewN ?_ _) | (with_reducible refine Below.drew ?_) | (with_reducible refine Below.alloc ?_ ?_ _) | (with_reducible refine Below.setCell ?_ ?_ _) | (with_reducible exact Nat.le_refl _) | exact Nat.le_succ _ | (simp; done) | (simp; omega) | omega | fail))⟩
end Go.Proofs.YtbepgbpmgiihbaaDoor
