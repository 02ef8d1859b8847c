/- mesh: offGrid, offTexture, noTriangle; the document's Off. -/
import Derived.Test.YtnopcgkhoennfaaSA
import Derived.Lib.Hide
import Derived.Deep.Onto
namespace Go.Proofs.Ytnopcgkhoennfaa
set_option linter.unusedVariables false
set_option maxRecDepth 2000
set_option linter.unusedSimpArgs false
open Go.RowKit
attribute [local go_sem ↓] run_mn3 run_mx3
theorem ret_bool {b c : Bool} (h : (b = true ↔ ¬(c = true))) : Ending.returned (.bool b) = Ending.returned (.bool (!c)) := by
  cases b <;> cases c <;> simp at h ⊢
theorem okP_iff {x y z : Int} : okP x y z = true ↔ (-4096 ≤ x ∧ x ≤ 4096) ∧ (-4096 ≤ y ∧ y ≤ 4096) ∧ (-4096 ≤ z ∧ z ≤ 4096) := decide_eq_true_iff
theorem okU_iff {x y : Int} : okU x y = true ↔ (0 ≤ x ∧ x ≤ 65535) ∧ (0 ≤ y ∧ y ≤ 65535) := decide_eq_true_iff
theorem okT_iff {n : Nat} {x y z : Int} : okT n x y z = true ↔ (0 ≤ x ∧ x < (n : Int)) ∧ (0 ≤ y ∧ y < (n : Int)) ∧ (0 ≤ z ∧ z < (n : Int)) ∧ x ≠ y ∧ y ≠ z ∧ z ≠ x := decide_eq_true_iff
set_option maxHeartbeats 2000000 in
theorem offGrid_any (x y z : Int) (w : World) : Calls Try.prog 40 #[.agg #[.int .i64 x, .int .i64 y, .int .i64 z]] w fun e w' => e = .returned (.bool (!okP x y z)) ∧ Below w.heap.size w w' := by
  have HE := Lib.hid (@okP_iff x y z)
  generalize okP x y z = b at *
  go_enter Try.func40, Try.ntmps40
  go_wp2_with (fail)
  all_goals (go_ret; exact ⟨ret_bool (by rw [HE.out]; simp [mn3_lt, mx3_gt] at *; omega), Below.al (Below.refl _ _)⟩)
set_option maxHeartbeats 2000000 in
theorem offTexture_any (x y : Int) (w : World) : Calls Try.prog 43 #[.agg #[.int .i64 x, .int .i64 y]] w fun e w' => e = .returned (.bool (!okU x y)) ∧ Below w.heap.size w w' := by
  have HE := Lib.hid (@okU_iff x y)
  generalize okU x y = b at *
  go_enter Try.func43, Try.ntmps43
  go_wp2_with (fail)
  all_goals (go_ret; exact ⟨ret_bool (by rw [HE.out]; simp; omega), Below.al (Below.refl _ _)⟩)
set_option maxHeartbeats 2000000 in
theorem Off_any (x y z : Int) (w : World) : Calls Try.prog 24 #[.agg #[.int .i64 x, .int .i64 y, .int .i64 z], .int .i64 4096] w fun e w' => e = .returned (.bool (!okP x y z)) ∧ Below w.heap.size w w' := by
  have HE := Lib.hid (@okP_iff x y z)
  generalize okP x y z = b at *
  go_enter Try.func24, Try.ntmps24
  go_wp2_with (fail)
  all_goals (go_ret; exact ⟨ret_bool (by rw [HE.out]; simp; omega), Below.al (Below.refl _ _)⟩)
set_option maxHeartbeats 2000000 in
theorem noTriangle_any (n : Nat) (x y z : Int) (w : World) : Calls Try.prog 47 #[.agg #[.int .i64 x, .int .i64 y, .int .i64 z], .int .i64 n] w fun e w' => e = .returned (.bool (!okT n x y z)) ∧ Below w.heap.size w w' := by
  have HE := Lib.hid (@okT_iff n x y z)
  generalize okT n x y z = b at *
  have M1 := Lib.hid (mn3_lt x y z); have M2 := Lib.hid (mx3_gt x y z ((n : Int) - 1))
  go_enter Try.func47, Try.ntmps47
  go_wp2_with (fail)
  all_goals (go_ret; exact ⟨ret_bool (by have m1 := M1.out 0; have m2 := M2.out; rw [HE.out]; simp; omega), Below.al (Below.refl _ _)⟩)
end Go.Proofs.Ytnopcgkhoennfaa
