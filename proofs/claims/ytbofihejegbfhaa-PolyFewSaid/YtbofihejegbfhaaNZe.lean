/- poly.New. -/
import Derived.Test.YtbofihejegbfhaaNX
import Derived.Great.BuildSlice
import Derived.Great.Ranges
import Derived.Lib.Hide
namespace Go.Proofs.Ytbofihejegbfhaa
set_option linter.unusedVariables false
set_option maxRecDepth 2000
set_option linter.unusedSimpArgs false
open Go.RowKit
attribute [local go_sem] nums_length
/-- the cells of a Mac: its key, made, its data. -/
def macL (kf : Nat → Int) (v : Value) : List Value := nums .u8 kf 32 ++ [.bool true, v]

set_option maxHeartbeats 4000000 in
theorem New_any (kf : Nat → Int) (w : World) :
    Calls Try.prog 5 #[(.agg (nums .u8 kf 32).toArray)] w fun e w' => e = .returned (.pointer (some ⟨w.heap.size + 1, 0, none⟩)) ∧ Own (w.heap.size + 1) (macL kf (.slice none 0 0)) w' ∧ Below w.heap.size w w' ∧ w'.heap.size = w.heap.size + 2 := by
  go_enter Try.func5, Try.ntmps5
  go_upto_region 1 with fail
  obtain ⟨W0, hW⟩ : ∃ W0, W0 = w.alloc (.cells (nums .u8 kf 32).toArray 22) := ⟨_, rfl⟩
  have hB0 : Below w.heap.size w W0 := hW ▸ Below.al (Below.refl _ _)
  have HY : Hid (Own w.heap.size (nums .u8 kf 32) W0) := Lib.hid (hW ▸ Own.newAt (by simp))
  have HS : W0.heap.size = w.heap.size + 1 := by rw [hW]; exact Array.size_push ..
  rw [← hW]
  clear hW
  refine wp_region_lit ?_
  refine wpList_load_mid rfl 22 _ rfl w.heap.size 0 rfl (nums .u8 kf 32) _ HY.out.cell Try.underlying22 rfl (by kernel_rfl) ?_
  refine wpList_buildTo rfl 35 _ rfl (some 4) rfl (macL kf (.slice none 0 0)).toArray (by kernel_rfl) ?_
  refine Go.Great.wpList_boxTo rfl 35 _ rfl (some 5) rfl (w.heap.size + 1) HS (macL kf (.slice none 0 0)).toArray (by kernel_rfl) ?_
  have HY1 : Own (w.heap.size + 1) (macL kf (.slice none 0 0)) (W0.alloc (.cells (macL kf (.slice none 0 0)).toArray 35)) := HS ▸ Own.newAt (by simp [macL])
  have hB1 : Below w.heap.size w (W0.alloc (.cells (macL kf (.slice none 0 0)).toArray 35)) := Below.al hB0
  have HS1 : (W0.alloc (.cells (macL kf (.slice none 0 0)).toArray 35)).heap.size = w.heap.size + 2 := by
    have : (W0.alloc (.cells (macL kf (.slice none 0 0)).toArray 35)).heap.size = W0.heap.size + 1 := Array.size_push ..
    omega
  obtain ⟨W1, hW⟩ : ∃ W1, W1 = W0.alloc (.cells (macL kf (.slice none 0 0)).toArray 35) := ⟨_, rfl⟩
  rw [← hW] at HY1 hB1 HS1 ⊢
  clear hW
  go_wp2_with (fail)
  go_ret
  exact ⟨rfl, HY1, hB1, HS1⟩
end Go.Proofs.Ytbofihejegbfhaa
