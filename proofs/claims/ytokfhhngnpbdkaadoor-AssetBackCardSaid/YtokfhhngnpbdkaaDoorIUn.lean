/- asset: numbers of the bytes. -/
import Derived.Test.YtokfhhngnpbdkaaDoorIN
import Derived.Lib.Hide
import Derived.LoopN
import Derived.LoopTactic
import Derived.Deep.Onto
import Derived.Deep.RegionHeld3
import Derived.Deep.QuietTactic
import Derived.BigQuiet
import Derived.Great.BuildSlice
import Derived.StillTailTactics
import Derived.Lib.SliceRun
namespace Go.Proofs.YtokfhhngnpbdkaaDoor
set_option linter.unusedVariables false
set_option maxRecDepth 2000
set_option linter.unusedSimpArgs false
open Go.RowKit
theorem encG_0 (g : Nat → Int) (h : 0 ≤ g 0 ∧ g 0 ≤ 255) : encG g 0 = g 0 := by
  unfold encG
  rw [outF_head _ _ _ _ (by decide)]
  unfold encG2
  rw [outF_head _ _ _ _ (by decide)]
  unfold encG1
  rw [show (0 : Nat) = 0 + 1 * 0 + 0 from rfl, outF_dg _ _ _ _ 0 0 (by decide)]
  exact dg_0 h
theorem encG_lo (g : Nat → Int) (r : Nat) (hr : r < 4) (i : Nat) (hi : i < 2) : encG g (1 + 2 * r + i) = dg (g (1 + r)) i := by
  by_cases h : r < 3
  · unfold encG
    rw [outF_head _ _ _ _ (by omega)]
    unfold encG2
    rw [outF_dg _ _ _ _ r i hi]
  · obtain rfl : r = 3 := by omega
    unfold encG
    rw [show 1 + 2 * 3 + i = 7 + 2 * 0 + i by omega, outF_dg _ _ _ _ 0 i hi]
theorem chk2_zero {z : Int} {b : Bool} (h : chk2 z b = 0) : z = 0 ∧ b = true := by
  unfold chk2 at h
  by_cases e : z = 0
  · rw [if_pos e] at h
    cases b with
    | true => exact ⟨e, rfl⟩
    | false => cases h
  · rw [if_neg e] at h
    exact absurd h e
end Go.Proofs.YtokfhhngnpbdkaaDoor
