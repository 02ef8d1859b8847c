/- manifest: Cap, Chunks and Length of both; the numbers of Check. -/
import Derived.Test.YtmbnmbjlggbfkaaKA
import Derived.Test.YtmbnmbjlggbfkaaCD
import Derived.Lib.Hide
import Derived.LoopN
import Derived.LoopTactic
import Derived.Deep.Onto
import Derived.Deep.QuietTactic
import Derived.BigQuiet
namespace Go.Proofs.Ytmbnmbjlggbfkaa
set_option linter.unusedVariables false
set_option maxRecDepth 2000
set_option linter.unusedSimpArgs false
open Go.RowKit
def capF (k : Int) : Int := if k = 1 then 2048 else if k = 2 then 1024 else if k = 3 ∨ k = 4 then 64 else 0
def chunkF (n : Int) : Int := if n < 1 then 0 else (n - 1) / 256 + 1
/-- the caps -/
abbrev CapL : List Value := [.int .i64 0, .int .i64 2048, .int .i64 1024, .int .i64 64, .int .i64 64]
theorem capF_no (k : Int) (h : k < 1 ∨ 4 < k) : capF k = 0 := by
  unfold capF
  rw [if_neg (by omega), if_neg (by omega), if_neg (by omega)]
theorem capF_le (k : Int) : 0 ≤ capF k ∧ capF k ≤ 2048 := by
  unfold capF
  split
  · omega
  · split
    · omega
    · split <;> omega
theorem cap_kind {k : Int} (h : capF k ≠ 0) : 1 ≤ k ∧ k ≤ 4 := by
  unfold capF at h
  split at h
  · omega
  · split at h
    · omega
    · split at h <;> omega
theorem chunkF_no {n : Int} (h : n < 1) : chunkF n = 0 := if_pos h
theorem chunkF_yes {n : Int} (h : ¬n < 1) : chunkF n = (n - 1) / 256 + 1 := if_neg h
end Go.Proofs.Ytmbnmbjlggbfkaa
