/- manifest: Cap, Chunks and Length of both; the numbers of Check. -/
import Derived.Test.YtokfhhngnpbdkaaDoorMB0
import Derived.Lib.Hide
import Derived.LoopN
import Derived.LoopTactic
import Derived.Deep.Onto
import Derived.Deep.QuietTactic
import Derived.BigQuiet
namespace Go.Proofs.YtokfhhngnpbdkaaDoor
set_option linter.unusedVariables false
set_option maxRecDepth 2000
set_option linter.unusedSimpArgs false
open Go.RowKit
def capF (k : Int) : Int := if k = 1 then 2048 else if k = 2 then 1024 else if k = 3 ∨ k = 4 then 64 else 0
def chunkF (n : Int) : Int := if n < 1 then 0 else (n - 1) / 256 + 1
/-- the caps -/
abbrev CapL : List Value := [.int .i64 0, .int .i64 2048, .int .i64 1024, .int .i64 64, .int .i64 64]
theorem capF_no (k : Int) (h : k < 1 ∨ 4 < k) : capF k = 0 := by
  unfold capF
  rw [if_neg (by omega), if_neg (by omega), if_neg (by omega)]
theorem Cap_any (k : Int) (w : World) (hg : Has 0 0 CapL w) : Calls Tryd.prog 23 #[.int .i64 k] w fun e w' => e = .returned (.int .i64 (capF k)) ∧ w' = w := by
  have c0 := hg.at 0 _ rfl; have c1 := hg.at 1 _ rfl; have c2 := hg.at 2 _ rfl; have c3 := hg.at 3 _ rfl; have c4 := hg.at 4 _ rfl
  have gl := hg.lt
  rw [Nat.zero_add] at c0 c1 c2 c3 c4
  clear hg
  by_cases h1 : k < 0
  · have e1 : decide (k < 0) = true := decide_eq_true h1
    rw [capF_no k (by omega)]
    go_enter Tryd.func23, Tryd.ntmps23
    go_wp2_with (fail)
    go_ret
    exact ⟨rfl, rfl⟩
  · have e1 : decide (k < 0) = false := decide_eq_false h1
    by_cases h2 : 5 ≤ k
    · have e2 : decide (5 ≤ k) = true := decide_eq_true h2
      rw [capF_no k (by omega)]
      go_enter Tryd.func23, Tryd.ntmps23
      go_wp2_with (fail)
      go_ret
      exact ⟨rfl, rfl⟩
    · obtain rfl | rfl | rfl | rfl | rfl : k = 0 ∨ k = 1 ∨ k = 2 ∨ k = 3 ∨ k = 4 := by omega
      all_goals
        clear h1 h2 e1
        go_enter Tryd.func23, Tryd.ntmps23
        go_wp2_with (fail)
        go_ret
        exact ⟨rfl, rfl⟩
theorem RCap_any (k : Int) (w : World) : Calls Tryd.prog 34 #[.int .i64 k] w fun e w' => e = .returned (.int .i64 (capF k)) ∧ w' = w := by
  by_cases h1 : k = 1
  · subst h1
    go_enter Tryd.func34, Tryd.ntmps34
    go_wp2_with (fail)
    go_ret
    exact ⟨rfl, rfl⟩
  · by_cases h2 : k = 2
    · subst h2
      go_enter Tryd.func34, Tryd.ntmps34
      go_wp2_with (fail)
      go_ret
      exact ⟨rfl, rfl⟩
    · by_cases h3 : k = 3
      · subst h3
        go_enter Tryd.func34, Tryd.ntmps34
        go_wp2_with (fail)
        go_ret
        exact ⟨rfl, rfl⟩
      · by_cases h4 : k = 4
        · subst h4
          go_enter Tryd.func34, Tryd.ntmps34
          go_wp2_with (fail)
          go_ret
          exact ⟨rfl, rfl⟩
        · rw [capF_no k (by omega)]
          go_enter Tryd.func34, Tryd.ntmps34
          go_wp2_with (fail)
          go_ret
          exact ⟨rfl, rfl⟩
end Go.Proofs.YtokfhhngnpbdkaaDoor

