/- wide.Cmp, Sign: the walks. -/
import Derived.Test.YtlfchlholabijaaWJ
import Derived.LoopTactic
import Derived.StillTailTactics
namespace Go.Proofs.Ytlfchlholabijaa
set_option linter.unusedVariables false
set_option maxRecDepth 2000
open Go.RowKit
attribute [local go_sem] setCell_twice setCell_pair

def cmpI (a b : Int) : Int := if a < b then -1 else if b < a then 1 else 0
theorem cmpI_bd (a b : Int) : -1 ≤ cmpI a b ∧ cmpI a b ≤ 1 := by unfold cmpI; split <;> (try split) <;> omega

theorem cmpI_wide (x y : Int) : (if cmpI (hi x) (hi y) = 0 then cmpI (lo x) (lo y) else cmpI (hi x) (hi y)) = cmpI x y := by
  have hx := hl x; have hy := hl y
  have lx := lo_bd x; have ly := lo_bd y
  generalize hi x = a at *; generalize hi y = b at *; generalize lo x = c at *; generalize lo y = d at *
  have e : ∀ u v : Int, (u < v ∧ cmpI u v = -1) ∨ (u = v ∧ cmpI u v = 0) ∨ (v < u ∧ cmpI u v = 1) := by
    intro u v; unfold cmpI; split <;> (try split) <;> omega
  have e1 := e a b; have e2 := e c d; have e3 := e x y
  split <;> omega

end Go.Proofs.Ytlfchlholabijaa
