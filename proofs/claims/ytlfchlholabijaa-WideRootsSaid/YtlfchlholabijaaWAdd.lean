/- wide.Add: the sum from left to right. -/
import Derived.Test.YtlfchlholabijaaWJ
import Derived.LoopTactic
namespace Go.Proofs.Ytlfchlholabijaa
set_option linter.unusedVariables false
set_option maxRecDepth 2000
open Go.RowKit
attribute [local go_sem] setCell_twice setCell_pair

def inW (z : Int) : Bool := decide (-170141183460469231731687303715884105728 ≤ z ∧ z < 170141183460469231731687303715884105728)
theorem inW_iff (z : Int) : inW z = true ↔ (-170141183460469231731687303715884105728 ≤ z ∧ z < 170141183460469231731687303715884105728) := by unfold inW; exact decide_eq_true_iff
/-- the sum from left to right, as long as each partial one is a wide number -/
def addR : Int → List Int → Option Int
  | s, [] => some s
  | s, z :: l => if inW (s + z) then addR (s + z) l else none
/-- what Add tells -/
def addV : Option Int → Value
  | some s => .tuple #[(.agg #[.int .i64 (hi (s)), .int .u64 (lo (s))]), .bool true]
  | none => .tuple #[.agg #[.int .i64 0, .int .u64 0], .bool false]

theorem addR_step (s : Int) (zs : List Int) (k : Nat) (h : k < zs.length) : addR s (zs.drop k) = if inW (s + zs.getD k 0) then addR (s + zs.getD k 0) (zs.drop (k + 1)) else none := by
  rw [List.drop_eq_getElem_cons h, addR]
  have e : zs.getD k 0 = zs[k] := by simp [h]
  rw [e]

end Go.Proofs.Ytlfchlholabijaa
