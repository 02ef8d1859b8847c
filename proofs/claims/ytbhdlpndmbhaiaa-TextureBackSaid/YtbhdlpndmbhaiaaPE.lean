/- A key, a counter and a nonce among the arguments, opened. -/
import Derived.Test.YtbhdlpndmbhaiaaPC
import Derived.Test.YtbhdlpndmbhaiaaCU
import Derived.WalkKit
import Derived.ProofKit
import Derived.OpenShut
import Derived.ChangeSame
namespace Go.Proofs.Ytbhdlpndmbhaiaa
set_option linter.unusedVariables false
set_option maxRecDepth 2000
set_option linter.unusedSimpArgs false
open Go.ChangeShapes Go.WideShapes Go.ChangeAt Go.RowKit Go.Joins Go.Deep
theorem split3 (l : List Value) (h : l.length = 45) : l = (l.drop 0).take 32 ++ ((l.drop 32).take 1 ++ (l.drop 33).take 12) := by
  apply List.ext_getElem?
  intro j
  simp only [List.getElem?_append, List.getElem?_take, List.getElem?_drop, List.length_take, List.length_drop, h]
  repeat' split
  all_goals first | rfl | (congr 1; omega) | (exfalso; omega) | (rw [List.getElem?_eq_none (by omega)])
end Go.Proofs.Ytbhdlpndmbhaiaa
