/- A word out of memory, and the document's. -/
import Derived.Test.YtbhdlpndmbhaiaaCD
import Derived.LoopN
import Derived.LoopTactic
namespace Go.Proofs.Ytbhdlpndmbhaiaa
set_option linter.unusedVariables false
set_option maxRecDepth 2000
set_option linter.unusedSimpArgs false
open Go.RowKit
theorem conv_u8 (b : Int) (h : inB b) : b % 4294967296 = b ∧ IntKind.u32.wrap b = b := by
  unfold inB at h
  rw [IntKind.wrap_u32']
  omega

end Go.Proofs.Ytbhdlpndmbhaiaa
