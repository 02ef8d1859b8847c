/- The document's Block. -/
import Derived.Test.YtbhdlpndmbhaiaaCJ
import Derived.LoopN
import Derived.LoopTactic
import Derived.Deep.WholeRow
import Derived.Deep.RegionHeld3
namespace Go.Proofs.Ytbhdlpndmbhaiaa
set_option linter.unusedVariables false
set_option maxRecDepth 2000
set_option linter.unusedSimpArgs false
open Go.RowKit
attribute [local go_sem] nums_length
end Go.Proofs.Ytbhdlpndmbhaiaa
