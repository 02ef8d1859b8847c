/- The document's State. -/
import Derived.Test.YtbhdlpndmbhaiaaCF
import Derived.LoopN
import Derived.LoopTactic
namespace Go.Proofs.Ytbhdlpndmbhaiaa
set_option linter.unusedVariables false
set_option maxRecDepth 2000
set_option linter.unusedSimpArgs false
open Go.RowKit
end Go.Proofs.Ytbhdlpndmbhaiaa
