/- The document's Xor. -/
import Derived.Test.YtbhdlpndmbhaiaaCR
import Derived.Test.YtbhdlpndmbhaiaaCP
import Derived.LoopN
import Derived.LoopTactic
import Derived.Deep.Onto
import Derived.Laws.OwnMore
namespace Go.Proofs.Ytbhdlpndmbhaiaa
set_option linter.unusedVariables false
set_option maxRecDepth 2000
set_option linter.unusedSimpArgs false
open Go.RowKit

end Go.Proofs.Ytbhdlpndmbhaiaa
