/- The document's State. -/
import Derived.Test.YtljngnemiaklhaaCF
import Derived.LoopN
import Derived.LoopTactic
namespace Go.Proofs.Ytljngnemiaklhaa
set_option linter.unusedVariables false
set_option maxRecDepth 2000
set_option linter.unusedSimpArgs false
open Go.RowKit
end Go.Proofs.Ytljngnemiaklhaa
