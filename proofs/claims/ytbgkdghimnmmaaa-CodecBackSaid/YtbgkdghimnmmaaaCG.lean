/- The document's State. -/
import Derived.Test.YtbgkdghimnmmaaaCF
import Derived.LoopN
import Derived.LoopTactic
namespace Go.Proofs.Ytbgkdghimnmmaaa
set_option linter.unusedVariables false
set_option maxRecDepth 2000
set_option linter.unusedSimpArgs false
open Go.RowKit
end Go.Proofs.Ytbgkdghimnmmaaa
