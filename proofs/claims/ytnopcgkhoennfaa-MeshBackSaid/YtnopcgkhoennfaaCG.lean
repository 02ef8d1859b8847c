/- The document's State. -/
import Derived.Test.YtnopcgkhoennfaaCF
import Derived.LoopN
import Derived.LoopTactic
namespace Go.Proofs.Ytnopcgkhoennfaa
set_option linter.unusedVariables false
set_option maxRecDepth 2000
set_option linter.unusedSimpArgs false
open Go.RowKit
end Go.Proofs.Ytnopcgkhoennfaa
