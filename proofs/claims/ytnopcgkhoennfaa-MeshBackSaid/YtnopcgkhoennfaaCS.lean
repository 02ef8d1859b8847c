/- The document's Xor. -/
import Derived.Test.YtnopcgkhoennfaaCR
import Derived.Test.YtnopcgkhoennfaaCP
import Derived.LoopN
import Derived.LoopTactic
import Derived.Deep.Onto
import Derived.Laws.OwnMore
namespace Go.Proofs.Ytnopcgkhoennfaa
set_option linter.unusedVariables false
set_option maxRecDepth 2000
set_option linter.unusedSimpArgs false
open Go.RowKit

end Go.Proofs.Ytnopcgkhoennfaa
