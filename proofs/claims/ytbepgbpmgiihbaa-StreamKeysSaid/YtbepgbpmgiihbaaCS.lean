/- The document's Xor. -/
import Derived.Test.YtbepgbpmgiihbaaCR
import Derived.Test.YtbepgbpmgiihbaaCP
import Derived.LoopN
import Derived.LoopTactic
import Derived.Deep.Onto
import Derived.Laws.OwnMore
namespace Go.Proofs.Ytbepgbpmgiihbaa
set_option linter.unusedVariables false
set_option maxRecDepth 2000
set_option linter.unusedSimpArgs false
open Go.RowKit

end Go.Proofs.Ytbepgbpmgiihbaa
