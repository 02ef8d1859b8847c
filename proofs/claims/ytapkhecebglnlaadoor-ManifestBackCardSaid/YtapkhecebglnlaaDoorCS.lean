/- The document's Xor. -/
import Derived.Test.YtapkhecebglnlaaDoorCR
import Derived.Test.YtapkhecebglnlaaDoorCP
import Derived.LoopN
import Derived.LoopTactic
import Derived.Deep.Onto
import Derived.Laws.OwnMore
namespace Go.Proofs.YtapkhecebglnlaaDoor
set_option linter.unusedVariables false
set_option maxRecDepth 2000
set_option linter.unusedSimpArgs false
open Go.RowKit

end Go.Proofs.YtapkhecebglnlaaDoor
