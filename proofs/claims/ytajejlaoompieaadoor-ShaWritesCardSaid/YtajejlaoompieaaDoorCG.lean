/- The document's State. -/
import Derived.Test.YtajejlaoompieaaDoorCF
import Derived.LoopN
import Derived.LoopTactic
namespace Go.Proofs.YtajejlaoompieaaDoor
set_option linter.unusedVariables false
set_option maxRecDepth 2000
set_option linter.unusedSimpArgs false
open Go.RowKit
end Go.Proofs.YtajejlaoompieaaDoor
