/- The chapter's example: works; == of four numbers. -/
import Derived.Test.YtbhdlpndmbhaiaaCC
import Derived.LoopN
import Derived.LoopTactic
namespace Go.Proofs.Ytbhdlpndmbhaiaa
set_option linter.unusedVariables false
set_option maxRecDepth 2000
set_option linter.unusedSimpArgs false
open Go.RowKit

end Go.Proofs.Ytbhdlpndmbhaiaa
