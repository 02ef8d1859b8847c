/- umbraref06.quarter. -/
import Derived.Test.YtbhdlpndmbhaiaaCH
import Derived.LoopN
import Derived.LoopTactic
import Derived.Deep.RegionHeld3
namespace Go.Proofs.Ytbhdlpndmbhaiaa
set_option linter.unusedVariables false
set_option maxRecDepth 2000
set_option linter.unusedSimpArgs false
open Go.RowKit

end Go.Proofs.Ytbhdlpndmbhaiaa
