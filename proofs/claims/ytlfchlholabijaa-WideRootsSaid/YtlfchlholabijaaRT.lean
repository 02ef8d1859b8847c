/- umbralaw01.WideMakes: the walk. -/
import Derived.Test.YtlfchlholabijaaRQ
import Derived.Test.YtlfchlholabijaaKA
import Derived.Test.YtlfchlholabijaaWW
import Derived.Deep.DeepCutAuto
import Derived.Deep.RegionHeld3
namespace Go.Proofs.Ytlfchlholabijaa
set_option linter.unusedVariables false
set_option maxRecDepth 2000
set_option linter.unusedSimpArgs false
open Go.RowKit
attribute [local go_sem] setCell_twice setCell_pair
attribute [local go_sem ↓] eqW neqW

end Go.Proofs.Ytlfchlholabijaa
