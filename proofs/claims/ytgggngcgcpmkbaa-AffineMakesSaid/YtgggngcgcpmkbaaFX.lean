/- The document's answers for package fix (umbraref02): roots, products of any numbers, what lies between. -/
import Derived.Test.YtgggngcgcpmkbaaFV
namespace Go.Proofs.Ytgggngcgcpmkbaa
set_option linter.unusedVariables false
set_option maxRecDepth 2000
open Go.RowKit
attribute [local go_sem] setCell_twice setCell_pair

end Go.Proofs.Ytgggngcgcpmkbaa
