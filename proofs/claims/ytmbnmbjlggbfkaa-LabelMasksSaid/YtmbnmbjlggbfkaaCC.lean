/- A quarter of a round, and the document's. -/
import Derived.Test.YtmbnmbjlggbfkaaCB
namespace Go.Proofs.Ytmbnmbjlggbfkaa
set_option linter.unusedVariables false
set_option maxRecDepth 2000
set_option linter.unusedSimpArgs false
open Go.RowKit

end Go.Proofs.Ytmbnmbjlggbfkaa
