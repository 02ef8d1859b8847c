/- umbraref01.Add: the sum of the document. -/
import Derived.Test.YtlfchlholabijaaRT
import Derived.LoopTactic
namespace Go.Proofs.Ytlfchlholabijaa
set_option linter.unusedVariables false
set_option maxRecDepth 2000
set_option linter.unusedSimpArgs false
open Go.RowKit
attribute [local go_sem] setCell_twice setCell_pair

theorem ToWide_v (v : Value) (y : Int) (w : World) (ha : NumR w v y) (y1 : (y.natAbs : Int) < SMALL) :
    Calls Try.prog 5 #[v] w fun e w' => e = .returned (.tuple #[if inW y then (.agg #[.int .i64 (hi (y)), .int .u64 (lo (y))]) else .agg #[.int .i64 0, .int .u64 0], .bool (inW y)]) ∧ Below w.heap.size w w' := by
  obtain ⟨b, p, n, c, rfl⟩ := ha.form
  exact ToWide_any b p n c y w ha y1

end Go.Proofs.Ytlfchlholabijaa
