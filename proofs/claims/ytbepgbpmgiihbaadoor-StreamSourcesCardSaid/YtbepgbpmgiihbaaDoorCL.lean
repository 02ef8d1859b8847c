/- The chapter's example: works; == of four numbers. -/
import Derived.Test.YtbepgbpmgiihbaaDoorCC
import Derived.LoopN
import Derived.LoopTactic
namespace Go.Proofs.YtbepgbpmgiihbaaDoor
set_option linter.unusedVariables false
set_option maxRecDepth 2000
set_option linter.unusedSimpArgs false
open Go.RowKit

theorem eql4 (a0 a1 a2 a3 b0 b1 b2 b3 : Int) (w : World) : (Op.equalIn 10000 61 (.agg #[.int .u32 a0, .int .u32 a1, .int .u32 a2, .int .u32 a3]) (.agg #[.int .u32 b0, .int .u32 b1, .int .u32 b2, .int .u32 b3])).run Tryd.prog w = .ok (decide (a0 = b0 ∧ a1 = b1 ∧ a2 = b2 ∧ a3 = b3)) w := by
    rw [show (10000 : Nat) = 9998 + 2 from rfl, Op.equalIn]
    simp only [Sem.run_bind, run_underlying Tryd.underlying61, Result.andThen_ok]
    by_cases e0 : a0 = b0 <;> by_cases e1 : a1 = b1 <;> by_cases e2 : a2 = b2 <;> by_cases e3 : a3 = b3 <;> simp [go_sem, List.range', e0, e1, e2, e3]

end Go.Proofs.YtbepgbpmgiihbaaDoor
