/- The document's Stream. -/
import Derived.Test.YtbhdlpndmbhaiaaCO
import Derived.Test.YtbhdlpndmbhaiaaCK
import Derived.LoopN
import Derived.LoopTactic
import Derived.Deep.WholeRow
import Derived.Deep.Onto
namespace Go.Proofs.Ytbhdlpndmbhaiaa
set_option linter.unusedVariables false
set_option maxRecDepth 2000
set_option linter.unusedSimpArgs false
open Go.RowKit
attribute [local go_sem] nums_length
theorem own_tag {w : World} {X T : Nat} {L : List Value} (h : w.heap[X]? = some (.cells L.toArray T (0, 0))) : Own X L w where
  lt := (Array.getElem?_eq_some_iff.1 h).1
  cell := fun j v hv => by rw [Nat.zero_add, cell_of_row w X j L.toArray T (0, 0) h]; simpa using hv
  free := fun j hj => by
    rw [Nat.zero_add, cell_of_row w X j L.toArray T (0, 0) h]
    exact ⟨by simp [hj], frozen_of_row w X j L.toArray T h⟩
theorem tag_ne {w : World} {X T base size n : Nat} {e : TypeId} {cur : Array Value} {v : Value} {xs : List Value} (h : w.heap[X]? = some (.cells cur T (0, 0))) (hr : w.ownsRow base e size v n xs) (ht : T ≠ e) : v.ownBlock ≠ some X := by
  rcases hr.2 with ⟨rfl, _⟩ | ⟨g, cap, cur', rfl, _, hg, _⟩
  · simp [Value.ownBlock]
  · simp only [Value.ownBlock, ne_eq, Option.some.injEq]
    rintro rfl
    rw [hg] at h
    simp only [Option.some.injEq, Obj.cells.injEq] at h
    exact ht h.2.1.symm

end Go.Proofs.Ytbhdlpndmbhaiaa
