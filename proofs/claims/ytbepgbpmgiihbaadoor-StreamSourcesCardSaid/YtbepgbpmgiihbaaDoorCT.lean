/- bytes.Equal of two slices that hold the same. -/
import Derived.Test.YtbepgbpmgiihbaaDoorCQ
import Derived.Deep.QuietTactic
import Derived.Laws.BytesString
import Derived.Shelf.Bytes.SlSmallAll
namespace Go.Proofs.YtbepgbpmgiihbaaDoor
set_option linter.unusedVariables false
set_option maxRecDepth 2000
set_option linter.unusedSimpArgs false
open Go.RowKit
theorem conv_any (q : Option Addr) (n c : Nat) (f : Nat → Int) (w : World) (h : Byt w q n f) :
    (convert 42 9 (.slice q n c)).run Tryd.prog w = .ok (.string (strOfNums ((List.range n).map f))) w := by
  by_cases hn : n = 0
  · subst hn
    exact run_convert_bytes_zero w 42 5 Tryd.underlying42 Tryd.underlying5 q c 9 Tryd.underlying9
  · obtain ⟨b, off, rfl, hb⟩ := h.resolve_left hn
    exact run_convert_bytes_arg (P := Tryd.prog) w 42 5 Tryd.underlying42 Tryd.underlying5 b off n c ((List.range n).map f) (by simp) (fun i hi => by
      rw [hb.cell i _ (nums_at _ _ hi)]
      simp [hi]) 9 Tryd.underlying9

end Go.Proofs.YtbepgbpmgiihbaaDoor
