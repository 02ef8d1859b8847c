/- bytes.Equal of two slices that hold the same. -/
import Derived.Test.YtbhdlpndmbhaiaaCQ
import Derived.Deep.QuietTactic
import Derived.Laws.BytesString
import Derived.Shelf.Bytes.SlSmallAll
namespace Go.Proofs.Ytbhdlpndmbhaiaa
set_option linter.unusedVariables false
set_option maxRecDepth 2000
set_option linter.unusedSimpArgs false
open Go.RowKit
theorem conv_any (q : Option Addr) (n c : Nat) (f : Nat → Int) (w : World) (h : Byt w q n f) :
    (convert 26 9 (.slice q n c)).run Try.prog w = .ok (.string (strOfNums ((List.range n).map f))) w := by
  by_cases hn : n = 0
  · subst hn
    exact run_convert_bytes_zero w 26 5 Try.underlying26 Try.underlying5 q c 9 Try.underlying9
  · obtain ⟨b, off, rfl, hb⟩ := h.resolve_left hn
    exact run_convert_bytes_arg (P := Try.prog) w 26 5 Try.underlying26 Try.underlying5 b off n c ((List.range n).map f) (by simp) (fun i hi => by
      rw [hb.cell i _ (nums_at _ _ hi)]
      simp [hi]) 9 Try.underlying9

theorem Equal_any (q1 q2 : Option Addr) (n c1 c2 : Nat) (f : Nat → Int) (w : World) (h1 : Byt w q1 n f) (h2 : Byt w q2 n f) : Calls Try.prog 13 #[.slice q1 n c1, .slice q2 n c2] w fun e w' => e = .returned (.bool true) ∧ Below w.heap.size w w' := by
  have e1 := conv_any q1 n c1 f w h1
  have e2 := conv_any q2 n c2 f w h2
  generalize strOfNums ((List.range n).map f) = S at *
  clear h1 h2
  go_enter Try.func13, Try.ntmps13
  go_wp2_with (fail)
  go_ret
  exact ⟨rfl, Below.refl _ _⟩
end Go.Proofs.Ytbhdlpndmbhaiaa
