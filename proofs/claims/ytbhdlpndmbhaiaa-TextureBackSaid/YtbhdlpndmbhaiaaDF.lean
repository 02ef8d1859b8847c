/- codec: the document's Signed. -/
import Derived.Test.YtbhdlpndmbhaiaaDE
import Derived.Lib.Hide
import Derived.LoopN
import Derived.LoopTactic
import Derived.Deep.Onto
import Derived.Deep.QuietTactic
import Derived.BigQuiet
namespace Go.Proofs.Ytbhdlpndmbhaiaa
set_option linter.unusedVariables false
set_option maxRecDepth 2000
set_option linter.unusedSimpArgs false
open Go.RowKit
attribute [local go_sem] nums_length
theorem nm_row {w : World} {base n : Nat} {e : TypeId} {k : IntKind} {q : Option Addr} {m c : Nat} {f : Nat → Int} (h : w.ownsRow base e 1 (.slice q m c) n (nums k f n)) : m = n ∧ Nm w k q n f := by
  rcases h.2 with ⟨h0, rfl⟩ | ⟨g, cap, cur, h0, _, hg, _⟩
  · cases h0; exact ⟨rfl, .inl rfl⟩
  · cases h0; exact ⟨rfl, .inr ⟨g, 0, rfl, (row_has h).1⟩⟩
theorem infoQ : (Try.prog.info? 57).map (fun i => (i.zero, i.size, i.bytes)) = some (some (.int .u64 0), 1, 8) := by kernel_rfl
theorem infoQ_parts : ∃ i, Try.prog.info? 57 = some i ∧ i.zero = some (.int .u64 0) ∧ i.size = 1 ∧ i.bytes = 8 := by
  obtain ⟨i, hi, h⟩ := Option.map_eq_some_iff.1 infoQ
  simp only [Prod.mk.injEq] at h
  exact ⟨i, hi, h.1, h.2.1, h.2.2⟩
/-- what the document writes for a number with a sign -/
def upU (W : Nat) (z : Int) : Int := if z < 0 then pw W + z else z
theorem up_fit (W : Nat) (z : Int) (h : fitS W z = true) : 0 ≤ upU W z ∧ fitU W (upU W z) = true := by
  have hp := pw_pos W
  simp only [fitS, fitU, decide_eq_true_eq] at *
  unfold upU
  by_cases hz : z < 0
  · rw [if_pos hz]; omega
  · rw [if_neg hz]; omega
theorem up_dg (W i : Nat) (z : Int) (h : i < W) : dg (upU W z) i = dg z i := by
  unfold upU
  split
  · exact dg_add z W i h
  · rfl

end Go.Proofs.Ytbhdlpndmbhaiaa
