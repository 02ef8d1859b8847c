/- ChachaBack: the walk. -/
import Derived.Test.YtbhdlpndmbhaiaaCU
import Derived.Test.YtbhdlpndmbhaiaaCR
import Derived.Deep.Onto
namespace Go.Proofs.Ytbhdlpndmbhaiaa
set_option linter.unusedVariables false
set_option maxRecDepth 2000
set_option linter.unusedSimpArgs false
open Go.RowKit
attribute [local go_sem ↓ high] sliced_head sliced_one
/-- a slice of n bytes of f -/
def RowR (w : World) (v : Value) (n : Nat) (f : Nat → Int) : Prop := ∃ q c, v = .slice q n c ∧ n ≤ c ∧ c ≤ 9223372036854775807 ∧ Byt w q n f
theorem RowR.later {w w' : World} {B : Nat} {v : Value} {n : Nat} {f : Nat → Int} (h : RowR w v n f) (hb : Below B w w') (hB : w.heap.size ≤ B) : RowR w' v n f := by
  obtain ⟨q, c, h1, h2, h3, h4⟩ := h
  exact ⟨q, c, h1, h2, h3, h4.later (hb.mono hB)⟩
theorem RowR.of {w : World} {base n : Nat} {e : TypeId} {v : Value} {f : Nat → Int} (h : w.ownsRow base e 1 v n (nums .u8 f n)) : RowR w v n f := by
  obtain ⟨q, c, rfl, hc⟩ := row_form h
  refine ⟨q, c, rfl, hc, ?_, (byt_row h).2⟩
  rcases h.2 with ⟨h0, _⟩ | ⟨g, cap, cur, h0, _, _, _, hm, _⟩
  · cases h0; decide
  · cases h0; unfold maxLen at hm; omega
/-- one part -/
def T1 (m k : Nat) : Nat := if k = 0 then 0 else m
theorem parts_one {w : World} {S m : Nat} {v : Value} {f : Nat → Int} (h : Own S [v] w) (hr : RowR w v m f) : Parts w (some ⟨S, 0, none⟩) 1 f (T1 m) := fun k hk => by
  obtain rfl : k = 0 := by omega
  obtain ⟨q, c, rfl, h2, h3, h4⟩ := hr
  refine ⟨S, 0, q, m, c, rfl, h.lt, h.at 0 _ rfl, h2, h3, ?_, ?_⟩
  · simp [T1]
  · simpa [T1] using h4
end Go.Proofs.Ytbhdlpndmbhaiaa
