/- The document's numbers: Less. -/
import Derived.Test.YtgggngcgcpmkbaaRG
namespace Go.Proofs.Ytgggngcgcpmkbaa
set_option linter.unusedVariables false
set_option maxRecDepth 2000
set_option linter.unusedSimpArgs false
open Go.RowKit
attribute [local go_sem] setCell_twice setCell_pair

theorem NumR.sign {w : World} {b : Bool} {p : Option Addr} {n c : Nat} {z : Int} (h : NumR w (.agg #[.bool b, .slice p n c]) z) :
    (n = 0 ∧ z = 0) ∨ (n ≠ 0 ∧ b = true ∧ z < 0) ∨ (n ≠ 0 ∧ b = false ∧ 0 < z) := by
  obtain ⟨b', s, ds, e, hs, hd, hc, _, rfl⟩ := h
  cases e
  have hl := hs.len.1
  by_cases h0 : n = 0
  · have : ds = [] := List.length_eq_zero_iff.1 (by omega)
    subst this
    refine .inl ⟨h0, ?_⟩
    cases b <;> simp [val]
  · have hp : 0 < val ds := by
      rcases hc with rfl | hc
      · simp at hl; omega
      obtain ⟨k, hk⟩ : ∃ k, ds.length = k + 1 := ⟨ds.length - 1, by omega⟩
      rw [val_V ds (k + 1) (by omega), V]
      rw [hk, Nat.add_sub_cancel] at hc
      have h1 := V_lt (fun i => ds.getD i 0) k hd
      have h2 := hd k
      have h3 : (0 : Int) < 65536 ^ k := Int.pow_pos (by omega)
      have h4 : 1 * (65536 : Int) ^ k ≤ ds.getD k 0 * 65536 ^ k := Int.mul_le_mul_of_nonneg_right (by omega) (by omega)
      omega
    cases b
    · exact .inr (.inr ⟨h0, rfl, by simpa using hp⟩)
    · exact .inr (.inl ⟨h0, rfl, by simp; omega⟩)

end Go.Proofs.Ytgggngcgcpmkbaa
