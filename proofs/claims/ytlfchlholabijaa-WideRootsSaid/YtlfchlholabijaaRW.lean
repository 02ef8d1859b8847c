/- umbraref01.Div: the quotient of the document. -/
import Derived.Test.YtlfchlholabijaaRU
import Derived.Deep.DeepCutAuto
namespace Go.Proofs.Ytlfchlholabijaa
set_option linter.unusedVariables false
set_option maxRecDepth 2000
set_option linter.unusedSimpArgs false
open Go.RowKit
attribute [local go_sem] setCell_twice setCell_pair
theorem div_uniq (z d q r q' r' : Int) (e : z = d * q + r) (e' : z = d * q' + r') (hd : d ≠ 0) (hp : 0 < d → 0 ≤ r ∧ r < d) (hm : d < 0 → d < r ∧ r ≤ 0) (hp' : 0 < d → 0 ≤ r' ∧ r' < d) (hm' : d < 0 → d < r' ∧ r' ≤ 0) : q' = q ∧ r' = r := by
  by_cases h : 0 < d
  · have a := (Int.ediv_emod_unique (a := z) (b := d) (r := r) (q := q) h).2 ⟨by omega, (hp h).1, (hp h).2⟩
    have b := (Int.ediv_emod_unique (a := z) (b := d) (r := r') (q := q') h).2 ⟨by omega, (hp' h).1, (hp' h).2⟩
    exact ⟨b.1.symm.trans a.1, b.2.symm.trans a.2⟩
  · have h2 : d < 0 := by omega
    have h3 : 0 < -d := by omega
    have x := hm h2
    have x' := hm' h2
    have a := (Int.ediv_emod_unique (a := -z) (b := -d) (r := -r) (q := q) h3).2 ⟨by rw [Int.neg_mul]; omega, by omega, by omega⟩
    have b := (Int.ediv_emod_unique (a := -z) (b := -d) (r := -r') (q := q') h3).2 ⟨by rw [Int.neg_mul]; omega, by omega, by omega⟩
    exact ⟨b.1.symm.trans a.1, by have := b.2.symm.trans a.2; omega⟩
end Go.Proofs.Ytlfchlholabijaa
