/- umbralaw03.VecScales, VecProducts, VecUnits: the walks. -/
import Derived.Test.YtgggngcgcpmkbaaVL
import Derived.Deep.RegionHeld3
namespace Go.Proofs.Ytgggngcgcpmkbaa
set_option linter.unusedVariables false
set_option maxRecDepth 2000
set_option linter.unusedSimpArgs false
open Go.RowKit
attribute [local go_sem] setCell_twice setCell_pair

/-- cells that are known, and stay -/
def CellsL (l : List (Nat × Int)) (A : Nat) (W : World) : Prop := A < W.heap.size ∧ ∀ p, p ∈ l → W.cell? ⟨A, p.1, none⟩ = some (.int .i64 p.2)
theorem CellsL.later {l : List (Nat × Int)} {A : Nat} {W W' : World} (h : CellsL l A W) (hb : Below W.heap.size W W') : CellsL l A W' :=
  ⟨Nat.lt_of_lt_of_le h.1 hb.size, fun p hp => by rw [hb.cell (p := ⟨A, p.1, none⟩) h.1]; exact h.2 p hp⟩
theorem CellsL.three {x y z : Int} {A : Nat} {W : World} (h : CellsL [(0, x), (1, y), (2, z)] A W) :
    W.cell? ⟨A, 0, none⟩ = some (.int .i64 x) ∧ W.cell? ⟨A, 1, none⟩ = some (.int .i64 y) ∧ W.cell? ⟨A, 2, none⟩ = some (.int .i64 z) :=
  ⟨h.2 (0, x) (by simp), h.2 (1, y) (by simp), h.2 (2, z) (by simp)⟩
theorem CellsL.of {x y z : Int} {A : Nat} {W : World} (h : A < W.heap.size) (h0 : W.cell? ⟨A, 0, none⟩ = some (.int .i64 x)) (h1 : W.cell? ⟨A, 1, none⟩ = some (.int .i64 y)) (h2 : W.cell? ⟨A, 2, none⟩ = some (.int .i64 z)) : CellsL [(0, x), (1, y), (2, z)] A W :=
  ⟨h, fun p hp => by
    simp only [List.mem_cons, List.not_mem_nil, or_false] at hp
    rcases hp with rfl | rfl | rfl
    · exact h0
    · exact h1
    · exact h2⟩

end Go.Proofs.Ytgggngcgcpmkbaa
