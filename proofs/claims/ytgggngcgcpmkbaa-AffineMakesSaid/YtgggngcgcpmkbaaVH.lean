/- vec.Length: the walk. -/
import Derived.Test.YtgggngcgcpmkbaaVE
import Derived.Test.YtgggngcgcpmkbaaWAdd
import Derived.Deep.RegionHeld3
namespace Go.Proofs.Ytgggngcgcpmkbaa
set_option linter.unusedVariables false
set_option maxRecDepth 2000
set_option linter.unusedSimpArgs false
open Go.RowKit
attribute [local go_sem] setCell_twice setCell_pair

/-- three cells of a block -/
structure Cells3 (A : Nat) (x y z : Int) (W : World) : Prop where
  lt : A < W.heap.size
  a0 : W.cell? ⟨A, 0, none⟩ = some (.int .i64 x)
  a1 : W.cell? ⟨A, 1, none⟩ = some (.int .i64 y)
  a2 : W.cell? ⟨A, 2, none⟩ = some (.int .i64 z)
theorem Cells3.at3 {A : Nat} {x y z : Int} {W W' : World} (h : Cells3 A x y z W) (hb : Below W.heap.size W W') :
    W'.cell? ⟨A, 0, none⟩ = some (.int .i64 x) ∧ W'.cell? ⟨A, 1, none⟩ = some (.int .i64 y) ∧ W'.cell? ⟨A, 2, none⟩ = some (.int .i64 z) :=
  ⟨by rw [hb.cell (p := ⟨A, 0, none⟩) h.lt]; exact h.a0, by rw [hb.cell (p := ⟨A, 1, none⟩) h.lt]; exact h.a1, by rw [hb.cell (p := ⟨A, 2, none⟩) h.lt]; exact h.a2⟩

/-- three wide numbers in a block -/
structure Wides3 (b : Nat) (h0 l0 h1 l1 h2 l2 : Int) (W : World) : Prop where
  lt : b < W.heap.size
  c0 : W.cell? ⟨b, 0, none⟩ = some (.int .i64 h0)
  c1 : W.cell? ⟨b, 1, none⟩ = some (.int .u64 l0)
  c2 : W.cell? ⟨b, 2, none⟩ = some (.int .i64 h1)
  c3 : W.cell? ⟨b, 3, none⟩ = some (.int .u64 l1)
  c4 : W.cell? ⟨b, 4, none⟩ = some (.int .i64 h2)
  c5 : W.cell? ⟨b, 5, none⟩ = some (.int .u64 l2)

end Go.Proofs.Ytgggngcgcpmkbaa
