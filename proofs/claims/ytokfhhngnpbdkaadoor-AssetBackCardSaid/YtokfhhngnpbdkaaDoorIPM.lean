/- The caps, as the rows list them: what they give the walks; a world that holds them. -/
import Derived.Test.YtokfhhngnpbdkaaDoorRows
import Derived.Test.YtokfhhngnpbdkaaDoorMB0
import Derived.Test.YtokfhhngnpbdkaaDoorGA2
import Derived.WalkKit
import Derived.ProofKit
import Derived.OpenShut
import Derived.ChangeSame
import Derived.LaidMore
import Derived.LaidLaws
import Derived.LaidHandle
import Derived.MakeChecks
import Derived.Lib.LaidTab
namespace Go.Proofs.YtokfhhngnpbdkaaDoor
set_option linter.unusedVariables false
set_option maxRecDepth 2000
set_option linter.unusedSimpArgs false
open Go.ChangeShapes Go.WideShapes Go.ChangeAt Go.RowKit Go.Joins Go.Deep
def laidL : List (String × DataW Unit) := [("umbra/manifest.caps", Rows.laid_umbra_manifest_caps)]
theorem gCaps : Tryd.prog.globalNamed "umbra/manifest.caps" = some 0 := by kernel_rfl
theorem tCaps : (Tryd.prog.globals[0]?).map (·.type) = some 93 := by kernel_rfl
theorem door_met (os : Os) (args : Array Value) : laidMetH Tryd.prog laidL ((World.doorLaid Tryd.prog 400 os).forCall (fun _ _ => 0) ⟨#[], args, []⟩).memory :=
  laidMetH_of_parts3 (fuel := 8) (laidMet_of_run' 8 (by kernel_rfl) (by kernel_rfl)) (by kernel_rfl) (by kernel_rfl)
theorem has_var {W : World} {name : String} {g : Nat} {cs : Array Value} {l : List Value} (hg : Tryd.prog.globalNamed name = some g) (hv : W.var? Tryd.prog name = some cs) (hc : cs.toList = l) : Has g 0 l W := by
  have hcell : ∀ j v, l[j]? = some v → W.cell? ⟨g, 0 + j, none⟩ = some v := fun j v hj => by
    rw [Nat.zero_add, World.var?_cell hg hv j, ← hj, ← hc]
    simp
  refine ⟨?_, hcell⟩
  have hv2 := hv
  simp only [World.var?, hg, Option.bind_some] at hv2
  split at hv2
  · rename_i hq
    exact (Array.getElem?_eq_some_iff.1 hq).1
  · cases hv2
theorem of_laid {W : World} (h : laidMetH Tryd.prog laidL W) : Has 0 0 CapL W := by
  rw [MakeChecks.laidMetH_plain _ _ _ (by kernel_rfl)] at h
  obtain ⟨ps, ⟨g0, t0, cs0, f0, p0, q0, hg0, ht0, hv0, hd0, _, _⟩, _, _⟩ := h
  obtain rfl := Option.some.inj (gCaps.symm.trans hg0)
  obtain rfl := Option.some.inj (tCaps.symm.trans ht0)
  have c1 : Tryd.prog.cellsOf 3 = 1 := by kernel_rfl
  have c5 : Tryd.prog.cellsOf 93 = 5 := by kernel_rfl
  have e0 := Lib.cells_of_tab (zs := [0, 2048, 1024, 64, 64]) Tryd.underlying93 Tryd.underlying3 c1 c5 (p := p0) (by rw [hd0]; rfl)
  exact has_var gCaps hv0 (e0.trans (by kernel_rfl))
end Go.Proofs.YtokfhhngnpbdkaaDoor
