/- The table of a round's indexes, as the row lists it: what it gives the walks; a world that holds it. -/
import Derived.Test.YtbepgbpmgiihbaaDoorRows
import Derived.Test.YtbepgbpmgiihbaaDoorPC
import Derived.Test.YtbepgbpmgiihbaaDoorCH
import Derived.WalkKit
import Derived.ProofKit
import Derived.OpenShut
import Derived.LaidMore
import Derived.LaidLaws
import Derived.LaidHandle
import Derived.MakeChecks
import Derived.Lib.LaidTab
namespace Go.Proofs.YtbepgbpmgiihbaaDoor
set_option linter.unusedVariables false
set_option maxRecDepth 2000
set_option linter.unusedSimpArgs false
open Go.ChangeShapes Go.WideShapes Go.ChangeAt Go.RowKit Go.Joins Go.Deep
def laidL : List (String × DataW Unit) := [("umbra/chacha.groups", Rows.laid_umbra_chacha_groups)]
theorem gGroups : Tryd.prog.globalNamed "umbra/chacha.groups" = some 0 := by kernel_rfl
theorem tGroups : (Tryd.prog.globals[0]?).map (·.type) = some 60 := by kernel_rfl
set_option maxRecDepth 100000 in
theorem door_met (os : Os) (args : Array Value) : laidMetH Tryd.prog laidL ((World.doorLaid Tryd.prog 400 os).forCall (fun _ _ => 0) ⟨#[], args, []⟩).memory :=
  laidMetH_of_parts3 (fuel := 8) (laidMet_of_run' 8 (by kernel_rfl) (by kernel_rfl)) (by kernel_rfl) (by kernel_rfl)
theorem split8 (l : List Value) (h : l.length = 32) : l = (l.drop 0).take 4 ++ ((l.drop 4).take 4 ++ ((l.drop 8).take 4 ++ ((l.drop 12).take 4 ++ ((l.drop 16).take 4 ++ ((l.drop 20).take 4 ++ ((l.drop 24).take 4 ++ (l.drop 28).take 4)))))) := by
  apply List.ext_getElem?
  intro j
  simp only [List.getElem?_append, List.getElem?_take, List.getElem?_drop, List.length_take, List.length_drop, h]
  repeat' split
  all_goals first | rfl | (congr 1; omega) | (exfalso; omega) | (rw [List.getElem?_eq_none (by omega)])
theorem of_laid {W : World} (h : laidMetH Tryd.prog laidL W) : Has 0 0 GL W := by
  rw [MakeChecks.laidMetH_plain _ _ _ (by kernel_rfl)] at h
  obtain ⟨ps, ⟨g0, t0, cs0, f0, p0, q0, hg0, ht0, hv0, hd0, _, _⟩, _, _⟩ := h
  obtain rfl := Option.some.inj (gGroups.symm.trans hg0)
  obtain rfl := Option.some.inj (tGroups.symm.trans ht0)
  obtain ⟨xs, m, rfl, hx, hlen, hn, hel⟩ := DataW.trod_array Tryd.underlying60 hd0
  have c4 : Tryd.prog.cellsOf 23 = 4 := by kernel_rfl
  have c1 : Tryd.prog.cellsOf 3 = 1 := by kernel_rfl
  have c32 : Tryd.prog.cellsOf 60 = 32 := by kernel_rfl
  rw [c32] at hlen
  rw [c4] at hel
  simp only [Prod.mk.injEq] at hx
  have hx1 := hx.1
  match xs, hn, hx1, hel with
  | [x0, x1, x2, x3, x4, x5, x6, x7], _, hx1, hel =>
    simp only [Rows.laid_umbra_chacha_groups, DataW.agg.injEq, List.map_cons, List.map_nil, List.cons.injEq] at hx1
    obtain ⟨y0, y1, y2, y3, y4, y5, y6, y7, _⟩ := hx1
    have z0 := Lib.cells_of_tab (zs := [0, 4, 8, 12]) Tryd.underlying23 Tryd.underlying3 c1 c4 (by rw [hel 0 (by decide)]; show some x0 = _; rw [show x0 = (Lib.tabData .i64 [0, 4, 8, 12], x0.2) from Prod.ext y0.symm rfl])
    have z1 := Lib.cells_of_tab (zs := [1, 5, 9, 13]) Tryd.underlying23 Tryd.underlying3 c1 c4 (by rw [hel 1 (by decide)]; show some x1 = _; rw [show x1 = (Lib.tabData .i64 [1, 5, 9, 13], x1.2) from Prod.ext y1.symm rfl])
    have z2 := Lib.cells_of_tab (zs := [2, 6, 10, 14]) Tryd.underlying23 Tryd.underlying3 c1 c4 (by rw [hel 2 (by decide)]; show some x2 = _; rw [show x2 = (Lib.tabData .i64 [2, 6, 10, 14], x2.2) from Prod.ext y2.symm rfl])
    have z3 := Lib.cells_of_tab (zs := [3, 7, 11, 15]) Tryd.underlying23 Tryd.underlying3 c1 c4 (by rw [hel 3 (by decide)]; show some x3 = _; rw [show x3 = (Lib.tabData .i64 [3, 7, 11, 15], x3.2) from Prod.ext y3.symm rfl])
    have z4 := Lib.cells_of_tab (zs := [0, 5, 10, 15]) Tryd.underlying23 Tryd.underlying3 c1 c4 (by rw [hel 4 (by decide)]; show some x4 = _; rw [show x4 = (Lib.tabData .i64 [0, 5, 10, 15], x4.2) from Prod.ext y4.symm rfl])
    have z5 := Lib.cells_of_tab (zs := [1, 6, 11, 12]) Tryd.underlying23 Tryd.underlying3 c1 c4 (by rw [hel 5 (by decide)]; show some x5 = _; rw [show x5 = (Lib.tabData .i64 [1, 6, 11, 12], x5.2) from Prod.ext y5.symm rfl])
    have z6 := Lib.cells_of_tab (zs := [2, 7, 8, 13]) Tryd.underlying23 Tryd.underlying3 c1 c4 (by rw [hel 6 (by decide)]; show some x6 = _; rw [show x6 = (Lib.tabData .i64 [2, 7, 8, 13], x6.2) from Prod.ext y6.symm rfl])
    have z7 := Lib.cells_of_tab (zs := [3, 4, 9, 14]) Tryd.underlying23 Tryd.underlying3 c1 c4 (by rw [hel 7 (by decide)]; show some x7 = _; rw [show x7 = (Lib.tabData .i64 [3, 4, 9, 14], x7.2) from Prod.ext y7.symm rfl])
    have e : cs0.toList = GL := by
      rw [split8 cs0.toList hlen]
      simp only [Nat.zero_mul, Nat.one_mul, Nat.reduceMul] at z0 z1 z2 z3 z4 z5 z6 z7
      rw [z0, z1, z2, z3, z4, z5, z6, z7]
      rfl
    have hc : ∀ j v, GL[j]? = some v → W.cell? ⟨0, 0 + j, none⟩ = some v := fun j v hj => by
      rw [Nat.zero_add, World.var?_cell hg0 hv0 j, ← hj, ← e]
      simp
    refine ⟨?_, hc⟩
    have hv := hv0
    simp only [World.var?, gGroups, Option.bind_some] at hv
    split at hv
    · rename_i hq
      exact (Array.getElem?_eq_some_iff.1 hq).1
    · cases hv
end Go.Proofs.YtbepgbpmgiihbaaDoor
