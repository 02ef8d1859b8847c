/- The tables of SHA-256, as the row lists them: what they give the walks; a world that holds them. -/
import Derived.Test.YtajejlaoompieaaDoorRows
import Derived.Test.YtajejlaoompieaaDoorPC
import Derived.Test.YtajejlaoompieaaDoorHB
import Derived.WalkKit
import Derived.ProofKit
import Derived.OpenShut
import Derived.LaidMore
import Derived.LaidLaws
import Derived.LaidHandle
import Derived.MakeChecks
import Derived.Lib.LaidTab
namespace Go.Proofs.YtajejlaoompieaaDoor
set_option linter.unusedVariables false
set_option maxRecDepth 2000
set_option linter.unusedSimpArgs false
open Go.ChangeShapes Go.WideShapes Go.ChangeAt Go.RowKit Go.Joins Go.Deep
def laidL : List (String × DataW Unit) := [("umbra/sha.initial", Rows.laid_umbra_sha_initial), ("umbra/sha.k", Rows.laid_umbra_sha_k)]
theorem u16_wf {z : Int} (h : (Lit.int .u16 z).wf = true) : 0 ≤ z ∧ z < 65536 := by
  have : 0 ≤ z ∧ z ≤ 65535 := by simpa [Lit.wf, IntKind.min, IntKind.max, IntKind.signed, IntKind.bits] using h
  omega
theorem gK : Tryd.prog.globalNamed "umbra/sha.k" = some 0 := by kernel_rfl
theorem tK : (Tryd.prog.globals[0]?).map (·.type) = some 32 := by kernel_rfl
theorem gI : Tryd.prog.globalNamed "umbra/sha.initial" = some 1 := by kernel_rfl
theorem tI : (Tryd.prog.globals[1]?).map (·.type) = some 28 := by kernel_rfl
set_option maxRecDepth 100000 in
theorem door_met (os : Os) (args : Array Value) : laidMetH Tryd.prog laidL ((World.doorLaid Tryd.prog 400 os).forCall (fun _ _ => 0) ⟨#[], args, []⟩).memory :=
  laidMetH_of_parts3 (fuel := 8) (laidMet_of_run' 8 (by kernel_rfl) (by kernel_rfl)) (by kernel_rfl) (by kernel_rfl)
theorem has_var {W : World} {name : String} {g n : Nat} {cs : Array Value} {f : Nat → Int} (hg : Tryd.prog.globalNamed name = some g) (hv : W.var? Tryd.prog name = some cs) (hc : cs.toList = nums .u32 f n) : Has g 0 (nums .u32 f n) W := by
  have hcell : ∀ j v, (nums .u32 f n)[j]? = some v → W.cell? ⟨g, 0 + j, none⟩ = some v := fun j v hj => by
    rw [Nat.zero_add, World.var?_cell hg hv j, ← hj, ← hc]
    simp
  refine ⟨?_, hcell⟩
  have hv2 := hv
  simp only [World.var?, hg, Option.bind_some] at hv2
  split at hv2
  · rename_i hq
    exact (Array.getElem?_eq_some_iff.1 hq).1
  · cases hv2
theorem of_laid {W : World} (h : laidMetH Tryd.prog laidL W) : Has 0 0 (nums .u32 kC 64) W ∧ Has 1 0 (nums .u32 hC 8) W := by
  rw [MakeChecks.laidMetH_plain _ _ _ (by kernel_rfl)] at h
  obtain ⟨ps, ⟨g1, t1, cs1, f1, p1, q1, hg1, ht1, hv1, hd1, ⟨g0, t0, cs0, f0, p0, q0, hg0, ht0, hv0, hd0, _, _⟩, _⟩, _, _⟩ := h
  obtain rfl := Option.some.inj (gK.symm.trans hg0)
  obtain rfl := Option.some.inj (tK.symm.trans ht0)
  obtain rfl := Option.some.inj (gI.symm.trans hg1)
  obtain rfl := Option.some.inj (tI.symm.trans ht1)
  have c1 : Tryd.prog.cellsOf 27 = 1 := by kernel_rfl
  have c8 : Tryd.prog.cellsOf 28 = 8 := by kernel_rfl
  have c64 : Tryd.prog.cellsOf 32 = 64 := by kernel_rfl
  have e0 := Lib.cells_of_tab (zs := [1116352408, 1899447441, 3049323471, 3921009573, 961987163, 1508970993, 2453635748, 2870763221, 3624381080, 310598401, 607225278, 1426881987, 1925078388, 2162078206, 2614888103, 3248222580, 3835390401, 4022224774, 264347078, 604807628, 770255983, 1249150122, 1555081692, 1996064986, 2554220882, 2821834349, 2952996808, 3210313671, 3336571891, 3584528711, 113926993, 338241895, 666307205, 773529912, 1294757372, 1396182291, 1695183700, 1986661051, 2177026350, 2456956037, 2730485921, 2820302411, 3259730800, 3345764771, 3516065817, 3600352804, 4094571909, 275423344, 430227734, 506948616, 659060556, 883997877, 958139571, 1322822218, 1537002063, 1747873779, 1955562222, 2024104815, 2227730452, 2361852424, 2428436474, 2756734187, 3204031479, 3329325298]) Tryd.underlying32 Tryd.underlying27 c1 c64 (p := p0) (by rw [hd0]; rfl)
  have e1 := Lib.cells_of_tab (zs := [1779033703, 3144134277, 1013904242, 2773480762, 1359893119, 2600822924, 528734635, 1541459225]) Tryd.underlying28 Tryd.underlying27 c1 c8 (p := p1) (by rw [hd1]; rfl)
  exact ⟨has_var gK hv0 (e0.trans (by kernel_rfl)), has_var gI hv1 (e1.trans (by kernel_rfl))⟩
end Go.Proofs.YtajejlaoompieaaDoor
