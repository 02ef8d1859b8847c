/- A key and a nonce among the arguments, opened. -/
import Derived.Test.YtjkeaiihjbcfgaaDoorYPC
import Derived.Test.YtjkeaiihjbcfgaaDoorYEM
import Derived.WalkKit
import Derived.ProofKit
import Derived.OpenShut
import Derived.ChangeSame
namespace Go.Proofs.YtjkeaiihjbcfgaaDoor
set_option linter.unusedVariables false
set_option maxRecDepth 2000
set_option linter.unusedSimpArgs false
open Go.ChangeShapes Go.WideShapes Go.ChangeAt Go.RowKit Go.Joins Go.Deep
theorem split44 (l : List Value) (h : l.length = 44) : l = (l.drop 0).take 32 ++ (l.drop 32).take 12 := by
  apply List.ext_getElem?
  intro j
  simp only [List.getElem?_append, List.getElem?_take, List.getElem?_drop, List.length_take, List.length_drop, h]
  repeat' split
  all_goals first | rfl | (congr 1; omega) | (exfalso; omega) | (rw [List.getElem?_eq_none (by omega)])
theorem open_seed8 {H : Type} {enc : TypeId × Value → H} {w : World} {base : Nat} {spare : Nat → Bool} {held : Bool} {r : Reach} {b0 : Nat} {v : Value} {d : DataW H} {p : List MemPlace}
    (hv : Value.okWide Tryd.prog w r b0 25 v) (h : DataW.Trod enc Tryd.prog w base spare held 25 v d p) :
    ∃ kf nf, v = .agg (seedC2 kf nf).toArray ∧ (∀ i, i < 32 → inB (kf i)) ∧ (∀ i, i < 12 → inB (nf i)) := by
  obtain ⟨cs, rfl, hsz⟩ := okWide_struct Tryd.underlying25 hv
  obtain ⟨fuel, hf⟩ := h
  simp only [Value.cells] at hf
  obtain ⟨y0, y1, m, _, hl, h0, h1⟩ := trod_struct2 Tryd.underlying25 hf
  have cS : Tryd.prog.cellsOf 25 = 44 := by kernel_rfl
  have cK : Tryd.prog.cellsOf 22 = 32 := by kernel_rfl
  have cN : Tryd.prog.cellsOf 23 = 12 := by kernel_rfl
  have c1 : Tryd.prog.cellsOf 5 = 1 := by kernel_rfl
  rw [cS] at hl
  simp only [cK] at h0
  simp only [cN] at h1
  obtain ⟨zk, lk, ek, wk⟩ := trod_arr Tryd.underlying22 Tryd.underlying5 c1 cK h0
  obtain ⟨zn, ln, en, wn_⟩ := trod_arr Tryd.underlying23 Tryd.underlying5 c1 cN h1
  refine ⟨fun i => zk.getD i 0, fun i => zn.getD i 0, ?_, fun i hi => ?_, fun i hi => ?_⟩
  · have e := split44 cs.toList hl
    rw [ek, en, map_nums, map_nums, lk, ln] at e
    rw [show cs = cs.toList.toArray from by simp, e]
    rfl
  · have hk : i < zk.length := by omega
    have := u8_wf (wk (zk.getD i 0) (by simp [hk]))
    exact this
  · have hk : i < zn.length := by omega
    have := u8_wf (wn_ (zn.getD i 0) (by simp [hk]))
    exact this
end Go.Proofs.YtjkeaiihjbcfgaaDoor
