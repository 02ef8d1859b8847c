/- A key, a counter and a nonce among the arguments, opened. -/
import Derived.Test.YtbcpoohoclobpaaDoorPC
import Derived.Test.YtbcpoohoclobpaaDoorCU
import Derived.WalkKit
import Derived.ProofKit
import Derived.OpenShut
import Derived.ChangeSame
namespace Go.Proofs.YtbcpoohoclobpaaDoor
set_option linter.unusedVariables false
set_option maxRecDepth 2000
set_option linter.unusedSimpArgs false
open Go.ChangeShapes Go.WideShapes Go.ChangeAt Go.RowKit Go.Joins Go.Deep
theorem split3 (l : List Value) (h : l.length = 45) : l = (l.drop 0).take 32 ++ ((l.drop 32).take 1 ++ (l.drop 33).take 12) := by
  apply List.ext_getElem?
  intro j
  simp only [List.getElem?_append, List.getElem?_take, List.getElem?_drop, List.length_take, List.length_drop, h]
  repeat' split
  all_goals first | rfl | (congr 1; omega) | (exfalso; omega) | (rw [List.getElem?_eq_none (by omega)])
theorem open_seed {H : Type} {enc : TypeId × Value → H} {w : World} {base : Nat} {spare : Nat → Bool} {held : Bool} {r : Reach} {b0 : Nat} {v : Value} {d : DataW H} {p : List MemPlace}
    (hv : Value.okWide Tryd.prog w r b0 32 v) (h : DataW.Trod enc Tryd.prog w base spare held 32 v d p) :
    ∃ kf c nf, v = .agg (seedC kf c nf).toArray ∧ (∀ i, i < 32 → inB (kf i)) ∧ in32 c ∧ (∀ i, i < 12 → inB (nf i)) := by
  obtain ⟨cs, rfl, hsz⟩ := okWide_struct Tryd.underlying32 hv
  obtain ⟨fuel, hf⟩ := h
  simp only [Value.cells] at hf
  obtain ⟨y0, y1, y2, m, _, hl, h0, h1, h2⟩ := trod_struct3 Tryd.underlying32 hf
  have cS : Tryd.prog.cellsOf 32 = 45 := by kernel_rfl
  have cK : Tryd.prog.cellsOf 22 = 32 := by kernel_rfl
  have cC : Tryd.prog.cellsOf 23 = 1 := by kernel_rfl
  have cN : Tryd.prog.cellsOf 24 = 12 := by kernel_rfl
  have c1 : Tryd.prog.cellsOf 5 = 1 := by kernel_rfl
  rw [cS] at hl
  simp only [cK] at h0
  simp only [cC] at h1
  simp only [cN] at h2
  obtain ⟨zk, lk, ek, wk⟩ := trod_arr Tryd.underlying22 Tryd.underlying5 c1 cK h0
  obtain ⟨c, ec, _, wc⟩ := DataW.trod_int Tryd.underlying23 h1
  obtain ⟨zn, ln, en, wn⟩ := trod_arr Tryd.underlying24 Tryd.underlying5 c1 cN h2
  refine ⟨fun i => zk.getD i 0, c, fun i => zn.getD i 0, ?_, fun i hi => ?_, u32_wf wc, fun i hi => ?_⟩
  · have e := split3 cs.toList hl
    rw [ek, ec, en, map_nums, map_nums, lk, ln] at e
    rw [show cs = cs.toList.toArray from by simp, e]
    rfl
  · have hk : i < zk.length := by omega
    have := u8_wf (wk (zk.getD i 0) (by simp [hk]))
    exact this
  · have hk : i < zn.length := by omega
    have := u8_wf (wn (zn.getD i 0) (by simp [hk]))
    exact this
end Go.Proofs.YtbcpoohoclobpaaDoor
