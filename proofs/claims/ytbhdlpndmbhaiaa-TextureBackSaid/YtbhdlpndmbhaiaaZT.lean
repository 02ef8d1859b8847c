/- A texture among the arguments, opened. -/
import Derived.Test.YtbhdlpndmbhaiaaPC
import Derived.Test.YtbhdlpndmbhaiaaPS
import Derived.Test.YtbhdlpndmbhaiaaST
import Derived.Test.YtbhdlpndmbhaiaaMUA
import Derived.WalkKit
import Derived.ProofKit
import Derived.OpenShut
import Derived.ChangeSlices
import Derived.ChangeSame
namespace Go.Proofs.Ytbhdlpndmbhaiaa
set_option linter.unusedVariables false
set_option maxRecDepth 2000
set_option linter.unusedSimpArgs false
open Go.ChangeShapes Go.WideShapes Go.ChangeAt Go.RowKit Go.Joins Go.Deep
theorem split2_ (l : List Value) (h : l.length = 2) : l = (l.drop 0).take 1 ++ (l.drop 1).take 1 := by
  match l, h with
  | [a, b], _ => rfl
theorem cs_tex {H : Type} {enc : TypeId × Value → H} {w : World} {base : Nat} {spare : Nat → Bool} {held : Bool} {fuel : Nat} {cs : List Value} {x : DataW H × List MemPlace}
    (h : DataW.trod enc Try.prog w base spare held fuel 24 cs = some x) : ∃ M : Txr, cs = [.int .i64 M.S, .slice M.q M.n M.c] ∧ TxAt M w := by
  obtain ⟨xs, n, _, rfl, hl, hlen, hf⟩ := DataW.trod_struct Try.underlying24 h
  have cS : Try.prog.cellsOf 24 = 2 := by kernel_rfl
  have c0 : Try.prog.cellsOf 3 = 1 := by kernel_rfl
  have c1 : Try.prog.cellsOf 22 = 1 := by kernel_rfl
  rw [cS] at hl
  match xs, hlen with
  | [y0, y1], _ =>
    have h0 : DataW.trod enc Try.prog w base spare held n 3 ((cs.drop 0).take (Try.prog.cellsOf 3)) = some y0 := hf 0 _ rfl
    rw [c0] at h0
    have h1 : DataW.trod enc Try.prog w base spare held n 22 ((cs.drop 1).take (Try.prog.cellsOf 22)) = some y1 := hf 1 _ rfl
    rw [c1] at h1
    obtain ⟨S, e0, _, _⟩ := DataW.trod_int Try.underlying3 h0
    obtain ⟨q, m, c, f, e1, a1, b1, n1⟩ := cs_nms (S := 3) Try.underlying22 (by kernel_rfl) (by decide) (fun _ _ _ h => cs_ints3 h) h1
    refine ⟨⟨S, q, m, c, f⟩, ?_, ⟨n1, a1, b1⟩⟩
    have e := split2_ cs hl
    rw [e0, e1] at e
    exact e
theorem open_tex {H : Type} {enc : TypeId × Value → H} {w : World} {base : Nat} {spare : Nat → Bool} {held : Bool} {r : Reach} {b0 : Nat} {v : Value} {d : DataW H} {p : List MemPlace}
    (hv : Value.okWide Try.prog w r b0 24 v) (h : DataW.Trod enc Try.prog w base spare held 24 v d p) : ∃ M : Txr, v = .agg #[.int .i64 M.S, .slice M.q M.n M.c] ∧ TxAt M w := by
  obtain ⟨cs, rfl, hsz⟩ := okWide_struct Try.underlying24 hv
  obtain ⟨fuel, hf⟩ := h
  obtain ⟨M, e, ha⟩ := cs_tex hf
  refine ⟨M, ?_, ha⟩
  simp only [Value.cells] at e
  rw [show cs = cs.toList.toArray from by simp, e]
end Go.Proofs.Ytbhdlpndmbhaiaa
