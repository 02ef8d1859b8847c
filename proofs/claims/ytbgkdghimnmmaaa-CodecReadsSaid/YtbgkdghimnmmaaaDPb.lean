/- A list of questions (pairs of whole numbers as structs) among the arguments, opened. -/
import Derived.Test.YtbgkdghimnmmaaaDP
import Derived.Test.YtbgkdghimnmmaaaDR
namespace Go.Proofs.Ytbgkdghimnmmaaa
set_option linter.unusedVariables false
set_option maxRecDepth 2000
set_option linter.unusedSimpArgs false
open Go.ChangeShapes Go.WideShapes Go.ChangeAt Go.RowKit Go.Joins Go.Deep
def isAsk (cs : List Value) : Prop := ∃ x y : Int, cs = [.int .i64 x, .int .i64 y] ∧ (-9223372036854775808 ≤ x ∧ x ≤ 9223372036854775807) ∧ -9223372036854775808 ≤ y ∧ y ≤ 9223372036854775807
theorem cs_two {H : Type} {enc : TypeId × Value → H} {P : Program} {w : World} {base : Nat} {spare : Nat → Bool} {held : Bool} {t : TypeId} {f0 f1 : Field} {fuel : Nat} {cs : List Value} {x : DataW H × List MemPlace}
    (hs : P.underlying t = some (.struct #[f0, f1])) (hone : oneCellFields P #[f0, f1] = true) (hC : P.cellsOf t = 2)
    (k0 : P.underlying f0.type = some (.int .i64)) (k1 : P.underlying f1.type = some (.int .i64)) (h : DataW.trod enc P w base spare held fuel t cs = some x) : isAsk cs := by
  obtain ⟨y0, y1, m, _, hl, h0, h1⟩ := trod_struct2 hs h
  rw [hC] at hl
  obtain ⟨v0, v1, rfl⟩ := list_2 hl
  obtain ⟨o0, q0⟩ := hone_of hone 0 f0 rfl
  obtain ⟨o1, q1⟩ := hone_of hone 1 f1 rfl
  obtain ⟨p, e0, _, w0⟩ := DataW.trod_int k0 (by simpa [o0, q0] using h0)
  obtain ⟨q, e1, _, w1⟩ := DataW.trod_int k1 (by simpa [o1, q1] using h1)
  simp at e0 e1
  subst e0 e1
  exact ⟨p, q, rfl, i64_wf' w0, i64_wf' w1⟩
theorem cs_ask {H : Type} {enc : TypeId × Value → H} {w : World} {base : Nat} {spare : Nat → Bool} {held : Bool} {fuel : Nat} {cs : List Value} {x : DataW H × List MemPlace}
    (h : DataW.trod enc Try.prog w base spare held fuel 45 cs = some x) : isAsk cs :=
  cs_two Try.underlying45 (by kernel_rfl) (by kernel_rfl) Try.underlying3 Try.underlying3 h
theorem sl_ask {w : World} {p : Option Addr} {n cap : Nat} {f : Nat → List Value} (h : Sl w p n cap 2 f isAsk) : ∃ gx gy, AskL w p n gx gy ∧ ∀ k, k < n → gy k ≤ 9223372036854775807 := by
  have ch : ∀ k, ∃ z : Int × Int, k < n → f k = [.int .i64 z.1, .int .i64 z.2] ∧ z.2 ≤ 9223372036854775807 := fun k => by
    by_cases hk : k < n
    · obtain ⟨x, y, h1, _, h2⟩ := h.q k hk
      exact ⟨(x, y), fun _ => ⟨h1, h2.2⟩⟩
    · exact ⟨(0, 0), fun e => absurd e hk⟩
  refine ⟨fun k => (Classical.choose (ch k)).1, fun k => (Classical.choose (ch k)).2, fun k hk => ?_, fun k hk => (Classical.choose_spec (ch k) hk).2⟩
  rcases h.row with h0 | ⟨blk, off, hp, hb, hr⟩
  · omega
  · refine ⟨blk, off, hp, ?_⟩
    have h1 := hr k hk
    rwa [(Classical.choose_spec (ch k) hk).1] at h1
end Go.Proofs.Ytbgkdghimnmmaaa
