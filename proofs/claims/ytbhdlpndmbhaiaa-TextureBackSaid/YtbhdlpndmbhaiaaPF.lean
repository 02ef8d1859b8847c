/- A slice of bytes among the arguments, opened. -/
import Derived.Test.YtbhdlpndmbhaiaaPE
import Derived.Test.YtbhdlpndmbhaiaaPS
namespace Go.Proofs.Ytbhdlpndmbhaiaa
set_option linter.unusedVariables false
set_option maxRecDepth 2000
set_option linter.unusedSimpArgs false
open Go.ChangeShapes Go.WideShapes Go.ChangeAt Go.RowKit Go.Joins Go.Deep
def isB (cs : List Value) : Prop := ∃ z : Int, cs = [.int .u8 z] ∧ inB z
theorem cs_byte {H : Type} {enc : TypeId × Value → H} {w : World} {base : Nat} {spare : Nat → Bool} {held : Bool} {fuel : Nat} {cs : List Value} {x : DataW H × List MemPlace}
    (h : DataW.trod enc Try.prog w base spare held fuel 5 cs = some x) : isB cs := by
  obtain ⟨z, e, _, wz⟩ := DataW.trod_int Try.underlying5 h
  exact ⟨z, e, u8_wf wz⟩
theorem byt_take {w : World} {q : Option Addr} {n m : Nat} {f : Nat → Int} (h : Byt w q n f) (hm : m ≤ n) : Byt w q m f := by
  by_cases h0 : m = 0
  · exact .inl h0
  · obtain ⟨b, off, h1, h2⟩ := h.resolve_left (by omega)
    refine .inr ⟨b, off, h1, h2.lt, fun j v hj => ?_⟩
    have hjm : j < m := by
      have := (List.getElem?_eq_some_iff.1 hj).1
      rwa [nums_length] at this
    rw [nums_at _ _ hjm] at hj
    exact h2.cell j v ((nums_at _ _ (by omega)).trans hj)
theorem sl_byt {w : World} {p : Option Addr} {n cap : Nat} {f : Nat → List Value} (h : Sl w p n cap 1 f isB) : ∃ g : Nat → Int, Byt w p n g ∧ ∀ j, j < n → inB (g j) := by
  have ch : ∀ k, ∃ z : Int, k < n → f k = [.int .u8 z] ∧ inB z := fun k => by
    by_cases hk : k < n
    · obtain ⟨z, hz⟩ := h.q k hk
      exact ⟨z, fun _ => hz⟩
    · exact ⟨0, fun e => absurd e hk⟩
  refine ⟨fun k => Classical.choose (ch k), ?_, fun j hj => (Classical.choose_spec (ch j) hj).2⟩
  rcases h.row with h0 | ⟨blk, off, hp, hb, hr⟩
  · exact .inl h0
  · refine .inr ⟨blk, off, hp, hb, fun j v hj => ?_⟩
    have hjn : j < n := by
      have := (List.getElem?_eq_some_iff.1 hj).1
      rwa [nums_length] at this
    rw [nums_at _ _ hjn] at hj
    have hc := hr j hjn
    rw [(Classical.choose_spec (ch j) hjn).1, Nat.mul_one] at hc
    exact hc.cell 0 v hj
end Go.Proofs.Ytbhdlpndmbhaiaa
