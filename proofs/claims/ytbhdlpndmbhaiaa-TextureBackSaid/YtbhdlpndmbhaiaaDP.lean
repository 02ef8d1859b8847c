/- Arguments opened: slices of whole numbers of 64 bits. -/
import Derived.Test.YtbhdlpndmbhaiaaDC
import Derived.Test.YtbhdlpndmbhaiaaPF
import Derived.Test.YtbhdlpndmbhaiaaPJ
namespace Go.Proofs.Ytbhdlpndmbhaiaa
set_option linter.unusedVariables false
set_option maxRecDepth 2000
set_option linter.unusedSimpArgs false
open Go.ChangeShapes Go.WideShapes Go.ChangeAt Go.RowKit Go.Joins Go.Deep
theorem nm_take {w : World} {k : IntKind} {q : Option Addr} {n m : Nat} {f : Nat → Int} (h : Nm w k q n f) (hm : m ≤ n) : Nm w k q m f := by
  by_cases h0 : m = 0
  · exact .inl h0
  · obtain ⟨b, off, h1, h2⟩ := h.resolve_left (by omega)
    exact .inr ⟨b, off, h1, has_take h2 hm⟩
theorem sl_nm {w : World} {p : Option Addr} {n cap : Nat} {f : Nat → List Value} {k : IntKind} {B : Int → Prop} (h : Sl w p n cap 1 f (fun cs => ∃ z : Int, cs = [.int k z] ∧ B z)) : ∃ g : Nat → Int, Nm w k p n g ∧ ∀ j, j < n → B (g j) := by
  have ch : ∀ i, ∃ z : Int, i < n → f i = [.int k z] ∧ B z := fun i => by
    by_cases hk : i < n
    · obtain ⟨z, hz⟩ := h.q i hk
      exact ⟨z, fun _ => hz⟩
    · exact ⟨0, fun e => absurd e hk⟩
  refine ⟨fun i => Classical.choose (ch i), ?_, fun j hj => (Classical.choose_spec (ch j) hj).2⟩
  rcases h.row with h0 | ⟨blk, off, hp, hb, hr⟩
  · exact .inl h0
  · refine .inr ⟨blk, off, hp, hb, fun j v hj => ?_⟩
    have hjn : j < n := by
      have := (List.getElem?_eq_some_iff.1 hj).1
      rwa [nums_length] at this
    rw [nums_at _ _ hjn] at hj
    have hc := hr j hjn
    rw [(Classical.choose_spec (ch j) hjn).1, Nat.mul_one] at hc
    exact hc.cell 0 v hj
def isQ (cs : List Value) : Prop := ∃ z : Int, cs = [.int .u64 z] ∧ (0 ≤ z ∧ z ≤ 18446744073709551615)
def isI (cs : List Value) : Prop := ∃ z : Int, cs = [.int .i64 z] ∧ (-9223372036854775808 ≤ z ∧ z ≤ 9223372036854775807)
theorem cs_q {H : Type} {enc : TypeId × Value → H} {w : World} {base : Nat} {spare : Nat → Bool} {held : Bool} {fuel : Nat} {cs : List Value} {x : DataW H × List MemPlace}
    (h : DataW.trod enc Try.prog w base spare held fuel 57 cs = some x) : isQ cs := by
  obtain ⟨z, e, _, wz⟩ := DataW.trod_int Try.underlying57 h
  exact ⟨z, e, by have := u64_wf wz; omega⟩
theorem cs_i {H : Type} {enc : TypeId × Value → H} {w : World} {base : Nat} {spare : Nat → Bool} {held : Bool} {fuel : Nat} {cs : List Value} {x : DataW H × List MemPlace}
    (h : DataW.trod enc Try.prog w base spare held fuel 3 cs = some x) : isI cs := by
  obtain ⟨z, e, _, wz⟩ := DataW.trod_int Try.underlying3 h
  exact ⟨z, e, i64_wf' wz⟩
end Go.Proofs.Ytbhdlpndmbhaiaa
