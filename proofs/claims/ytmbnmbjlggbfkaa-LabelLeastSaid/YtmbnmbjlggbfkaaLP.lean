/- Arguments opened: slices of numbers of 32 bits, and of manifests. -/
import Derived.Test.YtmbnmbjlggbfkaaLC
import Derived.Test.YtmbnmbjlggbfkaaPC
import Derived.Test.YtmbnmbjlggbfkaaPS
import Derived.Test.YtmbnmbjlggbfkaaGU
namespace Go.Proofs.Ytmbnmbjlggbfkaa
set_option linter.unusedVariables false
set_option maxRecDepth 2000
set_option linter.unusedSimpArgs false
open Go.ChangeShapes Go.WideShapes Go.ChangeAt Go.RowKit Go.Joins Go.Deep
def isU (cs : List Value) : Prop := ∃ z : Int, cs = [.int .u32 z] ∧ inU z
theorem cs_u {H : Type} {enc : TypeId × Value → H} {w : World} {base : Nat} {spare : Nat → Bool} {held : Bool} {fuel : Nat} {cs : List Value} {x : DataW H × List MemPlace}
    (h : DataW.trod enc Try.prog w base spare held fuel 23 cs = some x) : isU cs := by
  obtain ⟨z, e, _, wz⟩ := DataW.trod_int Try.underlying23 h
  exact ⟨z, e, u32_wf wz⟩
theorem sl_u {w : World} {p : Option Addr} {n cap : Nat} {f : Nat → List Value} (h : Sl w p n cap 1 f isU) : ∃ g : Nat → Int, U32s w p n g ∧ ∀ j, j < n → inU (g j) := by
  have ch : ∀ i, ∃ z : Int, i < n → f i = [.int .u32 z] ∧ inU z := fun i => by
    by_cases hk : i < n
    · obtain ⟨z, hz⟩ := h.q i hk
      exact ⟨z, fun _ => hz⟩
    · exact ⟨0, fun e => absurd e hk⟩
  refine ⟨fun i => Classical.choose (ch i), ?_, fun j hj => (Classical.choose_spec (ch j) hj).2⟩
  rcases h.row with h0 | ⟨blk, off, hp, hb, hr⟩
  · exact .inl h0
  · refine .inr ⟨blk, off, hp, hb, fun j hj => ?_⟩
    have hc := hr j hj
    rw [(Classical.choose_spec (ch j) hj).1, Nat.mul_one] at hc
    exact hc.cell 0 _ rfl
def isMn (cs : List Value) : Prop := ∃ f t : Int, IsMan cs f t
theorem cs_mn {H : Type} {enc : TypeId × Value → H} {w : World} {base : Nat} {spare : Nat → Bool} {held : Bool} {fuel : Nat} {cs : List Value} {x : DataW H × List MemPlace}
    (h : DataW.trod enc Try.prog w base spare held fuel 37 cs = some x) : isMn cs := by
  obtain ⟨mi, mk, ml, mg, mf, mt, ms, mc, e, _⟩ := cs_man h
  exact ⟨mf, mt, mi, mk, ml, mg, ms, mc, e⟩
theorem sl_mn {w : World} {p : Option Addr} {n cap : Nat} {f : Nat → List Value} (h : Sl w p n cap 15 f isMn) : ∃ F T : Nat → Int, Mans w p n F T := by
  have ch : ∀ i, ∃ z : Int × Int, i < n → IsMan (f i) z.1 z.2 := fun i => by
    by_cases hk : i < n
    · obtain ⟨a, b, hz⟩ := h.q i hk
      exact ⟨(a, b), fun _ => hz⟩
    · exact ⟨(0, 0), fun e => absurd e hk⟩
  refine ⟨fun i => (Classical.choose (ch i)).1, fun i => (Classical.choose (ch i)).2, ?_⟩
  rcases h.row with h0 | ⟨blk, off, hp, hb, hr⟩
  · exact .inl h0
  · exact .inr ⟨blk, off, hp, hb, fun j hj => ⟨f j, Classical.choose_spec (ch j) hj, hr j hj⟩⟩
end Go.Proofs.Ytmbnmbjlggbfkaa
