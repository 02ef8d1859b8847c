/- A list of pairs of whole numbers among the arguments, opened. -/
import Derived.Test.YtbepgbpmgiihbaaDoorPC
import Derived.Test.YtbepgbpmgiihbaaDoorPS
import Derived.Test.YtbepgbpmgiihbaaDoorJL
namespace Go.Proofs.YtbepgbpmgiihbaaDoor
set_option linter.unusedVariables false
set_option maxRecDepth 2000
set_option linter.unusedSimpArgs false
open Go.ChangeShapes Go.WideShapes Go.ChangeAt Go.RowKit Go.Joins Go.Deep
/-- two whole numbers -/
def isP (cs : List Value) : Prop := ∃ x y : Int, cs = [.int .i64 x, .int .i64 y] ∧ inI x ∧ inI y
theorem cs_pair {H : Type} {enc : TypeId × Value → H} {w : World} {base : Nat} {spare : Nat → Bool} {held : Bool} {fuel : Nat} {cs : List Value} {x : DataW H × List MemPlace}
    (h : DataW.trod enc Tryd.prog w base spare held fuel 28 cs = some x) : isP cs := by
  obtain ⟨zs, hl, rfl, hw⟩ := trod_arr Tryd.underlying28 Tryd.underlying3 (by kernel_rfl) (by kernel_rfl) h
  match zs, hl, hw with
  | [a, b], _, hw => exact ⟨a, b, rfl, i64_wfc (hw a (by simp)), i64_wfc (hw b (by simp))⟩
theorem sl_asks {w : World} {p : Option Addr} {n cap : Nat} {f : Nat → List Value} (h : Sl w p n cap 2 f isP) : ∃ gx gy, Asks w p n gx gy ∧ ∀ k, k < n → inI (gx k) ∧ inI (gy k) := by
  have ch : ∀ k, ∃ z : Int × Int, k < n → f k = [.int .i64 z.1, .int .i64 z.2] ∧ inI z.1 ∧ inI z.2 := fun k => by
    by_cases hk : k < n
    · obtain ⟨x, y, h1, h2⟩ := h.q k hk
      exact ⟨(x, y), fun _ => ⟨h1, h2⟩⟩
    · exact ⟨(0, 0), fun e => absurd e hk⟩
  refine ⟨fun k => (Classical.choose (ch k)).1, fun k => (Classical.choose (ch k)).2, fun k hk => ?_, fun k hk => (Classical.choose_spec (ch k) hk).2⟩
  rcases h.row with h0 | ⟨blk, off, hp, hb, hr⟩
  · omega
  · refine ⟨blk, off, hp, ?_⟩
    have h1 := hr k hk
    rwa [(Classical.choose_spec (ch k) hk).1] at h1
end Go.Proofs.YtbepgbpmgiihbaaDoor
