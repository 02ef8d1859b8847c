/- A list of lists of bytes among the arguments, opened, with what the bytes may be. -/
import Derived.Test.YtajejlaoompieaaDoorPF
import Derived.Test.YtajejlaoompieaaDoorCW
namespace Go.Proofs.YtajejlaoompieaaDoor
set_option linter.unusedVariables false
set_option maxRecDepth 2000
set_option linter.unusedSimpArgs false
open Go.ChangeShapes Go.WideShapes Go.ChangeAt Go.RowKit Go.Joins Go.Deep
theorem cell_lt_ {w : World} {b o : Nat} {v : Value} (h : w.cell? ⟨b, o, none⟩ = some v) : b < w.heap.size := by
  by_cases hb : b < w.heap.size
  · exact hb
  · exfalso
    have : w.heap[b]? = none := Array.getElem?_eq_none (by omega)
    simp [World.cell?, this] at h
/-- a list of bytes that lies in W -/
def isSb (W : World) (cs : List Value) : Prop := ∃ q m c, ∃ f : Nat → Int, cs = [.slice q m c] ∧ m ≤ c ∧ c ≤ 9223372036854775807 ∧ Byt W q m f ∧ ∀ j, j < m → inB (f j)
theorem cs_slb {H : Type} {enc : TypeId × Value → H} {w : World} {base : Nat} {spare : Nat → Bool} {held : Bool} {fuel : Nat} {cs : List Value} {x : DataW H × List MemPlace}
    (h : DataW.trod enc Tryd.prog w base spare held fuel 23 cs = some x) : isSb w cs := by
  have c1 : Tryd.prog.cellsOf 5 = 1 := by kernel_rfl
  rcases DataW.trod_slice Tryd.underlying23 h with ⟨h0, _⟩ | ⟨a, len, cap, elems, rest, n, _, hcs, hx, hb, hl, hm, hlen, hel, _, _⟩
  · subst h0
    exact ⟨none, 0, 0, fun _ => 0, rfl, Nat.le_refl _, by decide, .inl rfl, fun j hj => absurd hj (Nat.not_lt_zero j)⟩
  · subst hcs
    have key : ∀ i, i < len → ∃ z : Int, inB z ∧ w.cell? (a.add i) = some (.int .u8 z) := fun i hi => by
      have hy : elems[i]? = some (elems[i]'(by omega)) := List.getElem?_eq_getElem (by omega)
      have hb' := (hel i hi).trans hy
      rw [c1, Option.bind_eq_some_iff] at hb'
      obtain ⟨c3, hcs, hy'⟩ := hb'
      obtain ⟨_, hc3, hcell⟩ := World.cells?_some hcs
      obtain ⟨z, e, hz⟩ := cs_byte hy'
      have h0 := hcell 0 (by decide)
      rw [e] at h0
      refine ⟨z, hz, ?_⟩
      rw [Nat.mul_one] at h0
      have ea : (a.add i).add 0 = a.add i := by cases a; simp [Addr.add]
      rw [ea] at h0
      simpa using h0
    by_cases hl0 : len = 0
    · subst hl0
      exact ⟨some a, 0, cap, fun _ => 0, rfl, Nat.zero_le _, by unfold maxLen at hm; omega, .inl rfl, fun j hj => absurd hj (Nat.not_lt_zero j)⟩
    · obtain ⟨blk, off, spot⟩ := a
      have hspot : spot = none := by
        obtain ⟨z, _, h0⟩ := key 0 (by omega)
        simpa [Addr.add] using World.cell?_spot h0
      subst hspot
      have ch : ∀ k, ∃ z : Int, k < len → inB z ∧ w.cell? ⟨blk, off + k, none⟩ = some (.int .u8 z) := fun k => by
        by_cases hk : k < len
        · obtain ⟨z, h0, h1⟩ := key k hk
          rw [Addr.add_mid] at h1
          exact ⟨z, fun _ => ⟨h0, h1⟩⟩
        · exact ⟨0, fun h => absurd h hk⟩
      refine ⟨some ⟨blk, off, none⟩, len, cap, fun k => Classical.choose (ch k), rfl, hl, by unfold maxLen at hm; omega, .inr ⟨blk, off, rfl, ?_, fun j v hj => ?_⟩, fun j hj => (Classical.choose_spec (ch j) hj).1⟩
      · exact cell_lt_ (Classical.choose_spec (ch 0) (by omega)).2
      · have hjl : j < len := by
          have := (List.getElem?_eq_some_iff.1 hj).1
          rwa [nums_length] at this
        rw [nums_at _ _ hjl] at hj
        rw [← hj]
        exact (Classical.choose_spec (ch j) hjl).2
theorem sl_datab {w : World} {p : Option Addr} {n cap : Nat} {f : Nat → List Value} (h : Sl w p n cap 1 f (isSb w)) : ∃ q m c g, Data w p n q m c g ∧ ∀ k, k < n → ∀ j, j < m k → inB (g k j) := by
  have ch : ∀ k, ∃ x : Option Addr × Nat × Nat × (Nat → Int), k < n → f k = [.slice x.1 x.2.1 x.2.2.1] ∧ x.2.1 ≤ x.2.2.1 ∧ x.2.2.1 ≤ 9223372036854775807 ∧ Byt w x.1 x.2.1 x.2.2.2 ∧ ∀ j, j < x.2.1 → inB (x.2.2.2 j) := fun k => by
    by_cases hk : k < n
    · obtain ⟨q, m, c, g, h1⟩ := h.q k hk
      exact ⟨(q, m, c, g), fun _ => h1⟩
    · exact ⟨(none, 0, 0, fun _ => 0), fun e => absurd e hk⟩
  refine ⟨fun k => (Classical.choose (ch k)).1, fun k => (Classical.choose (ch k)).2.1, fun k => (Classical.choose (ch k)).2.2.1, fun k => (Classical.choose (ch k)).2.2.2, fun k hk => ?_, fun k hk => (Classical.choose_spec (ch k) hk).2.2.2.2⟩
  obtain ⟨e, h1, h2, h3, _⟩ := Classical.choose_spec (ch k) hk
  rcases h.row with h0 | ⟨blk, off, hp, hb, hr⟩
  · omega
  · have hc := hr k hk
    rw [e, Nat.mul_one] at hc
    exact ⟨blk, off, hp, hb, hc.cell 0 _ rfl, h1, h2, h3⟩
end Go.Proofs.YtajejlaoompieaaDoor
