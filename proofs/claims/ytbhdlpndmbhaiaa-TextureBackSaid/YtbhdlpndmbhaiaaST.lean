/- A mesh among the arguments, opened. -/
import Derived.Test.YtbhdlpndmbhaiaaPC
import Derived.Test.YtbhdlpndmbhaiaaPS
import Derived.Test.YtbhdlpndmbhaiaaSA
import Derived.WalkKit
import Derived.ProofKit
import Derived.OpenShut
import Derived.ChangeSlices
import Derived.ChangeSame
namespace Go.Proofs.Ytbhdlpndmbhaiaa
set_option linter.unusedVariables false
set_option maxRecDepth 2000
set_option linter.unusedSimpArgs false
open Go.ChangeShapes Go.WideShapes Go.ChangeAt Go.RowKit Go.Joins Go.Deep
theorem cell_lt_ {w : World} {b o : Nat} {v : Value} (h : w.cell? ⟨b, o, none⟩ = some v) : b < w.heap.size := by
  by_cases hb : b < w.heap.size
  · exact hb
  · exfalso
    have : w.heap[b]? = none := Array.getElem?_eq_none (by omega)
    simp [World.cell?, this] at h
/-- the cells of S ints -/
def isInts (S : Nat) (cs : List Value) : Prop := ∃ zs : List Int, zs.length = S ∧ cs = zs.map (Value.int .i64)
theorem cs_nms {H : Type} {enc : TypeId × Value → H} {P : Program} {w : World} {base : Nat} {spare : Nat → Bool} {held : Bool} {fuel : Nat} {cs : List Value} {x : DataW H × List MemPlace} {t e : TypeId} {S : Nat}
    (ht : P.underlying t = some (.slice e)) (hC : P.cellsOf e = S) (hS : 0 < S)
    (hQ : ∀ fuel cs x, DataW.trod enc P w base spare held fuel e cs = some x → isInts S cs)
    (h : DataW.trod enc P w base spare held fuel t cs = some x) : ∃ q n c f, cs = [.slice q n c] ∧ n ≤ c ∧ c ≤ 9223372036854775807 ∧ NmS w S q n f := by
  rcases DataW.trod_slice ht h with ⟨h0, _⟩ | ⟨a, len, cap, elems, rest, n, _, hcs, hx, hb, hl, hm, hlen, hel, _, _⟩
  · subst h0
    exact ⟨none, 0, 0, fun _ => 0, rfl, Nat.le_refl _, by decide, .inl rfl⟩
  · subst hcs
    have hm2 : cap ≤ 9223372036854775807 := by unfold maxLen at hm; omega
    have key : ∀ i, i < len → ∃ zs : List Int, zs.length = S ∧ ∀ j, j < S → w.cell? ((a.add (i * S)).add j) = some (.int .i64 (zs.getD j 0)) := fun i hi => by
      have hy : elems[i]? = some (elems[i]'(by omega)) := List.getElem?_eq_getElem (by omega)
      have hb' := (hel i hi).trans hy
      rw [hC, Option.bind_eq_some_iff] at hb'
      obtain ⟨c3, hcs, hy'⟩ := hb'
      obtain ⟨_, hc3, hcell⟩ := World.cells?_some hcs
      obtain ⟨zs, hz, rfl⟩ := hQ _ _ _ hy'
      refine ⟨zs, hz, fun j hj => ?_⟩
      have h1 := hcell j hj
      rw [h1, List.getElem?_map, List.getElem?_eq_getElem (by omega)]
      simp [List.getD_eq_getElem?_getD, List.getElem?_eq_getElem (show j < zs.length by omega)]
    by_cases hl0 : len = 0
    · subst hl0
      exact ⟨some a, 0, cap, fun _ => 0, rfl, Nat.zero_le _, hm2, .inl rfl⟩
    · obtain ⟨blk, off, spot⟩ := a
      have hspot : spot = none := by
        obtain ⟨z, _, h0⟩ := key 0 (by omega)
        simpa [Addr.add] using World.cell?_spot (h0 0 hS)
      subst hspot
      have ch : ∀ k, ∃ zs : List Int, k < len → ∀ j, j < S → w.cell? ⟨blk, off + k * S + j, none⟩ = some (.int .i64 (zs.getD j 0)) := fun k => by
        by_cases hk : k < len
        · obtain ⟨zs, _, h1⟩ := key k hk
          refine ⟨zs, fun _ j hj => ?_⟩
          have h2 := h1 j hj
          rwa [Addr.add_mid, Addr.add_mid] at h2
        · exact ⟨[], fun h => absurd h hk⟩
      refine ⟨some ⟨blk, off, none⟩, len, cap, fun j => (Classical.choose (ch (j / S))).getD (j % S) 0, rfl, hl, hm2, .inr ⟨blk, off, rfl, ?_, fun j v hj => ?_⟩⟩
      · exact cell_lt_ (Classical.choose_spec (ch 0) (by omega) 0 hS)
      · have hjl : j < len * S := by
          have := (List.getElem?_eq_some_iff.1 hj).1
          rwa [nums_length] at this
        rw [nums_at _ _ hjl] at hj
        have hq : j / S < len := Nat.div_lt_of_lt_mul (by rw [Nat.mul_comm]; exact hjl)
        have := Classical.choose_spec (ch (j / S)) hq (j % S) (Nat.mod_lt _ hS)
        rw [show off + j / S * S + j % S = off + j by rw [Nat.add_assoc, Nat.div_add_mod' j S]] at this
        rw [← hj]
        exact this
theorem cs_ints3 {H : Type} {enc : TypeId × Value → H} {w : World} {base : Nat} {spare : Nat → Bool} {held : Bool} {fuel : Nat} {cs : List Value} {x : DataW H × List MemPlace}
    (h : DataW.trod enc Try.prog w base spare held fuel 50 cs = some x) : isInts 3 cs := by
  obtain ⟨zs, hz, e, _⟩ := trod_arr Try.underlying50 Try.underlying3 (by kernel_rfl) (by kernel_rfl) h
  exact ⟨zs, hz, e⟩
theorem list3_ {l : List Value} (h : l.length = 3) : ∃ a b c, l = [a, b, c] := by
  match l, h with
  | [a, b, c], _ => exact ⟨a, b, c, rfl⟩
theorem cs_point {H : Type} {enc : TypeId × Value → H} {P : Program} {w : World} {base : Nat} {spare : Nat → Bool} {held : Bool} {t : TypeId} {f0 f1 f2 : Field} {fuel : Nat} {cs : List Value} {x : DataW H × List MemPlace}
    (hs : P.underlying t = some (.struct #[f0, f1, f2])) (hone : oneCellFields P #[f0, f1, f2] = true) (hC : P.cellsOf t = 3)
    (k0 : P.underlying f0.type = some (.int .i64)) (k1 : P.underlying f1.type = some (.int .i64)) (k2 : P.underlying f2.type = some (.int .i64)) (h : DataW.trod enc P w base spare held fuel t cs = some x) : isInts 3 cs := by
  obtain ⟨y0, y1, y2, m, _, hl, h0, h1, h2⟩ := trod_struct3 hs h
  rw [hC] at hl
  obtain ⟨v0, v1, v2, rfl⟩ := list3_ hl
  obtain ⟨o0, q0⟩ := hone_of hone 0 f0 rfl
  obtain ⟨o1, q1⟩ := hone_of hone 1 f1 rfl
  obtain ⟨o2, q2⟩ := hone_of hone 2 f2 rfl
  obtain ⟨p, e0, _, w0⟩ := DataW.trod_int k0 (by simpa [o0, q0] using h0)
  obtain ⟨q, e1, _, w1⟩ := DataW.trod_int k1 (by simpa [o1, q1] using h1)
  obtain ⟨r, e2, _, w2⟩ := DataW.trod_int k2 (by simpa [o2, q2] using h2)
  simp at e0 e1 e2
  subst e0 e1 e2
  exact ⟨[p, q, r], rfl, rfl⟩
theorem split3_ (l : List Value) (h : l.length = 3) : l = (l.drop 0).take 1 ++ ((l.drop 1).take 1 ++ (l.drop 2).take 1) := by
  obtain ⟨a, b, c, rfl⟩ := list3_ h
  rfl
end Go.Proofs.Ytbhdlpndmbhaiaa
