/- A slice among the arguments, opened whatever its elements are: each element's cells have what the element's reader says of them. -/
import Derived.WalkKit
import Derived.ChangeSlices
import Derived.Lib.SmallJoins
import Derived.OpenShut
import Derived.ProofKit
import Derived.Deep.Strs
import Derived.Deep.Fields
import Derived.Test.YtmbnmbjlggbfkaaKA
namespace Go.Proofs.Ytmbnmbjlggbfkaa
set_option linter.unusedVariables false
set_option maxRecDepth 2000
set_option linter.unusedSimpArgs false
open Go.ChangeShapes Go.WideShapes Go.ChangeAt Go.RowKit Go.Joins Go.Deep

/-- a slice of n elements of S cells each, of each of which Q holds: f k are the k-th one's cells -/
structure Sl (w : World) (p : Option Addr) (n cap S : Nat) (f : Nat → List Value) (Q : List Value → Prop) : Prop where
  le : n ≤ cap
  max : cap ≤ 9223372036854775807
  q : ∀ k, k < n → Q (f k)
  row : n = 0 ∨ ∃ blk off, p = some ⟨blk, off, none⟩ ∧ blk < w.heap.size ∧ ∀ k, k < n → Has blk (off + k * S) (f k) w

theorem open_sl {H : Type} {enc : TypeId × Value → H} {P : Program} {w : World} {base : Nat} {spare : Nat → Bool} {held : Bool} {r : Reach} {b0 : Nat} {t e : TypeId} {v : Value} {d : DataW H} {pl : List MemPlace} {S : Nat} (Q : List Value → Prop)
    (ht : P.underlying t = some (.slice e)) (hC : P.cellsOf e = S) (hS : 0 < S)
    (hQ : ∀ fuel cs x, DataW.trod enc P w base spare held fuel e cs = some x → cs.length = S → Q cs)
    (hv : Value.okWide P w r b0 t v) (h : DataW.Trod enc P w base spare held t v d pl) (hlt : ∀ x ∈ pl, x.block < w.heap.size) :
    ∃ p n cap f, v = .slice p n cap ∧ Sl w p n cap S f Q := by
  obtain ⟨a0, len, cap, rfl⟩ := okWide_slice ht hv
  obtain ⟨fuel, hf⟩ := h
  rcases DataW.trod_slice ht hf with ⟨h0, _⟩ | ⟨a, len', cap', elems, rest, n, _, hcs, hx, hb, hl, hm, hlen, hel, _, _⟩
  · simp [Value.cells] at h0
    obtain ⟨rfl, rfl, rfl⟩ := h0
    exact ⟨none, 0, 0, fun _ => [], rfl, ⟨Nat.le_refl _, by omega, fun k hk => absurd hk (Nat.not_lt_zero k), .inl rfl⟩⟩
  · simp [Value.cells] at hcs
    obtain ⟨rfl, rfl, rfl⟩ := hcs
    unfold maxLen at hm
    have key : ∀ i, i < len → ∃ cs : List Value, cs.length = S ∧ Q cs ∧ ∀ j, j < S → w.cell? ((a.add (i * S)).add j) = cs[j]? := fun i hi => by
      have hy : elems[i]? = some (elems[i]'(by omega)) := List.getElem?_eq_getElem (by omega)
      have hb' := (hel i hi).trans hy
      rw [hC, Option.bind_eq_some_iff] at hb'
      obtain ⟨c3, hcs, hy'⟩ := hb'
      obtain ⟨_, hc3, hcell⟩ := World.cells?_some hcs
      exact ⟨c3, hc3, hQ _ _ _ hy' hc3, hcell⟩
    by_cases hl0 : len = 0
    · subst hl0
      exact ⟨some a, 0, cap, fun _ => [], rfl, ⟨by omega, by omega, fun k hk => absurd hk (Nat.not_lt_zero k), .inl rfl⟩⟩
    · obtain ⟨blk, off, spot⟩ := a
      have hspot : spot = none := by
        obtain ⟨cs, hc, _, hcell⟩ := key 0 (by omega)
        have h0 := hcell 0 hS
        rw [List.getElem?_eq_getElem (by omega)] at h0
        simpa [Addr.add] using World.cell?_spot h0
      subst hspot
      have hbk : blk < w.heap.size := by
        refine hlt (.cell blk off) ?_
        rw [Prod.mk.injEq] at hx
        rw [hx.2]
        refine List.mem_append.2 (Or.inl (MemPlace.mem_row.2 ⟨0, ?_, by simp⟩))
        rw [hC, hlen]
        exact Nat.mul_pos (by omega) hS
      have ch : ∀ k, ∃ cs : List Value, k < len → cs.length = S ∧ Q cs ∧ ∀ j, j < S → w.cell? (((⟨blk, off, none⟩ : Addr).add (k * S)).add j) = cs[j]? := fun k => by
        by_cases hk : k < len
        · obtain ⟨cs, h1⟩ := key k hk
          exact ⟨cs, fun _ => h1⟩
        · exact ⟨[], fun h => absurd h hk⟩
      refine ⟨some ⟨blk, off, none⟩, len, cap, fun k => Classical.choose (ch k), rfl, ⟨hl, by omega, fun k hk => (Classical.choose_spec (ch k) hk).2.1, .inr ⟨blk, off, rfl, hbk, fun k hk => ⟨hbk, fun j v hj => ?_⟩⟩⟩⟩
      obtain ⟨h1, _, h3⟩ := Classical.choose_spec (ch k) hk
      have hjS : j < S := by
        rw [← h1]
        exact (List.getElem?_eq_some_iff.1 hj).1
      have h4 := h3 j hjS
      have ea : ((⟨blk, off, none⟩ : Addr).add (k * S)).add j = ⟨blk, off + k * S + j, none⟩ := by rw [Addr.add_mid, Addr.add_mid]
      rw [← ea]
      exact h4.trans hj
/-- the first m elements -/
theorem Sl.take {w : World} {p : Option Addr} {n cap S m : Nat} {f : Nat → List Value} {Q : List Value → Prop} (h : Sl w p n cap S f Q) (hm : m ≤ n) : Sl w p m cap S f Q where
  le := by have := h.le; omega
  max := h.max
  q := fun k hk => h.q k (by omega)
  row := by
    rcases h.row with h0 | ⟨blk, off, hp, hb, hr⟩
    · left; omega
    · right; exact ⟨blk, off, hp, hb, fun k hk => hr k (by omega)⟩
theorem Sl.later {w w' : World} {p : Option Addr} {n cap S : Nat} {f : Nat → List Value} {Q : List Value → Prop} (h : Sl w p n cap S f Q) (hb : Below w.heap.size w w') : Sl w' p n cap S f Q where
  le := h.le
  max := h.max
  q := h.q
  row := by
    rcases h.row with h0 | ⟨blk, off, hp, hk, hr⟩
    · exact .inl h0
    · exact .inr ⟨blk, off, hp, Nat.lt_of_lt_of_le hk hb.size, fun k hk2 => (hr k hk2).later hb⟩

/-! ### structs of an int64 and a uint64 -/
theorem list_2 {l : List Value} (h : l.length = 2) : ∃ a b, l = [a, b] := by
  match l, h with
  | [a, b], _ => exact ⟨a, b, rfl⟩
theorem i64_wf' {z : Int} (h : (Lit.int .i64 z).wf = true) : -9223372036854775808 ≤ z ∧ z ≤ 9223372036854775807 := by simpa [Lit.wf, IntKind.min, IntKind.max, IntKind.signed, IntKind.bits] using h
theorem u64_wf' {z : Int} (h : (Lit.int .u64 z).wf = true) : 0 ≤ z ∧ z ≤ 18446744073709551615 := by simpa [Lit.wf, IntKind.min, IntKind.max, IntKind.signed, IntKind.bits] using h
def isWd (cs : List Value) : Prop := ∃ h l : Int, cs = [.int .i64 h, .int .u64 l] ∧ (-9223372036854775808 ≤ h ∧ h ≤ 9223372036854775807) ∧ 0 ≤ l ∧ l ≤ 18446744073709551615
theorem cs_wd {H : Type} {enc : TypeId × Value → H} {P : Program} {w : World} {base : Nat} {spare : Nat → Bool} {held : Bool} {t : TypeId} {f0 f1 : Field} {fuel : Nat} {cs : List Value} {x : DataW H × List MemPlace}
    (hs : P.underlying t = some (.struct #[f0, f1])) (hone : oneCellFields P #[f0, f1] = true) (hC : P.cellsOf t = 2)
    (k0 : P.underlying f0.type = some (.int .i64)) (k1 : P.underlying f1.type = some (.int .u64)) (h : DataW.trod enc P w base spare held fuel t cs = some x) : isWd cs := by
  obtain ⟨y0, y1, m, _, hl, h0, h1⟩ := trod_struct2 hs h
  rw [hC] at hl
  obtain ⟨v0, v1, rfl⟩ := list_2 hl
  obtain ⟨o0, q0⟩ := hone_of hone 0 f0 rfl
  obtain ⟨o1, q1⟩ := hone_of hone 1 f1 rfl
  obtain ⟨p, e0, _, w0⟩ := DataW.trod_int k0 (by simpa [o0, q0] using h0)
  obtain ⟨q, e1, _, w1⟩ := DataW.trod_int k1 (by simpa [o1, q1] using h1)
  simp at e0 e1
  subst e0 e1
  exact ⟨p, q, rfl, i64_wf' w0, u64_wf' w1⟩
theorem open_wd {H : Type} {enc : TypeId × Value → H} {P : Program} {w : World} {base : Nat} {spare : Nat → Bool} {held : Bool} {r : Reach} {b0 : Nat} {t : TypeId} {f0 f1 : Field} {v : Value} {d : DataW H} {p : List MemPlace}
    (hs : P.underlying t = some (.struct #[f0, f1])) (hone : oneCellFields P #[f0, f1] = true) (hC : P.cellsOf t = 2)
    (k0 : P.underlying f0.type = some (.int .i64)) (k1 : P.underlying f1.type = some (.int .u64))
    (hv : Value.okWide P w r b0 t v) (h : DataW.Trod enc P w base spare held t v d p) :
    ∃ x y : Int, v = .agg #[.int .i64 x, .int .u64 y] ∧ (-9223372036854775808 ≤ x ∧ x ≤ 9223372036854775807) ∧ 0 ≤ y ∧ y ≤ 18446744073709551615 := by
  obtain ⟨cs, rfl, hsz⟩ := okWide_struct hs hv
  obtain ⟨fuel, hf⟩ := h
  obtain ⟨x, y, e, bx, b_y⟩ := cs_wd hs hone hC k0 k1 hf
  refine ⟨x, y, ?_, bx, b_y⟩
  simp only [Value.cells] at e
  rw [show cs = cs.toList.toArray from by simp, e]
end Go.Proofs.Ytmbnmbjlggbfkaa
