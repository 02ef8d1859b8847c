/- A slice of structs of three int64, opened: its cells read as whole numbers. -/
import Derived.Test.YtgggngcgcpmkbaaVE
import Derived.ChangeSlices
import Derived.Lib.SmallJoins
namespace Go.Proofs.Ytgggngcgcpmkbaa
set_option linter.unusedVariables false
set_option maxRecDepth 2000
open Go.ChangeShapes Go.WideShapes Go.ChangeAt Go.RowKit Go.Joins Go.Deep

theorem list3 {l : List Value} (h : l.length = 3) : ∃ a b c, l = [a, b, c] := by
  match l, h with
  | [a, b, c], _ => exact ⟨a, b, c, rfl⟩

theorem open_vecs {H : Type} {enc : TypeId × Value → H} {P : Program} {w : World} {base : Nat} {spare : Nat → Bool} {held : Bool} {t e : TypeId} {f0 f1 f2 : Field} {fuel : Nat} {cs : List Value} {x : DataW H × List MemPlace}
    (ht : P.underlying t = some (.slice e)) (he : P.underlying e = some (.struct #[f0, f1, f2])) (hone : oneCellFields P #[f0, f1, f2] = true) (hC : P.cellsOf e = 3)
    (k0 : P.underlying f0.type = some (.int .i64)) (k1 : P.underlying f1.type = some (.int .i64)) (k2 : P.underlying f2.type = some (.int .i64))
    (h : DataW.trod enc P w base spare held fuel t cs = some x) :
    cs = [.slice none 0 0] ∨ ∃ (a : Addr) (len cap : Nat), cs = [.slice (some a) len cap] ∧ len ≤ cap ∧ cap ≤ maxLen ∧ (0 < len → MemPlace.cell a.block a.off ∈ x.2) ∧
      ∀ i, i < len → ∃ p q r : Int, (Lit.int .i64 p).wf = true ∧ (Lit.int .i64 q).wf = true ∧ (Lit.int .i64 r).wf = true ∧
        w.cell? ((a.add (i * 3)).add 0) = some (.int .i64 p) ∧ w.cell? ((a.add (i * 3)).add 1) = some (.int .i64 q) ∧ w.cell? ((a.add (i * 3)).add 2) = some (.int .i64 r) := by
  rcases DataW.trod_slice ht h with ⟨h0, _⟩ | ⟨a, len, cap, elems, rest, n, _, rfl, rfl, hb, hl, hm, hlen, hel, _, _⟩
  · exact Or.inl h0
  refine Or.inr ⟨a, len, cap, rfl, hl, hm, fun h0 => ?_, fun i hi => ?_⟩
  · refine List.mem_append.2 (Or.inl (MemPlace.mem_row.2 ⟨0, ?_, by simp⟩))
    rw [hC, hlen]; omega
  · have hy : elems[i]? = some (elems[i]'(by omega)) := List.getElem?_eq_getElem (by omega)
    have hb' := (hel i hi).trans hy
    rw [hC, Option.bind_eq_some_iff] at hb'
    obtain ⟨c3, hcs, hy'⟩ := hb'
    obtain ⟨_, hc3, hcell⟩ := World.cells?_some hcs
    obtain ⟨v0, v1, v2, rfl⟩ := list3 hc3
    obtain ⟨y0, y1, y2, m, _, _, h0, h1, h2⟩ := trod_struct3 he hy'
    obtain ⟨o0, q0⟩ := hone_of hone 0 f0 rfl
    obtain ⟨o1, q1⟩ := hone_of hone 1 f1 rfl
    obtain ⟨o2, q2⟩ := hone_of hone 2 f2 rfl
    obtain ⟨p, e0, _, w0⟩ := DataW.trod_int k0 (by simpa [o0, q0] using h0)
    obtain ⟨q, e1, _, w1⟩ := DataW.trod_int k1 (by simpa [o1, q1] using h1)
    obtain ⟨r, e2, _, w2⟩ := DataW.trod_int k2 (by simpa [o2, q2] using h2)
    simp at e0 e1 e2
    subst e0 e1 e2
    exact ⟨p, q, r, w0, w1, w2, (hcell 0 (by omega)).trans rfl, (hcell 1 (by omega)).trans rfl, (hcell 2 (by omega)).trans rfl⟩

theorem vecs_sl {w : World} {b off len : Nat}
    (h : ∀ i, i < len → ∃ p q r : Int, (Lit.int .i64 p).wf = true ∧ (Lit.int .i64 q).wf = true ∧ (Lit.int .i64 r).wf = true ∧
        w.cell? (((⟨b, off, none⟩ : Addr).add (i * 3)).add 0) = some (.int .i64 p) ∧ w.cell? (((⟨b, off, none⟩ : Addr).add (i * 3)).add 1) = some (.int .i64 q) ∧ w.cell? (((⟨b, off, none⟩ : Addr).add (i * 3)).add 2) = some (.int .i64 r)) :
    ∃ zs, VecSl w b off len zs := by
  have key : ∀ n, n ≤ len → ∃ zs, VecSl w b off n zs := by
    intro n
    induction n with
    | zero => intro _; exact ⟨[], rfl, fun k hk => absurd hk (Nat.not_lt_zero k), fun k hk => absurd hk (Nat.not_lt_zero k)⟩
    | succ n ih =>
      intro hn
      obtain ⟨zs, hz⟩ := ih (by omega)
      obtain ⟨p, q, r, w0, w1, w2, c0, c1, c2⟩ := h n (by omega)
      rw [add_plain, add_plain] at c0 c1 c2
      have b0 : in64 p := by simpa [in64, Lit.wf, IntKind.min, IntKind.max, IntKind.signed, IntKind.bits] using w0
      have b1 : in64 q := by simpa [in64, Lit.wf, IntKind.min, IntKind.max, IntKind.signed, IntKind.bits] using w1
      have b2 : in64 r := by simpa [in64, Lit.wf, IntKind.min, IntKind.max, IntKind.signed, IntKind.bits] using w2
      have g : ∀ k, k < n → (zs ++ [(p, q, r)]).getD k (0, 0, 0) = zs.getD k (0, 0, 0) := fun k hk => by
        rw [List.getD_eq_getElem?_getD, List.getD_eq_getElem?_getD, List.getElem?_append_left (by rw [hz.len]; exact hk)]
      have gn : (zs ++ [(p, q, r)]).getD n (0, 0, 0) = (p, q, r) := by
        rw [List.getD_eq_getElem?_getD, List.getElem?_append_right (by rw [hz.len]; exact Nat.le_refl n), hz.len]
        simp
      refine ⟨zs ++ [(p, q, r)], by rw [List.length_append, hz.len]; rfl, fun k hk => ?_, fun k hk => ?_⟩
      · by_cases hkn : k < n
        · rw [g k hkn]; exact hz.bd k hkn
        · obtain rfl : k = n := by omega
          rw [gn]; exact ⟨b0, b1, b2⟩
      · by_cases hkn : k < n
        · rw [g k hkn]; exact hz.cell k hkn
        · obtain rfl : k = n := by omega
          rw [gn]; exact ⟨c0, c1, c2⟩
  exact key len (Nat.le_refl len)
end Go.Proofs.Ytgggngcgcpmkbaa
