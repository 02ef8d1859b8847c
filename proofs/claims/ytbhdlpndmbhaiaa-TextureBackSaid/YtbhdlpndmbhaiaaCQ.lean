/- Parts one behind the other: chacha.join. -/
import Derived.Test.YtbhdlpndmbhaiaaCO
import Derived.LoopN
import Derived.LoopTactic
import Derived.Deep.Onto
namespace Go.Proofs.Ytbhdlpndmbhaiaa
set_option linter.unusedVariables false
set_option maxRecDepth 2000
set_option linter.unusedSimpArgs false
open Go.RowKit
theorem sliced_head (p : Option Addr) (h c S : Nat) : sliced p 0 h c S = .slice p h c := by
  cases p with
  | none => simp [sliced]
  | some a => cases a; simp [sliced, Addr.add]
attribute [local go_sem ↓ high] sliced_head
/-- a slice of bytes that holds f's first n -/
def Byt (w : World) (q : Option Addr) (n : Nat) (f : Nat → Int) : Prop := n = 0 ∨ ∃ b off, q = some ⟨b, off, none⟩ ∧ Has b off (nums .u8 f n) w
theorem Byt.later {w w' : World} {q : Option Addr} {n : Nat} {f : Nat → Int} (h : Byt w q n f) (hb : Below w.heap.size w w') : Byt w' q n f := by
  rcases h with h | ⟨b, off, h1, h2⟩
  · exact .inl h
  · exact .inr ⟨b, off, h1, h2.later hb⟩
/-- a list of np parts: together they hold g; T: where each begins -/
def Parts (w : World) (p : Option Addr) (np : Nat) (g : Nat → Int) (T : Nat → Nat) : Prop := ∀ k, k < np → ∃ D o q m c, p = some ⟨D, o, none⟩ ∧ D < w.heap.size ∧ w.cell? ⟨D, o + k, none⟩ = some (.slice q m c) ∧ m ≤ c ∧ c ≤ 9223372036854775807 ∧ T (k + 1) = T k + m ∧ Byt w q m (fun j => g (T k + j))
theorem Parts.later {w w' : World} {p : Option Addr} {np : Nat} {g : Nat → Int} {T : Nat → Nat} (h : Parts w p np g T) (hb : Below w.heap.size w w') : Parts w' p np g T := fun k hk => by
  obtain ⟨D, o, q, m, c, h1, h2, h3, h4, h5, h6, h7⟩ := h k hk
  exact ⟨D, o, q, m, c, h1, Nat.lt_of_lt_of_le h2 hb.size, (hb.cell (p := ⟨D, o + k, none⟩) h2).trans h3, h4, h5, h6, h7.later hb⟩
theorem run_append_zero {P : Program} {w : World} {base size n t ty : Nat} {e : TypeId} {i : TypeInfo} {v : Value} {xs : List Value} (ht : P.underlying t = some (.slice e)) (hi : P.info? e = some i) (hown : w.ownsRow base e size v n xs) (q : Option Addr) (c : Nat) :
    (Builtin.append_ #[t, t] ty #[v, .slice q 0 c]).run P w = .ok v w := by
  have hl : ∀ (x : Addr), (loadCells x 0).run P w = .ok #[] w := fun x => by simpa using run_loadCells_list (P := P) w x [] (by simp)
  rcases hown.2 with ⟨rfl, rfl⟩ | ⟨g, cap, cur, rfl, _, _, hnc, _⟩
  · cases q <;> simp [Builtin.append_, run_underlying ht, sizeOf, typeInfo, hi, Builtin.lenOf, Builtin.firstCells, hl]
  · cases q <;> simp [Builtin.append_, run_underlying ht, sizeOf, typeInfo, hi, Builtin.lenOf, Builtin.firstCells, hnc, storeCells, hl]
theorem wpList_append_zero {P : Program} {w : World} {ops : Array Oper} {rest : List Oper} {o : Oper} {a : Act} {Q : Exit → Act → World → Prop} (hgd : o.guard = none) (s x : Operand) (t : TypeId)
    (ho : o.op = .call { callee := .builtin .append, args := #[s, x], argTypes := #[t, t] }) {base size n : Nat} {e : TypeId} {i : TypeInfo} {v : Value} {xs : List Value} (ht : P.underlying t = some (.slice e)) (hi : P.info? e = some i)
    (hs : a.eval s = v) (hown : w.ownsRow base e size v n xs) (q : Option Addr) (c : Nat) (hx : a.eval x = .slice q 0 c) (h : wpList P ops Q rest (a.put o.dst v) w) : wpList P ops Q (o :: rest) a w :=
  wpList_plain hgd fun K hK => by
    unfold Oper.wp
    simp [execOp, ho, resolve, invoke, builtin, hs, hx, run_append_zero (P := P) (ty := o.type) ht hi hown q c, Result.andThen]
    exact hK _ _ h

end Go.Proofs.Ytbhdlpndmbhaiaa
