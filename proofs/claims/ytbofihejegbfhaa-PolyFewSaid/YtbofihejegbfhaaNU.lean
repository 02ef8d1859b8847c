/- Appended data; slices.Clip, poly.kept.keep. -/
import Derived.Test.YtbofihejegbfhaaNL
import Derived.Lib.Hide
import Derived.Deep.Onto
import Derived.ArgAppend
import Derived.LoopN
import Derived.LoopTactic
namespace Go.Proofs.Ytbofihejegbfhaa
set_option linter.unusedVariables false
set_option maxRecDepth 2000
set_option linter.unusedSimpArgs false
open Go.RowKit
/-- what is done to one elder block K, and to no other one -/
structure But (K : Nat) (w w' : World) : Prop where
  below : Below K w w'
  heap : ∀ b, b < w.heap.size → b ≠ K → w'.heap[b]? = w.heap[b]?
theorem But.refl (K : Nat) (w : World) : But K w w := ⟨Below.refl _ _, fun _ _ _ => rfl⟩
theorem But.trans {K : Nat} {a b c : World} (h : But K a b) (k : But K b c) : But K a c := ⟨h.below.trans k.below, fun i hi hn => (k.heap i (Nat.lt_of_lt_of_le hi h.below.size) hn).trans (h.heap i hi hn)⟩
theorem But.of {K : Nat} {a b : World} (h : Below a.heap.size a b) (hK : K < a.heap.size) : But K a b := ⟨h.mono (Nat.le_of_lt hK), fun i hi _ => h.block i hi⟩
theorem But.store {K o : Nat} {a : World} {vs : List Value} : But K a (a.setCells K o vs) := ⟨Below.setCells (Below.refl _ _) (Nat.le_refl _) vs o, fun i hi hn => World.heap_setCells_other a K o vs hi hn⟩
theorem But.drew {K : Nat} {a : World} (hK : K < a.heap.size) : But K a a.drew := But.of (Below.refl _ _).drew hK
theorem Has.but {b o K : Nat} {cs : List Value} {w w' : World} (h : Has b o cs w) (hb : But K w w') (hn : b ≠ K) : Has b o cs w' where
  lt := Nat.lt_of_lt_of_le h.lt hb.below.size
  cell := fun j v hv => by rw [World.cell?_of_block (w := w) (a := ⟨b, o + j, none⟩) (hb.heap b h.lt hn)]; exact h.cell j v hv
theorem Own.but {b K : Nat} {cs : List Value} {w w' : World} (h : Own b cs w) (hb : But K w w') (hn : b ≠ K) : Own b cs w' where
  lt := Nat.lt_of_lt_of_le h.lt hb.below.size
  cell := fun j v hv => by rw [World.cell?_of_block (w := w) (a := ⟨b, 0 + j, none⟩) (hb.heap b h.lt hn)]; exact h.cell j v hv
  free := fun j hj => by
    rw [World.cell?_of_block (w := w) (a := ⟨b, 0 + j, none⟩) (hb.heap b h.lt hn), World.frozen?_of_block (w := w) (a := ⟨b, 0 + j, none⟩) (hb.heap b h.lt hn)]
    exact h.free j hj
/-- a slice that holds f's first n bytes, not in K -/
def BytN (w : World) (q : Option Addr) (n : Nat) (f : Nat → Int) (K : Nat) : Prop := n = 0 ∨ ∃ b off, q = some ⟨b, off, none⟩ ∧ b ≠ K ∧ Has b off (nums .u8 f n) w
theorem BytN.but {w w' : World} {q : Option Addr} {n K : Nat} {f : Nat → Int} (h : BytN w q n f K) (hb : But K w w') : BytN w' q n f K := by
  rcases h with h | ⟨b, off, h1, h2, h3⟩
  · exact .inl h
  · exact .inr ⟨b, off, h1, h2, h3.but hb h2⟩
theorem BytN.byt {w : World} {q : Option Addr} {n K : Nat} {f : Nat → Int} (h : BytN w q n f K) : Byt w q n f := by
  rcases h with h | ⟨b, off, h1, _, h3⟩
  · exact .inl h
  · exact .inr ⟨b, off, h1, h3⟩
/-- parts, none of them in K -/
def PartsN (w : World) (p : Option Addr) (np : Nat) (g : Nat → Int) (T : Nat → Nat) (K : Nat) : Prop := ∀ k, k < np → ∃ D o q m c, p = some ⟨D, o, none⟩ ∧ D ≠ K ∧ D < w.heap.size ∧ w.cell? ⟨D, o + k, none⟩ = some (.slice q m c) ∧ m ≤ c ∧ c ≤ 9223372036854775807 ∧ T (k + 1) = T k + m ∧ BytN w q m (fun j => g (T k + j)) K
theorem PartsN.but {w w' : World} {p : Option Addr} {np K : Nat} {g : Nat → Int} {T : Nat → Nat} (h : PartsN w p np g T K) (hb : But K w w') : PartsN w' p np g T K := fun k hk => by
  obtain ⟨D, o, q, m, c, h1, h2, h3, h4, h5, h6, h7, h8⟩ := h k hk
  exact ⟨D, o, q, m, c, h1, h2, Nat.lt_of_lt_of_le h3 hb.below.size, (World.cell?_of_block (w := w) (a := ⟨D, o + k, none⟩) (hb.heap D h3 h2)).trans h4, h5, h6, h7, h8.but hb⟩
/-- the data of a kept: what a caller left, cut to its length, or the call's own row -/
def DatK (w : World) (v : Value) (n : Nat) (g : Nat → Int) (base K : Nat) (p0 : Option Addr) : Prop :=
  (∃ p, v = .slice p n n ∧ (p = none → n = 0) ∧ BytN w p n g K ∧ p = p0) ∨ w.ownsRow base 5 1 v n (nums .u8 g n)
theorem DatK.later {w w' : World} {v : Value} {n base K : Nat} {g : Nat → Int} {p0 : Option Addr} (h : DatK w v n g base K p0) (hb : Below w.heap.size w w') (hK : K < w.heap.size) : DatK w' v n g base K p0 := by
  rcases h with ⟨p, h1, h2, h3⟩ | h
  · exact .inl ⟨p, h1, h2, h3.1.but (But.of hb hK), h3.2⟩
  · exact .inr (row_later h hb)
theorem DatK.far {w : World} {v : Value} {n base K o : Nat} {g : Nat → Int} {p0 : Option Addr} {vs : List Value} (h : DatK w v n g base K p0) (hK : K < base) : DatK (w.setCells K o vs) v n g base K p0 := by
  rcases h with ⟨p, h1, h2, h3⟩ | h
  · exact .inl ⟨p, h1, h2, h3.1.but But.store, h3.2⟩
  · exact .inr (row_far h (fun he => by have := (h.lt K he).1; omega) o vs)
theorem DatK.form {w : World} {v : Value} {n base K : Nat} {g : Nat → Int} {p0 : Option Addr} (h : DatK w v n g base K p0) : ∃ p c, v = .slice p n c ∧ n ≤ c ∧ c ≤ maxLen ∨ ∃ p, v = .slice p n n := by
  rcases h with ⟨p, h1, _, _⟩ | h
  · exact ⟨p, n, .inr ⟨p, h1⟩⟩
  · rcases h.2 with ⟨rfl, rfl⟩ | ⟨g, cap, cur, rfl, _, _, hc, hm, _⟩
    · exact ⟨none, 0, .inr ⟨none, rfl⟩⟩
    · exact ⟨_, cap, .inl ⟨rfl, hc, hm⟩⟩
theorem run_append_none {P : Program} {w : World} {t ty n c : Nat} {e : TypeId} {i : TypeInfo} (p : Option Addr) (hnc : n ≤ c) (ht : P.underlying t = some (.slice e)) (hi : P.info? e = some i) (q : Option Addr) (c' : Nat) :
    (Builtin.append_ #[t, t] ty #[.slice p n c, .slice q 0 c']).run P w = .ok (.slice p n c) w := by
  have hl : ∀ (x : Addr), (loadCells x 0).run P w = .ok #[] w := fun x => by simpa using run_loadCells_list (P := P) w x [] (by simp)
  cases p <;> cases q <;> simp [Builtin.append_, run_underlying ht, sizeOf, typeInfo, hi, Builtin.lenOf, Builtin.firstCells, hnc, storeCells, hl]
/-- bytes behind the data -/
theorem run_append_dat {w : World} {v : Value} {n base K : Nat} {g : Nat → Int} {p0 : Option Addr} (h : DatK w v n g base K p0) (q : Option Addr) (m c ty : Nat) (hq : BytN w q m (fun j => g (n + j)) K) (hnm : n + m ≤ 65536) (hb : base ≤ w.heap.size) :
    ∃ v' w', (Builtin.append_ #[26, 26] ty #[v, .slice q m c]).run Try.prog w = .ok v' w' ∧ DatK w' v' (n + m) g base K p0 ∧ (∃ row, w.grownBy w' row ∧ ∀ k, row = some k → base ≤ k) := by
  obtain ⟨i0, hi, hz0, hz1, hz2⟩ := infoB_parts
  have ap := nums_append .u8 g (fun j => g (n + j)) n m (fun j _ => rfl)
  by_cases hm : m = 0
  · subst hm
    obtain ⟨p, c1, hf⟩ := h.form
    refine ⟨v, w, ?_, h, none, ⟨rfl, rfl, rfl, Nat.le_refl _, fun _ _ _ => rfl⟩, fun _ hk => nomatch hk⟩
    rcases hf with ⟨rfl, h1, _⟩ | ⟨p', rfl⟩
    · exact run_append_none p h1 Try.underlying26 hi q c
    · exact run_append_none p' (Nat.le_refl _) Try.underlying26 hi q c
  · obtain ⟨b, off, rfl, _, hs⟩ := hq.resolve_left hm
    have nw : ∀ j u, (nums .u8 (fun j => g (n + j)) m)[j]? = some u → w.cell? ((⟨b, off, none⟩ : Addr).add j) = some u := fun j u hj => by rw [Addr.add_mid]; exact hs.cell j u hj
    rcases h with ⟨p, rfl, hp, hB, hpp⟩ | h
    · cases p with
      | none =>
        obtain rfl : n = 0 := hp rfl
        obtain ⟨v', w', hrun, r1, r2, _⟩ := run_append_own (P := Try.prog) w base 26 ty 5 i0 (.int .u8 0) 1 1 Try.underlying26 hi hz0 hz1 hz2 rfl (by decide) (.slice none 0 0) 0 [] (World.ownsRow_nil _ _ _ _) ⟨b, off, none⟩ m c _ (by rw [nums_length, Nat.mul_one]) nw (nums_one _ _ _) (by unfold maxLen; omega) (by omega) hb
        refine ⟨v', w', hrun, .inr ?_, _, r2, fun k hk => nomatch hk⟩
        rw [← ap]
        exact r1
      | some a =>
        have hB' : ∃ b' off', (a = ⟨b', off', none⟩ ∨ n = 0) ∧ (n = 0 ∨ Has b' off' (nums .u8 g n) w) := by
          rcases hB with h0 | ⟨b', off', e, _, h3⟩
          · exact ⟨0, 0, .inr h0, .inl h0⟩
          · cases e; exact ⟨b', off', .inl rfl, .inr h3⟩
        have olds : ∀ j u, (nums .u8 g n)[j]? = some u → w.cell? (a.add j) = some u := fun j u hj => by
          have hj' : j < n := by have := (List.getElem?_eq_some_iff.1 hj).1; rwa [nums_length] at this
          obtain ⟨b', off', h1, h2⟩ := hB'
          rcases h1 with rfl | h1
          · rcases h2 with h2 | h2
            · omega
            · rw [Addr.add_mid]; exact h2.cell j u hj
          · omega
        obtain ⟨v', w', hrun, r1, r2⟩ := run_append_arg_grows (P := Try.prog) w 26 ty 5 i0 (.int .u8 0) 1 1 Try.underlying26 hi hz0 hz1 hz2 rfl (by decide) a n n _ (by rw [nums_length, Nat.mul_one]) olds ⟨b, off, none⟩ m c _ (by rw [nums_length, Nat.mul_one]) nw (by omega) (by unfold maxLen; omega) (by omega)
        refine ⟨v', w', hrun, .inr ?_, _, r2, fun k hk => nomatch hk⟩
        rw [← ap]
        exact r1.mono hb
    · obtain ⟨v', w', hrun, r1, r2, _⟩ := run_append_own (P := Try.prog) w base 26 ty 5 i0 (.int .u8 0) 1 1 Try.underlying26 hi hz0 hz1 hz2 rfl (by decide) v n _ h ⟨b, off, none⟩ m c _ (by rw [nums_length, Nat.mul_one]) nw (nums_one _ _ _) (by unfold maxLen; omega) (by omega) hb
      refine ⟨v', w', hrun, .inr ?_, _, r2, fun k hk => row_ge h k hk⟩
      rw [← ap]
      exact r1
theorem step_run_append {P : Program} {ops : Array Oper} {o : Oper} {a : Act} {w : World} {K : Act → World → Prop} {Q : Exit → Act → World → Prop} {E : Prop}
    (hg : o.guard = none) (s x : Operand) (t : TypeId) (hop : o.op = Op.call { callee := Callee.builtin Builtin.append, args := #[s, x], argTypes := #[t, t] }) {v vx v' : Value} {w' : World} (hs : a.eval s = v) (hx : a.eval x = vx)
    (hrun : (Builtin.append_ #[t, t] o.type #[v, vx]).run P w = .ok v' w') (hK : K (a.put o.dst v') w') : if Region.wanted o (yielded ops a.tmps) = true then Oper.wp P o a w K Q else E := by
  have hw : Region.wanted o (yielded ops a.tmps) = true := by simp [Region.wanted, hg]
  rw [if_pos hw]
  unfold Oper.wp
  simp [execOp, hop, resolve, invoke, builtin, hs, hx, hrun, Result.andThen]
  exact hK
theorem Clip_any (p : Option Addr) (n c : Nat) (hn : n ≤ c) (w : World) :
    Calls Try.prog 24 #[.slice p n c] w fun e w' => e = .returned (.slice p n n) ∧ Below w.heap.size w w' := by
  have n1 : (n : Int) ≤ (c : Int) := by omega
  go_enter Try.func24, Try.ntmps24
  go_wp2_with (fail)
  go_ret
  exact ⟨by first | rfl | simp [sliced_head], Below.refl _ _⟩
end Go.Proofs.Ytbofihejegbfhaa
