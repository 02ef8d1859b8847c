/- Parts of bytes put one behind the other: numbers; calls met by what they hold. -/
import Derived.Test.YtbhdlpndmbhaiaaCV
import Derived.Test.YtbhdlpndmbhaiaaCS
import Derived.Test.YtbhdlpndmbhaiaaPF
import Derived.Deep.Onto
namespace Go.Proofs.Ytbhdlpndmbhaiaa
set_option linter.unusedVariables false
set_option maxRecDepth 2000
set_option linter.unusedSimpArgs false
open Go.RowKit
/-- where the k-th part begins -/
def sumT (t : Nat → Nat) : Nat → Nat
  | 0 => 0
  | k + 1 => sumT t k + t k
theorem sumT_le (t : Nat → Nat) {a b : Nat} (h : a ≤ b) : sumT t a ≤ sumT t b := by
  induction b with
  | zero => obtain rfl : a = 0 := by omega
            exact Nat.le_refl _
  | succ b ih =>
    by_cases hb : a = b + 1
    · subst hb; exact Nat.le_refl _
    · have := ih (by omega)
      show sumT t a ≤ sumT t b + t b
      omega
theorem sumT_max (t : Nat → Nat) (B : Nat) (h : ∀ k, t k ≤ B) : ∀ k, sumT t k ≤ B * k
  | 0 => Nat.zero_le _
  | k + 1 => by
    have h1 := sumT_max t B h k
    have h2 := h k
    show sumT t k + t k ≤ B * (k + 1)
    rw [Nat.mul_succ]
    omega
/-- the first parts as one -/
def catF (t : Nat → Nat) (f : Nat → Nat → Int) : Nat → Nat → Int
  | 0, _ => 0
  | k + 1, x => if x < sumT t k then catF t f k x else f k (x - sumT t k)
theorem catF_at (t : Nat → Nat) (f : Nat → Nat → Int) : ∀ (K k j : Nat), k < K → j < t k → catF t f K (sumT t k + j) = f k j
  | 0, k, j, hk, _ => absurd hk (Nat.not_lt_zero k)
  | K + 1, k, j, hk, hj => by
    by_cases h : k = K
    · subst h
      show (if sumT t k + j < sumT t k then _ else _) = _
      rw [if_neg (by omega), show sumT t k + j - sumT t k = j by omega]
    · have hl : sumT t (k + 1) ≤ sumT t K := sumT_le t (by omega)
      have hs : sumT t (k + 1) = sumT t k + t k := rfl
      show (if sumT t k + j < sumT t K then _ else _) = _
      rw [if_pos (by omega)]
      exact catF_at t f K k j (by omega) hj
theorem infoS : (Try.prog.info? 26).map (fun i => (i.zero, i.size, i.bytes)) = some (some (.slice none 0 0), 1, 24) := by kernel_rfl
theorem infoS_parts : ∃ i, Try.prog.info? 26 = some i ∧ i.zero = some (.slice none 0 0) ∧ i.size = 1 ∧ i.bytes = 24 := by
  obtain ⟨i, hi, h⟩ := Option.map_eq_some_iff.1 infoS
  simp only [Prod.mk.injEq] at h
  exact ⟨i, hi, h.1, h.2.1, h.2.2⟩
theorem rows_ne {w : World} {base base' s s' n n' : Nat} {e e' : TypeId} {v v' : Value} {xs xs' : List Value} (h : w.ownsRow base e s v n xs) (h' : w.ownsRow base' e' s' v' n' xs') (he : e ≠ e') : v.ownBlock = none ∨ v.ownBlock ≠ v'.ownBlock := by
  rcases h.2 with ⟨rfl, _⟩ | ⟨g, cap, cur, rfl, _, hg, _⟩
  · exact .inl rfl
  · refine .inr ?_
    rcases h'.2 with ⟨rfl, _⟩ | ⟨g', cap', cur', rfl, _, hg', _⟩
    · simp [Value.ownBlock]
    · simp only [Value.ownBlock, ne_eq, Option.some.injEq]
      rintro rfl
      rw [hg] at hg'
      simp only [Option.some.injEq, Obj.cells.injEq] at hg'
      exact he hg'.2.1
/-- the cells of the parts -/
def slsF (q : Nat → Option Addr) (t c : Nat → Nat) (n : Nat) : List Value := (List.range n).map fun k => .slice (q k) (t k) (c k)
theorem slsF_len (q : Nat → Option Addr) (t c : Nat → Nat) (n : Nat) : (slsF q t c n).length = n := by simp [slsF]
theorem slsF_at (q : Nat → Option Addr) (t c : Nat → Nat) {n k : Nat} (h : k < n) : (slsF q t c n)[k]? = some (.slice (q k) (t k) (c k)) := by simp [slsF, h]
theorem slsF_succ (q : Nat → Option Addr) (t c : Nat → Nat) (n : Nat) : slsF q t c n ++ [.slice (q n) (t n) (c n)] = slsF q t c (n + 1) := by
  simp [slsF, List.range_succ]
/-- the list that was handed in -/
def Data (w : World) (p : Option Addr) (np : Nat) (q : Nat → Option Addr) (m c : Nat → Nat) (f : Nat → Nat → Int) : Prop := ∀ k, k < np → ∃ D o, p = some ⟨D, o, none⟩ ∧ D < w.heap.size ∧ w.cell? ⟨D, o + k, none⟩ = some (.slice (q k) (m k) (c k)) ∧ m k ≤ c k ∧ c k ≤ 9223372036854775807 ∧ Byt w (q k) (m k) (f k)
theorem Data.later {w w' : World} {p : Option Addr} {np : Nat} {q : Nat → Option Addr} {m c : Nat → Nat} {f : Nat → Nat → Int} (h : Data w p np q m c f) (hb : Below w.heap.size w w') : Data w' p np q m c f := fun k hk => by
  obtain ⟨D, o, h1, h2, h3, h4, h5, h6⟩ := h k hk
  exact ⟨D, o, h1, Nat.lt_of_lt_of_le h2 hb.size, (hb.cell (p := ⟨D, o + k, none⟩) h2).trans h3, h4, h5, h6.later hb⟩
theorem byt_congr {w : World} {q : Option Addr} {n : Nat} {f g : Nat → Int} (h : Byt w q n f) (e : ∀ j, j < n → f j = g j) : Byt w q n g := by
  rcases h with h | ⟨b, off, h1, h2⟩
  · exact .inl h
  · refine .inr ⟨b, off, h1, ?_⟩
    rwa [nums_congr .u8 e] at h2
theorem parts_row {w : World} {base K c7 : Nat} {e : TypeId} {p7 : Option Addr} {q : Nat → Option Addr} {t c : Nat → Nat} {f : Nat → Nat → Int} (h : w.ownsRow base e 1 (.slice p7 K c7) K (slsF q t c K))
    (hb : ∀ k, k < K → t k ≤ c k ∧ c k ≤ 9223372036854775807 ∧ Byt w (q k) (t k) (f k)) : Parts w p7 K (catF t f K) (sumT t) := fun k hk => by
  obtain ⟨X, c3, e3, h1, h2⟩ := row_blk h (by omega)
  cases e3
  obtain ⟨b1, b2, b3⟩ := hb k hk
  refine ⟨X, 0, q k, t k, c k, rfl, h2, ?_, b1, b2, rfl, byt_congr b3 fun j hj => (catF_at t f K k j hk hj).symm⟩
  rw [Nat.zero_add]
  exact (h.cellAt k (by omega)).trans (slsF_at q t c hk)
theorem Equal_R (v1 v2 : Value) (n : Nat) (f : Nat → Int) (w : World) (h1 : RowR w v1 n f) (h2 : RowR w v2 n f) : Calls Try.prog 13 #[v1, v2] w fun e w' => e = .returned (.bool true) ∧ Below w.heap.size w w' := by
  obtain ⟨q1, c1, rfl, _, _, b1⟩ := h1
  obtain ⟨q2, c2, rfl, _, _, b2⟩ := h2
  exact Equal_any q1 q2 n c1 c2 f w b1 b2
end Go.Proofs.Ytbhdlpndmbhaiaa
