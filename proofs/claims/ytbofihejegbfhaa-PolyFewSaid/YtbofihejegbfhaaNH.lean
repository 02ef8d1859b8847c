/- Arrays of numbers compared; poly.Same, less, few, the document's Cut. -/
import Derived.Test.YtbofihejegbfhaaNG
import Derived.Lib.Hide
import Derived.Deep.QuietTactic
namespace Go.Proofs.Ytbofihejegbfhaa
set_option linter.unusedVariables false
set_option maxRecDepth 2000
set_option linter.unusedSimpArgs false
open Go.RowKit
/-- do two arrays agree in their first n numbers? -/
def eqB (f g : Nat → Int) (n : Nat) : Bool := decide (∀ i, i < n → f i = g i)
theorem eqB_self (f : Nat → Int) (n : Nat) : eqB f f n = true := decide_eq_true fun _ _ => rfl
theorem eqB_congr {f g : Nat → Int} {n : Nat} (h : ∀ i, i < n → f i = g i) : eqB f g n = true := decide_eq_true h
def eqF (f g : Nat → Int) : Nat → Nat → Bool
  | _, 0 => true
  | a, m + 1 => decide (f a = g a) && eqF f g (a + 1) m
theorem eqF_iff (f g : Nat → Int) : ∀ (m a : Nat), eqF f g a m = true ↔ ∀ i, a ≤ i → i < a + m → f i = g i
  | 0, a => ⟨fun _ i h1 h2 => by omega, fun _ => rfl⟩
  | m + 1, a => by
    rw [eqF, Bool.and_eq_true, decide_eq_true_iff, eqF_iff f g m (a + 1)]
    constructor
    · intro h i h1 h2
      by_cases ia : i = a
      · subst ia; exact h.1
      · exact h.2 i (by omega) (by omega)
    · intro h; exact ⟨h a (Nat.le_refl _) (by omega), fun i h1 h2 => h i (by omega) (by omega)⟩
theorem eq_loop2 {P : Program} {w : World} (F : Nat → Sem (ForInStep (Option Bool × Unit))) (f g : Nat → Int) : ∀ (m a : Nat), (∀ i, a ≤ i → i < a + m → (F i).run P w = .ok (if f i = g i then .yield (none, ()) else .done (some false, ())) w) →
    (forIn (List.range' a m) ((none, ()) : Option Bool × Unit) fun i _ => F i).run P w = .ok (if eqF f g a m = true then (none, ()) else (some false, ())) w
  | 0, a, _ => by simp [eqF]
  | m + 1, a, h => by
    rw [List.range'_succ, List.forIn_cons, Sem.run_bind, h a (Nat.le_refl _) (by omega), Result.andThen_ok, eqF]
    by_cases e : f a = g a
    · rw [if_pos e, decide_eq_true e, Bool.true_and]
      show (forIn (List.range' (a + 1) m) ((none, ()) : Option Bool × Unit) fun i _ => F i).run P w = _
      rw [eq_loop2 F f g m (a + 1) fun i h1 h2 => h i (by omega) (by omega)]
    · rw [if_neg e, decide_eq_false e, Bool.false_and]
      rfl
theorem eq_nums2 {P : Program} {t e n : Nat} {k : IntKind} (f g : Nat → Int) {w : World} (d : Nat) (ht : P.underlying t = some (.array n e)) (he : P.underlying e = some (.int k)) (hs : (sizeOf e).run P w = .ok 1 w) (ha : (isAgg e).run P w = .ok false w) :
    (Op.equalIn (d + 2) t (.agg (nums k f n).toArray) (.agg (nums k g n).toArray)).run P w = .ok (eqB f g n) w := by
  rw [Op.equalIn]
  simp only [Sem.run_bind, run_underlying ht, Result.andThen_ok, hs]
  simp only [Std.Legacy.Range.forIn_eq_forIn_range']
  have hn : ([:n] : Std.Legacy.Range).size = n := by simp [Std.Legacy.Range.size]
  rw [hn]
  rw [eq_loop2 (w := w) (P := P) _ f g n 0 (fun i _ hi => ?_), Result.andThen_ok]
  · have er : eqB f g n = eqF f g 0 n := by
      rw [Bool.eq_iff_iff, eqF_iff]
      unfold eqB
      rw [decide_eq_true_iff]
      exact ⟨fun h i _ h2 => h i (by omega), fun h i h2 => h i (Nat.zero_le _) (by omega)⟩
    rw [er]
    cases eqF f g 0 n <;> rfl
  · have h1 : i < n := by omega
    have r1 := run_equalIn_int (P := P) w d e k k (f i) (g i) he
    by_cases q : f i = g i
    · rw [q] at r1
      simp [Sem.run_bind, run_part1 h1 hs ha, q, r1]
    · simp [Sem.run_bind, run_part1 h1 hs ha, r1, q]
/-- '==' of two arrays of 16, of 17 bytes -/
theorem eq16 (f g : Nat → Int) (w : World) : (Op.equalIn 10000 29 (.agg (nums .u8 f 16).toArray) (.agg (nums .u8 g 16).toArray)).run Try.prog w = .ok (eqB f g 16) w :=
  eq_nums2 (n := 16) f g 9998 Try.underlying29 Try.underlying5 (by simp [go_sem]) (by simp [go_sem])
theorem eq17 (f g : Nat → Int) (w : World) : (Op.equalIn 10000 48 (.agg (nums .u8 f 17).toArray) (.agg (nums .u8 g 17).toArray)).run Try.prog w = .ok (eqB f g 17) w :=
  eq_nums2 (n := 17) f g 9998 Try.underlying48 Try.underlying5 (by simp [go_sem]) (by simp [go_sem])
theorem or_zero (x y : Int) (hx : inB x) (hy : inB y) : inB (bits .or .u8 x y) ∧ (bits .or .u8 x y = 0 ↔ x = 0 ∧ y = 0) := by
  obtain ⟨a, rfl⟩ := Int.eq_ofNat_of_zero_le hx.1
  obtain ⟨b, rfl⟩ := Int.eq_ofNat_of_zero_le hy.1
  have h1 := hx.2; have h2 := hy.2
  have hl := Nat.or_lt_two_pow (n := 8) (x := a) (y := b) (by omega) (by omega)
  rw [u8_or_nat a b (by omega) (by omega)]
  have : a ||| b = 0 ↔ a = 0 ∧ b = 0 := Nat.or_eq_zero_iff
  unfold inB
  omega
theorem xor_zero (x y : Int) (hx : inB x) (hy : inB y) : bits .xor .u8 x y = 0 ↔ x = y := by
  obtain ⟨a, rfl⟩ := Int.eq_ofNat_of_zero_le hx.1
  obtain ⟨b, rfl⟩ := Int.eq_ofNat_of_zero_le hy.1
  have h1 := hx.2; have h2 := hy.2
  rw [u8_xor_nat a b (by omega) (by omega)]
  have : a ^^^ b = 0 ↔ a = b := ⟨fun h => by have := congrArg (· ^^^ b) h; simpa [Nat.xor_assoc] using this, fun h => by rw [h, Nat.xor_self]⟩
  omega
attribute [local go_sem] nums_length

theorem few_any (p : Option Addr) (n c T : Nat) (e : (if 300 < (n : Int) then 300 else (n : Int)) = (T : Int)) (hT : T ≤ c) (w : World) :
    Calls Try.prog 6 #[.slice p n c] w fun e w' => e = .returned (.slice p T c) ∧ Below w.heap.size w w' := by
  have T0 : (0 : Int) ≤ (T : Int) := by omega
  have T1 : (T : Int) ≤ (c : Int) := by omega
  go_enter Try.func6, Try.ntmps6
  go_wp2_with (fail)
  go_ret
  exact ⟨by first | rfl | simp [sliced_head], Below.refl _ _⟩
end Go.Proofs.Ytbofihejegbfhaa
