/- codec: numbers: digits to the base 256, of numbers and of signed ones; the number of bytes; what fits; what a reader answers. -/
import Derived.Test.YtbhdlpndmbhaiaaHU
namespace Go.Proofs.Ytbhdlpndmbhaiaa
set_option linter.unusedVariables false
set_option maxRecDepth 2000
set_option linter.unusedSimpArgs false
open Go.RowKit
/-- 256 to the power of w -/
def pw (W : Nat) : Int := (256 : Int) ^ W
theorem pw_succ (W : Nat) : pw (W + 1) = 256 * pw W := by unfold pw; rw [Int.pow_succ]; exact Int.mul_comm _ _
theorem pw_zero : pw 0 = 1 := rfl
theorem pw_pos (W : Nat) : 0 < pw W := by unfold pw; exact Int.pow_pos (by decide)
theorem pw_two (i : Nat) : pw i = (2 : Int) ^ (8 * i) := by
  unfold pw
  rw [Int.pow_mul]
  rfl
theorem pw_add (a b : Nat) : pw (a + b) = pw a * pw b := by unfold pw; exact Int.pow_add _ _ _
/-- the i-th digit -/
def dg (z : Int) (i : Nat) : Int := z / pw i % 256
theorem in_dg (z : Int) (i : Nat) : inB (dg z i) := by unfold inB dg; omega
/-- bytes, and behind them numbers of W bytes each -/
def outF (f : Nat → Int) (m W : Nat) (g : Nat → Int) (j : Nat) : Int := if j < m then f j else dg (g ((j - m) / W)) ((j - m) % W)
theorem outF_head (f : Nat → Int) (m W : Nat) (g : Nat → Int) {j : Nat} (h : j < m) : outF f m W g j = f j := by unfold outF; rw [if_pos h]
theorem outF_dg (f : Nat → Int) (m W : Nat) (g : Nat → Int) (k i : Nat) (h : i < W) : outF f m W g (m + W * k + i) = dg (g k) i := by
  unfold outF
  have e : m + W * k + i - m = i + W * k := by omega
  rw [if_neg (by omega), e, Nat.add_mul_div_left _ _ (by omega), Nat.div_eq_of_lt h, Nat.zero_add, Nat.add_mul_mod_self_left, Nat.mod_eq_of_lt h]
theorem in_outF (f : Nat → Int) (m W : Nat) (g : Nat → Int) (j : Nat) (hf : ∀ i, i < m → inB (f i)) : inB (outF f m W g j) := by
  unfold outF
  split
  · exact hf j (by assumption)
  · exact in_dg _ _
theorem outF_congr (f f' : Nat → Int) (m W n : Nat) (g g' : Nat → Int) (hf : ∀ j, j < m → f j = f' j) (hg : ∀ k i, k < n → i < W → dg (g k) i = dg (g' k) i) {j : Nat} (hj : j < m + W * n) : outF f m W g j = outF f' m W g' j := by
  unfold outF
  by_cases h : j < m
  · rw [if_pos h, if_pos h, hf j h]
  · rw [if_neg h, if_neg h]
    have hW : 0 < W := by
      rcases Nat.eq_zero_or_pos W with h0 | h0
      · subst h0; omega
      · exact h0
    exact hg _ _ (Nat.div_lt_of_lt_mul (by omega)) (Nat.mod_lt _ hW)
/-- all of the first n -/
def allB (p : Nat → Bool) : Nat → Bool
  | 0 => true
  | n + 1 => allB p n && p n
theorem allB_iff {p : Nat → Bool} {n : Nat} : allB p n = true ↔ ∀ k, k < n → p k = true := by
  induction n with
  | zero => simp [allB]
  | succ n ih =>
    simp only [allB, Bool.and_eq_true, ih]
    exact ⟨fun h k hk => (Nat.lt_succ_iff_lt_or_eq.1 hk).elim (h.1 k) (fun e => e ▸ h.2), fun h => ⟨fun k hk => h k (by omega), h n (by omega)⟩⟩
theorem allB_not {p : Nat → Bool} {n k : Nat} (hk : k < n) (h : p k = false) : allB p n = false := by
  cases e : allB p n with
  | false => rfl
  | true => exact absurd (allB_iff.1 e k hk) (by simp [h])
theorem allB_congr {p q : Nat → Bool} {n : Nat} (h : ∀ k, k < n → p k = q k) : allB p n = allB q n := by
  induction n with
  | zero => rfl
  | succ n ih => rw [allB, allB, ih (fun k hk => h k (by omega)), h n (by omega)]
/-- a number that fits, one with a sign that fits -/
def fitU (W : Nat) (z : Int) : Bool := decide (z < pw W)
def fitS (W : Nat) (z : Int) : Bool := decide (-pw W ≤ 2 * z ∧ 2 * z < pw W)
def badW (wd : Int) : Bool := decide (wd < 1 ∨ 8 < wd)
/-- the error of Put and Signed, and how many bytes they tell -/
def putE (fit : Nat → Int → Bool) (wd : Int) (n : Nat) (g : Nat → Int) : Int := if badW wd then 2 else if allB (fun k => fit wd.toNat (g k)) n then 0 else 3
def putL (m n : Nat) (wd E : Int) : Nat := if E = 0 then m + wd.toNat * n else 0
theorem wide_cases {W : Nat} (h1 : 1 ≤ W) (h8 : W ≤ 8) : W = 1 ∨ W = 2 ∨ W = 3 ∨ W = 4 ∨ W = 5 ∨ W = 6 ∨ W = 7 ∨ W = 8 := by omega
theorem pw_vals : pw 1 = 256 ∧ pw 2 = 65536 ∧ pw 3 = 16777216 ∧ pw 4 = 4294967296 ∧ pw 5 = 1099511627776 ∧ pw 6 = 281474976710656 ∧ pw 7 = 72057594037927936 ∧ pw 8 = 18446744073709551616 := by
  refine ⟨rfl, rfl, rfl, rfl, rfl, rfl, rfl, rfl⟩
theorem pw_le {W : Nat} (h8 : W ≤ 8) : pw W ≤ 18446744073709551616 := by
  obtain ⟨p1, p2, p3, p4, p5, p6, p7, p8⟩ := pw_vals
  rcases Nat.eq_zero_or_pos W with h | h
  · subst h; rw [pw_zero]; decide
  · rcases wide_cases h h8 with rfl | rfl | rfl | rfl | rfl | rfl | rfl | rfl
    · rw [p1]; decide
    · rw [p2]; decide
    · rw [p3]; decide
    · rw [p4]; decide
    · rw [p5]; decide
    · rw [p6]; decide
    · rw [p7]; decide
    · rw [p8]; decide
theorem pw_even {W : Nat} (h : 1 ≤ W) : pw W % 2 = 0 := by
  obtain ⟨k, rfl⟩ : ∃ k, W = k + 1 := ⟨W - 1, by omega⟩
  rw [pw_succ]
  omega
/-- the number of n bytes, least significant first -/
def leN (f : Nat → Int) : Nat → Int
  | 0 => 0
  | n + 1 => leN f n + pw n * f n
theorem leN_lt (f : Nat → Int) (n : Nat) (h : ∀ j, j < n → inB (f j)) : 0 ≤ leN f n ∧ leN f n < pw n := by
  induction n with
  | zero => simp [leN, pw_zero]
  | succ n ih =>
    have := ih fun j hj => h j (by omega)
    have hb := h n (by omega)
    unfold inB at hb
    rw [leN, pw_succ]
    have hp := pw_pos n
    constructor
    · exact Int.add_nonneg this.1 (Int.mul_nonneg (Int.le_of_lt hp) hb.1)
    · have : pw n * f n ≤ pw n * 255 := Int.mul_le_mul_of_nonneg_left (by omega) (Int.le_of_lt hp)
      omega
theorem leN_congr {f g : Nat → Int} {n : Nat} (h : ∀ j, j < n → f j = g j) : leN f n = leN g n := by
  induction n with
  | zero => rfl
  | succ n ih => rw [leN, leN, ih (fun j hj => h j (by omega)), h n (by omega)]
/-- digits, and the number of them -/
theorem leN_dg (z : Int) (n : Nat) : leN (dg z) n = z % pw n := by
  induction n with
  | zero => rw [leN, pw_zero]; omega
  | succ n ih =>
    rw [leN, ih, dg, pw_succ]
    have hp := pw_pos n
    -- z % (256 p) = z % p + p (z / p % 256)
    have h1 := Int.emod_add_mul_ediv z (pw n)
    have h2 := Int.emod_add_mul_ediv (z / pw n) 256
    have r0 := Int.emod_nonneg z (Int.ne_of_gt hp)
    have r1 := Int.emod_lt_of_pos z hp
    generalize pw n = p at *
    generalize z % p = r at *
    generalize z / p = q at *
    have d0 := Int.emod_nonneg q (show (256 : Int) ≠ 0 by decide)
    have d1 := Int.emod_lt_of_pos q (show (0 : Int) < 256 by decide)
    generalize q % 256 = d at *
    generalize q / 256 = e at *
    subst h2 h1
    have e1 : r + p * (d + 256 * e) = (r + p * d) + 256 * p * e := by grind
    rw [e1, Int.add_mul_emod_self_left]
    have : 0 ≤ p * d := Int.mul_nonneg (Int.le_of_lt hp) d0
    have : p * d ≤ p * 255 := Int.mul_le_mul_of_nonneg_left (by omega) (Int.le_of_lt hp)
    rw [Int.emod_eq_of_lt (by omega) (by omega)]
/-- digits of numbers that differ by a power -/
theorem dg_add (z : Int) (W i : Nat) (h : i < W) : dg (pw W + z) i = dg z i := by
  unfold dg
  obtain ⟨k, rfl⟩ : ∃ k, W = i + (k + 1) := ⟨W - i - 1, by omega⟩
  rw [pw_add, pw_succ, Int.mul_add_ediv_left _ _ (Int.ne_of_gt (pw_pos i)), Int.add_comm, Int.add_mul_emod_self_left]
theorem dg_next (z : Int) (i : Nat) : z / pw i / 256 = z / pw (i + 1) := by
  rw [Int.ediv_ediv, if_neg (fun h => absurd h.1 (Int.not_lt.2 (Int.le_of_lt (pw_pos i)))), Int.sub_zero, pw_succ, Int.mul_comm]
/-- the number of the bytes as a signed one -/
def sgn (z : Int) (W : Nat) : Int := if pw W ≤ 2 * z then z - pw W else z
theorem sgn_back (z : Int) (W : Nat) (h1 : 1 ≤ W) (h : fitS W z = true) : sgn (z % pw W) W = z := by
  have hp := pw_pos W
  have he := pw_even h1
  simp only [fitS, decide_eq_true_eq] at h
  unfold sgn
  by_cases h0 : 0 ≤ z
  · rw [Int.emod_eq_of_lt h0 (by omega), if_neg (by omega)]
  · have e : z % pw W = z + pw W := by
      rw [← Int.add_emod_right, Int.emod_eq_of_lt (by omega) (by omega)]
    rw [e, if_pos (by omega)]
    omega
theorem u_back (z : Int) (W : Nat) (h0 : 0 ≤ z) (h : fitU W z = true) : z % pw W = z := by
  simp only [fitU, decide_eq_true_eq] at h
  exact Int.emod_eq_of_lt h0 h
end Go.Proofs.Ytbhdlpndmbhaiaa
