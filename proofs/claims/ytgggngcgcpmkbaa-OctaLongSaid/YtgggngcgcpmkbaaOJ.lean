/- octa: what a code says of a direction, in numbers. -/
import Derived.Test.YtgggngcgcpmkbaaOE
namespace Go.Proofs.Ytgggngcgcpmkbaa
set_option linter.unusedVariables false
set_option maxRecDepth 2000
set_option linter.unusedSimpArgs false
open Go.RowKit
attribute [local go_sem] setCell_twice setCell_pair

theorem mul_lt_cancel (L a b : Int) (hL : 0 < L) (h : L * a ≤ L * b) : a ≤ b := Int.le_of_mul_le_mul_left h hL
/-- the code of a direction says the parts rounded, and what is left of the octahedron -/
theorem enc_dec (x y z : Int) (h : dirB x y z = true) :
    decX (encU x y z) (encV x y z) = qI x (encL x y z) ∧ decY (encU x y z) (encV x y z) = qI y (encL x y z) ∧
    decZ (encU x y z) (encV x y z) = (if z < 0 then absI (qI x (encL x y z)) + absI (qI y (encL x y z)) - 16384 else 16384 - absI (qI x (encL x y z)) - absI (qI y (encL x y z))) := by
  obtain ⟨_, _, bL, lx, ly⟩ := enc_bd x y z h
  obtain ⟨h0, hx, hy, hz⟩ := (dirB_iff x y z).1 h
  have bA := absI_bd x 16384 hx
  have bB := absI_bd y 16384 hy
  have qx := oq_bd (absI x) _ bA.1 lx bL
  have qy := oq_bd (absI y) _ bB.1 ly bL
  have ex : 16384 * absI x / encL x y z * encL x y z ≤ 16384 * absI x := Int.ediv_mul_le _ (by omega)
  have ey : 16384 * absI y / encL x y z * encL x y z ≤ 16384 * absI y := Int.ediv_mul_le _ (by omega)
  have sum : 16384 * absI x / encL x y z + 16384 * absI y / encL x y z ≤ 16384 := by
    refine mul_lt_cancel (encL x y z) _ _ (by omega) ?_
    rw [Int.mul_add, Int.mul_comm (encL x y z) (16384 * absI x / encL x y z), Int.mul_comm (encL x y z) (16384 * absI y / encL x y z)]
    have : absI x + absI y ≤ encL x y z := by have := absI_bd z 16384 hz; unfold encL; omega
    omega
  -- where one part is all, the other ones are nothing
  have full : ∀ s : Int, 0 ≤ s → 16384 * s / encL x y z = 16384 → s * 16384 ≥ encL x y z * 16384 := fun s hs hq => by
    have e := Int.ediv_mul_le (16384 * s) (show encL x y z ≠ 0 by omega)
    rw [hq] at e
    omega
  have fx := full (absI x) bA.1
  have fy := full (absI y) bB.1
  have eL : encL x y z = absI x + absI y + absI z := rfl
  have bE := absI_bd z 16384 hz
  have zz : z < 0 → 1 ≤ absI z := by unfold absI; split <;> omega
  unfold encU encV qI
  generalize 16384 * absI x / encL x y z = A at *
  generalize 16384 * absI y / encL x y z = B at *
  generalize encL x y z = L at *
  rw [absI_sgn x A qx.1, absI_sgn y B qy.1]
  by_cases s : z < 0
  · have hz1 := zz s
    have sA : A < 16384 := by omega
    have sB : B < 16384 := by omega
    rw [if_pos s, if_pos s, if_pos s]
    unfold decX decY decZ
    rw [absI_sgn x _ (by omega), absI_sgn y _ (by omega)]
    unfold sgnI
    refine ⟨?_, ?_, ?_⟩
    all_goals (repeat' split) <;> omega
  · rw [if_neg s, if_neg s, if_neg s]
    unfold decX decY decZ
    rw [absI_sgn x _ (by omega), absI_sgn y _ (by omega)]
    unfold sgnI
    refine ⟨?_, ?_, ?_⟩
    all_goals (repeat' split) <;> omega
/-- the halves of a code -/
theorem mid_enc (x y z : Int) (h : dirB x y z = true) : mid (encC x y z / 65536) = encU x y z ∧ mid (encC x y z % 65536) = encV x y z ∧ 0 ≤ encC x y z ∧ encC x y z < 4294967296 := by
  obtain ⟨bU, bV, _⟩ := enc_bd x y z h
  unfold mid encC
  omega
theorem mid_le (u : Int) (h : 0 ≤ u) : -16384 ≤ mid u ∧ mid u ≤ 16384 := mid_bd u h
/-- what a code says is on the octahedron -/
theorem dec_oct (a b : Int) (ha : -16384 ≤ a ∧ a ≤ 16384) (hb : -16384 ≤ b ∧ b ≤ 16384) : absI (decX a b) + absI (decY a b) + absI (decZ a b) = 16384 := by
  have ba := absI_bd a 16384 ha
  have bb := absI_bd b 16384 hb
  by_cases s : decZ a b < 0
  · unfold decX decY
    rw [if_pos s, if_pos s, absI_sgn _ _ (by omega), absI_sgn _ _ (by omega)]
    have : absI (decZ a b) = -decZ a b := by unfold absI; rw [if_pos s]
    rw [this]
    unfold decZ
    omega
  · unfold decX decY
    rw [if_neg s, if_neg s]
    have : absI (decZ a b) = decZ a b := by unfold absI; rw [if_neg s]
    rw [this]
    unfold decZ
    omega
theorem oct_dir (x y z : Int) (h : absI x + absI y + absI z = 16384) : dirB x y z = true := by
  rw [dirB_iff]
  unfold absI at h
  split at h <;> split at h <;> split at h <;> omega
theorem q_full (x : Int) : qI x 16384 = x := by
  unfold qI
  rw [Int.mul_ediv_cancel_left _ (by decide)]
  unfold sgnI absI
  split <;> omega
/-- a direction on the octahedron is the direction of its own code -/
theorem oct_back (x y z : Int) (h : absI x + absI y + absI z = 16384) : decV (encC x y z) = .agg #[.int .i64 x, .int .i64 y, .int .i64 z] := by
  have hd := oct_dir x y z h
  obtain ⟨eu, ev, _, _⟩ := mid_enc x y z hd
  obtain ⟨e1, e2, e3⟩ := enc_dec x y z hd
  have eL : encL x y z = 16384 := h
  rw [eL, q_full] at e1
  rw [eL, q_full] at e2
  rw [eL, q_full, q_full] at e3
  have e4 : (if z < 0 then absI x + absI y - 16384 else 16384 - absI x - absI y) = z := by
    have : absI z = if z < 0 then -z else z := rfl
    split <;> (rename_i s; simp [s] at this; omega)
  unfold decV
  rw [eu, ev, e1, e2, e3, e4]
/-- how near the direction of a code is -/
theorem near_num (x y z : Int) (h : dirB x y z = true) :
    absI (qI x (encL x y z) * encL x y z - x * 16384) ≤ 2 * encL x y z ∧ absI (qI y (encL x y z) * encL x y z - y * 16384) ≤ 2 * encL x y z ∧
    absI (decZ (encU x y z) (encV x y z) * encL x y z - z * 16384) ≤ 2 * encL x y z := by
  obtain ⟨_, _, bL, lx, ly⟩ := enc_bd x y z h
  obtain ⟨_, _, e3⟩ := enc_dec x y z h
  obtain ⟨h0, hx, hy, hz⟩ := (dirB_iff x y z).1 h
  have bA := absI_bd x 16384 hx
  have bB := absI_bd y 16384 hy
  have qx := oq_bd (absI x) _ bA.1 lx bL
  have qy := oq_bd (absI y) _ bB.1 ly bL
  have ex := Int.mul_ediv_add_emod (16384 * absI x) (encL x y z)
  have ey := Int.mul_ediv_add_emod (16384 * absI y) (encL x y z)
  have rx := Int.emod_nonneg (16384 * absI x) (show encL x y z ≠ 0 by omega)
  have ry := Int.emod_nonneg (16384 * absI y) (show encL x y z ≠ 0 by omega)
  have rx2 := Int.emod_lt_of_pos (16384 * absI x) (show 0 < encL x y z by omega)
  have ry2 := Int.emod_lt_of_pos (16384 * absI y) (show 0 < encL x y z by omega)
  rw [e3]
  have eL : encL x y z = absI x + absI y + absI z := rfl
  unfold qI
  generalize 16384 * absI x % encL x y z = r at *
  generalize 16384 * absI y % encL x y z = s at *
  generalize 16384 * absI x / encL x y z = A at *
  generalize 16384 * absI y / encL x y z = B at *
  generalize encL x y z = L at *
  rw [absI_sgn x A qx.1, absI_sgn y B qy.1]
  have sg : ∀ t k : Int, 0 ≤ k → absI (sgnI t k * L - t * 16384) = absI (k * L - absI t * 16384) := fun t k _ => by
    unfold sgnI
    by_cases c : t < 0
    · rw [if_pos c, show absI t = -t by unfold absI; rw [if_pos c], Int.neg_mul]
      unfold absI
      split <;> split <;> omega
    · rw [if_neg c, show absI t = t by unfold absI; rw [if_neg c]]
  refine ⟨?_, ?_, ?_⟩
  · rw [sg x A qx.1, Int.mul_comm A L]
    unfold absI at ex ⊢
    generalize L * A = P at *
    split <;> omega
  · rw [sg y B qy.1, Int.mul_comm B L]
    generalize L * B = P at *
    have : absI (P - absI y * 16384) ≤ 2 * L := by
      generalize absI y = b at *
      unfold absI
      split <;> omega
    exact this
  · have eN : 16384 * L = 16384 * absI x + 16384 * absI y + 16384 * absI z := by omega
    by_cases c : z < 0
    · rw [if_pos c]
      have ez : absI z = -z := by unfold absI; rw [if_pos c]
      rw [Int.sub_mul, Int.add_mul, Int.mul_comm A L, Int.mul_comm B L]
      generalize L * A = P at *
      generalize L * B = Q at *
      have : absI (P + Q - 16384 * L - z * 16384) = absI (-(r + s)) := by congr 1; omega
      rw [this]
      unfold absI
      split <;> omega
    · rw [if_neg c]
      have ez : absI z = z := by unfold absI; rw [if_neg c]
      rw [Int.sub_mul, Int.sub_mul, Int.mul_comm A L, Int.mul_comm B L]
      generalize L * A = P at *
      generalize L * B = Q at *
      have : absI (16384 * L - P - Q - z * 16384) = absI (r + s) := by congr 1; omega
      rw [this]
      unfold absI
      split <;> omega
end Go.Proofs.Ytgggngcgcpmkbaa
