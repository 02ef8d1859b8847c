/- umbralaw04.AffineWhole for all whole numbers. -/
import Derived.Test.YtgggngcgcpmkbaaAV
import Derived.Test.YtgggngcgcpmkbaaAM
namespace Go.Proofs.Ytgggngcgcpmkbaa
set_option linter.unusedVariables false
set_option maxRecDepth 2000
set_option linter.unusedSimpArgs false
open Go.RowKit
attribute [local go_sem] setCell_twice setCell_pair

theorem prod_s (m q : Int) (hm : -128 ≤ m ∧ m ≤ 127) (hq : -128 ≤ q ∧ q ≤ 127) : -16384 ≤ m * q ∧ m * q ≤ 16384 := by
  have e : (m * q).natAbs ≤ 128 * 128 := by rw [Int.natAbs_mul]; exact Nat.mul_le_mul (by omega) (by omega)
  generalize m * q = z at *
  omega
theorem sat_s (x : Int) (h : -1000000 ≤ x ∧ x ≤ 1000000) : sat (x * 4294967296) = x * 4294967296 := sat_in _ (by omega) (by omega)
theorem mulF_s (m q : Int) (hm : -128 ≤ m ∧ m ≤ 127) (hq : -128 ≤ q ∧ q ≤ 127) : mulF (m * 4294967296) (q * 4294967296) = (m * q) * 4294967296 := by
  have b := prod_s m q hm hq
  unfold mulF
  rw [show m * 4294967296 * (q * 4294967296) = (m * q * 4294967296) * 4294967296 by ac_rfl, Int.mul_ediv_cancel _ (by decide)]
  exact sat_s _ (by omega)
theorem dot_s (a b c x y z : Int) (ha : -128 ≤ a ∧ a ≤ 127) (hb : -128 ≤ b ∧ b ≤ 127) (hc : -128 ≤ c ∧ c ≤ 127) (hx : -128 ≤ x ∧ x ≤ 127) (hy : -128 ≤ y ∧ y ≤ 127) (hz : -128 ≤ z ∧ z ≤ 127) :
    dotF (a * 4294967296) (b * 4294967296) (c * 4294967296) (x * 4294967296) (y * 4294967296) (z * 4294967296) = (a * x + b * y + c * z) * 4294967296 := by
  have p := prod_s a x ha hx
  have q := prod_s b y hb hy
  have r := prod_s c z hc hz
  unfold dotF
  rw [mulF_s a x ha hx, mulF_s b y hb hy, mulF_s c z hc hz]
  generalize a * x = u at *
  generalize b * y = v at *
  generalize c * z = t at *
  rw [← Int.add_mul, sat_s (u + v) (by omega), ← Int.add_mul, sat_s _ (by omega)]
theorem row_s (a b c x y z t : Int) (ha : -128 ≤ a ∧ a ≤ 127) (hb : -128 ≤ b ∧ b ≤ 127) (hc : -128 ≤ c ∧ c ≤ 127) (hx : -128 ≤ x ∧ x ≤ 127) (hy : -128 ≤ y ∧ y ≤ 127) (hz : -128 ≤ z ∧ z ≤ 127) (ht : -32768 ≤ t ∧ t ≤ 32767) :
    rnd (sat (dotF (a * 4294967296) (b * 4294967296) (c * 4294967296) (x * 4294967296) (y * 4294967296) (z * 4294967296) + t * 4294967296)) = a * x + b * y + c * z + t := by
  have p := prod_s a x ha hx
  have q := prod_s b y hb hy
  have r := prod_s c z hc hz
  rw [dot_s a b c x y z ha hb hc hx hy hz]
  generalize a * x = u at *
  generalize b * y = v at *
  generalize c * z = s at *
  rw [← Int.add_mul, sat_s _ (by omega)]
  unfold rnd
  omega
theorem absF_s (m k : Int) (h : -k ≤ m ∧ m ≤ k) (hk : k ≤ 100000) : absF (m * 4294967296) ≤ k * 4294967296 := by
  unfold absF
  split
  · rw [show -(m * 4294967296) = (-m) * 4294967296 by omega, sat_s _ (by omega)]
    omega
  · omega

def wholeA (m0 m1 m2 m3 m4 m5 m6 m7 m8 t0 t1 t2 : Int) : Aff := ⟨m0 * 4294967296, m1 * 4294967296, m2 * 4294967296, m3 * 4294967296, m4 * 4294967296, m5 * 4294967296, m6 * 4294967296, m7 * 4294967296, m8 * 4294967296, t0 * 4294967296, t1 * 4294967296, t2 * 4294967296⟩
theorem wholeA_in (m0 m1 m2 m3 m4 m5 m6 m7 m8 t0 t1 t2 : Int) (hm0 : -128 ≤ m0 ∧ m0 ≤ 127) (hm1 : -128 ≤ m1 ∧ m1 ≤ 127) (hm2 : -128 ≤ m2 ∧ m2 ≤ 127) (hm3 : -128 ≤ m3 ∧ m3 ≤ 127) (hm4 : -128 ≤ m4 ∧ m4 ≤ 127) (hm5 : -128 ≤ m5 ∧ m5 ≤ 127) (hm6 : -128 ≤ m6 ∧ m6 ≤ 127) (hm7 : -128 ≤ m7 ∧ m7 ≤ 127) (hm8 : -128 ≤ m8 ∧ m8 ≤ 127) (ht0 : -32768 ≤ t0 ∧ t0 ≤ 32767) (ht1 : -32768 ≤ t1 ∧ t1 ≤ 32767) (ht2 : -32768 ≤ t2 ∧ t2 ≤ 32767) : inA (wholeA m0 m1 m2 m3 m4 m5 m6 m7 m8 t0 t1 t2) := by
  unfold inA wholeA in64
  dsimp only
  omega
theorem wholeA_chk (m0 m1 m2 m3 m4 m5 m6 m7 m8 t0 t1 t2 : Int) (hm0 : -128 ≤ m0 ∧ m0 ≤ 127) (hm1 : -128 ≤ m1 ∧ m1 ≤ 127) (hm2 : -128 ≤ m2 ∧ m2 ≤ 127) (hm3 : -128 ≤ m3 ∧ m3 ≤ 127) (hm4 : -128 ≤ m4 ∧ m4 ≤ 127) (hm5 : -128 ≤ m5 ∧ m5 ≤ 127) (hm6 : -128 ≤ m6 ∧ m6 ≤ 127) (hm7 : -128 ≤ m7 ∧ m7 ≤ 127) (hm8 : -128 ≤ m8 ∧ m8 ≤ 127) (ht0 : -32768 ≤ t0 ∧ t0 ≤ 32767) (ht1 : -32768 ≤ t1 ∧ t1 ≤ 32767) (ht2 : -32768 ≤ t2 ∧ t2 ≤ 32767) : chkA (wholeA m0 m1 m2 m3 m4 m5 m6 m7 m8 t0 t1 t2) = 0 := by
  have em0 := absF_s m0 128 (by omega) (by omega)
  have em1 := absF_s m1 128 (by omega) (by omega)
  have em2 := absF_s m2 128 (by omega) (by omega)
  have em3 := absF_s m3 128 (by omega) (by omega)
  have em4 := absF_s m4 128 (by omega) (by omega)
  have em5 := absF_s m5 128 (by omega) (by omega)
  have em6 := absF_s m6 128 (by omega) (by omega)
  have em7 := absF_s m7 128 (by omega) (by omega)
  have em8 := absF_s m8 128 (by omega) (by omega)
  have et0 := absF_s t0 32768 (by omega) (by omega)
  have et1 := absF_s t1 32768 (by omega) (by omega)
  have et2 := absF_s t2 32768 (by omega) (by omega)
  unfold chkA chkF mostF wholeA
  dsimp only
  rw [if_neg]
  simp only [List.any_cons, List.any_nil, Bool.or_false, Bool.or_eq_true, decide_eq_true_eq]
  omega
theorem wholeA_place (m0 m1 m2 m3 m4 m5 m6 m7 m8 t0 t1 t2 q0 q1 q2 : Int) (hm0 : -128 ≤ m0 ∧ m0 ≤ 127) (hm1 : -128 ≤ m1 ∧ m1 ≤ 127) (hm2 : -128 ≤ m2 ∧ m2 ≤ 127) (hm3 : -128 ≤ m3 ∧ m3 ≤ 127) (hm4 : -128 ≤ m4 ∧ m4 ≤ 127) (hm5 : -128 ≤ m5 ∧ m5 ≤ 127) (hm6 : -128 ≤ m6 ∧ m6 ≤ 127) (hm7 : -128 ≤ m7 ∧ m7 ≤ 127) (hm8 : -128 ≤ m8 ∧ m8 ≤ 127) (ht0 : -32768 ≤ t0 ∧ t0 ≤ 32767) (ht1 : -32768 ≤ t1 ∧ t1 ≤ 32767) (ht2 : -32768 ≤ t2 ∧ t2 ≤ 32767) (hq0 : -128 ≤ q0 ∧ q0 ≤ 127) (hq1 : -128 ≤ q1 ∧ q1 ≤ 127) (hq2 : -128 ≤ q2 ∧ q2 ≤ 127) : placeV (wholeA m0 m1 m2 m3 m4 m5 m6 m7 m8 t0 t1 t2) q0 q1 q2 = snapV (m0 * q0 + m1 * q1 + m2 * q2 + t0) (m3 * q0 + m4 * q1 + m5 * q2 + t1) (m6 * q0 + m7 * q1 + m8 * q2 + t2) := by
  unfold placeV
  rw [if_pos (wholeA_chk m0 m1 m2 m3 m4 m5 m6 m7 m8 t0 t1 t2 hm0 hm1 hm2 hm3 hm4 hm5 hm6 hm7 hm8 ht0 ht1 ht2)]
  unfold placeX placeY placeZ A0 A1 A2 T0 T1 T2 wh
  rw [sat_s q0 (by omega), sat_s q1 (by omega), sat_s q2 (by omega)]
  unfold wholeA
  dsimp only
  rw [row_s m0 m1 m2 q0 q1 q2 t0 hm0 hm1 hm2 hq0 hq1 hq2 ht0, row_s m3 m4 m5 q0 q1 q2 t1 hm3 hm4 hm5 hq0 hq1 hq2 ht1, row_s m6 m7 m8 q0 q1 q2 t2 hm6 hm7 hm8 hq0 hq1 hq2 ht2]

theorem wr (x : Int) (h : -1000000 ≤ x ∧ x ≤ 1000000) : wrap64 x = x := IntWalk.wrap64_in x (by omega)
theorem FOf_s (m : Int) (h : -128 ≤ m ∧ m ≤ 127) (w : World) : Calls Try.prog 58 #[.int .i64 m] w fun e w' => e = .returned (.int .i64 (m * 4294967296)) ∧ Below w.heap.size w w' := by
  have := FOf_any m (by omega) (by omega) w
  rwa [sat_s m (by omega)] at this
theorem VOf_s (x y z : Int) (hx : -32768 ≤ x ∧ x ≤ 32767) (hy : -32768 ≤ y ∧ y ≤ 32767) (hz : -32768 ≤ z ∧ z ≤ 32767) (w : World) : Calls Try.prog 59 #[(.agg #[.int .i64 x, .int .i64 y, .int .i64 z])] w fun e w' => e = .returned (.agg #[.int .i64 (x * 4294967296), .int .i64 (y * 4294967296), .int .i64 (z * 4294967296)]) ∧ Below w.heap.size w w' := by
  have := VOf_any x y z (by unfold in64; omega) (by unfold in64; omega) (by unfold in64; omega) w
  rwa [sat_s x (by omega), sat_s y (by omega), sat_s z (by omega)] at this
/-- too far, told of the numbers -/
theorem far_iff (a b c : Int) : farB (farB (farB false a) b) c = !onGrid a b c := by
  unfold farB onGrid
  by_cases h1 : 65536 < a <;> by_cases h2 : a < -65536 <;> by_cases h3 : 65536 < b <;> by_cases h4 : b < -65536 <;> by_cases h5 : 65536 < c <;> by_cases h6 : c < -65536 <;> simp [*] <;> omega
theorem Whole_walk (m0 m1 m2 m3 m4 m5 m6 m7 m8 t0 t1 t2 q0 q1 q2 : Int) (hm0 : -128 ≤ m0 ∧ m0 ≤ 127) (hm1 : -128 ≤ m1 ∧ m1 ≤ 127) (hm2 : -128 ≤ m2 ∧ m2 ≤ 127) (hm3 : -128 ≤ m3 ∧ m3 ≤ 127) (hm4 : -128 ≤ m4 ∧ m4 ≤ 127) (hm5 : -128 ≤ m5 ∧ m5 ≤ 127) (hm6 : -128 ≤ m6 ∧ m6 ≤ 127) (hm7 : -128 ≤ m7 ∧ m7 ≤ 127) (hm8 : -128 ≤ m8 ∧ m8 ≤ 127) (ht0 : -32768 ≤ t0 ∧ t0 ≤ 32767) (ht1 : -32768 ≤ t1 ∧ t1 ≤ 32767) (ht2 : -32768 ≤ t2 ∧ t2 ≤ 32767) (hq0 : -128 ≤ q0 ∧ q0 ≤ 127) (hq1 : -128 ≤ q1 ∧ q1 ≤ 127) (hq2 : -128 ≤ q2 ∧ q2 ≤ 127) (w : World) : Calls Try.prog 14 #[(.agg #[.int .i8 m0, .int .i8 m1, .int .i8 m2, .int .i8 m3, .int .i8 m4, .int .i8 m5, .int .i8 m6, .int .i8 m7, .int .i8 m8]), (.agg #[.int .i16 t0, .int .i16 t1, .int .i16 t2]), (.agg #[.int .i8 q0, .int .i8 q1, .int .i8 q2])] w fun e w' => e = .returned (.bool true) ∧ Below w.heap.size w w' := by
  have b0 := prod_s m0 q0 hm0 hq0
  have b1 := prod_s m1 q1 hm1 hq1
  have b2 := prod_s m2 q2 hm2 hq2
  have b3 := prod_s m3 q0 hm3 hq0
  have b4 := prod_s m4 q1 hm4 hq1
  have b5 := prod_s m5 q2 hm5 hq2
  have b6 := prod_s m6 q0 hm6 hq0
  have b7 := prod_s m7 q1 hm7 hq1
  have b8 := prod_s m8 q2 hm8 hq2
  have pl := fun w => Place_any (wholeA m0 m1 m2 m3 m4 m5 m6 m7 m8 t0 t1 t2) q0 q1 q2 (wholeA_in m0 m1 m2 m3 m4 m5 m6 m7 m8 t0 t1 t2 hm0 hm1 hm2 hm3 hm4 hm5 hm6 hm7 hm8 ht0 ht1 ht2) (by unfold in64; omega) (by unfold in64; omega) (by unfold in64; omega) w
  rw [wholeA_place m0 m1 m2 m3 m4 m5 m6 m7 m8 t0 t1 t2 q0 q1 q2 hm0 hm1 hm2 hm3 hm4 hm5 hm6 hm7 hm8 ht0 ht1 ht2 hq0 hq1 hq2] at pl
  have core := fun X Y Z c => Whole_core m0 m1 m2 m3 m4 m5 m6 m7 m8 (m0 * 4294967296) (m1 * 4294967296) (m2 * 4294967296) (m3 * 4294967296) (m4 * 4294967296) (m5 * 4294967296) (m6 * 4294967296) (m7 * 4294967296) (m8 * 4294967296) t0 t1 t2 q0 q1 q2 (t0 * 4294967296) (t1 * 4294967296) (t2 * 4294967296) (m0 * q0) (m1 * q1) (m2 * q2) (m3 * q0) (m4 * q1) (m5 * q2) (m6 * q0) (m7 * q1) (m8 * q2) (m0 * q0 + m1 * q1) (m3 * q0 + m4 * q1) (m6 * q0 + m7 * q1) (m0 * q0 + m1 * q1 + m2 * q2) (m3 * q0 + m4 * q1 + m5 * q2) (m6 * q0 + m7 * q1 + m8 * q2) (m0 * q0 + m1 * q1 + m2 * q2 + t0) (m3 * q0 + m4 * q1 + m5 * q2 + t1) (m6 * q0 + m7 * q1 + m8 * q2 + t2) X Y Z c w
    (Lib.hid fun w => FOf_s m0 hm0 w) (Lib.hid fun w => FOf_s m1 hm1 w) (Lib.hid fun w => FOf_s m2 hm2 w) (Lib.hid fun w => FOf_s m3 hm3 w) (Lib.hid fun w => FOf_s m4 hm4 w) (Lib.hid fun w => FOf_s m5 hm5 w) (Lib.hid fun w => FOf_s m6 hm6 w) (Lib.hid fun w => FOf_s m7 hm7 w) (Lib.hid fun w => FOf_s m8 hm8 w) (Lib.hid fun w => VOf_s t0 t1 t2 ht0 ht1 ht2 w)
  have fin := fun X Y Z c pl hf => core X Y Z c (Lib.hid pl) (Lib.hid works_any)
    (Lib.hid (wr _ (by omega))) (Lib.hid (wr _ (by omega))) (Lib.hid (wr _ (by omega))) (Lib.hid (wr _ (by omega))) (Lib.hid (wr _ (by omega))) (Lib.hid (wr _ (by omega))) (Lib.hid (wr _ (by omega))) (Lib.hid (wr _ (by omega))) (Lib.hid (wr _ (by omega))) (Lib.hid (wr _ (by omega))) (Lib.hid (wr _ (by omega))) (Lib.hid (wr _ (by omega))) (Lib.hid (wr _ (by omega))) (Lib.hid (wr _ (by omega))) (Lib.hid (wr _ (by omega))) (Lib.hid (wr _ (by omega))) (Lib.hid (wr _ (by omega))) (Lib.hid (wr _ (by omega))) (Lib.hid (wr _ (by omega))) (Lib.hid (wr _ (by omega))) (Lib.hid (wr _ (by omega))) (Lib.hid (wr _ (by omega))) (Lib.hid (wr _ (by omega))) (Lib.hid (wr _ (by omega))) (Lib.hid (wr _ (by omega))) (Lib.hid (wr _ (by omega))) (Lib.hid (wr _ (by omega))) (Lib.hid (wr _ (by omega))) (Lib.hid (wr _ (by omega))) (Lib.hid (wr _ (by omega))) (Lib.hid (wr _ (by omega))) (Lib.hid (wr _ (by omega))) (Lib.hid (wr _ (by omega))) (Lib.hid hf)
  clear core
  cases hg : onGrid (m0 * q0 + m1 * q1 + m2 * q2 + t0) (m3 * q0 + m4 * q1 + m5 * q2 + t1) (m6 * q0 + m7 * q1 + m8 * q2 + t2) with
  | true =>
    refine fin _ _ _ _ (fun w => ?_) (.inr ⟨by rw [far_iff, hg]; rfl, rfl, rfl, rfl, rfl⟩)
    have := pl w
    rw [show snapV _ _ _ = _ from by unfold snapV; rw [hg]; try rfl] at this
    exact this
  | false =>
    refine fin _ _ _ _ (fun w => ?_) (.inl ⟨by rw [far_iff, hg]; rfl, rfl, rfl, rfl, rfl⟩)
    have := pl w
    rw [show snapV _ _ _ = _ from by unfold snapV; rw [hg]; try rfl] at this
    exact this
end Go.Proofs.Ytgggngcgcpmkbaa
