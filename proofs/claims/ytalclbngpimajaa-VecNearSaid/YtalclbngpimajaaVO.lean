/- umbralaw03.VecNear: the walk. -/
import Derived.Test.YtalclbngpimajaaVN
namespace Go.Proofs.Ytalclbngpimajaa
set_option linter.unusedVariables false
set_option maxRecDepth 2000
set_option linter.unusedSimpArgs false
open Go.RowKit
attribute [local go_sem] setCell_twice setCell_pair

/-- three numbers are those three -/
def eq3 (a b c d e f : Int) : Bool := a == d && (b == e && c == f)
theorem eqPoint (a b c d e f : Int) (w : World) : (binOp .eql 32 (.agg #[.int .i64 a, .int .i64 b, .int .i64 c]) (.agg #[.int .i64 d, .int .i64 e, .int .i64 f])).run Try.prog w = .ok (.bool (eq3 a b c d e f)) w := by
  unfold eq3
  by_cases h : a = d
  · subst h
    by_cases h2 : b = e
    · subst h2
      by_cases h3 : c = f
      · subst h3; simp [go_sem]
      · simp [go_sem, h3]
    · have hb : (b == e) = false := by simpa using h2
      simp [go_sem, hb]
  · have hb : (a == d) = false := by simpa using h
    simp [go_sem, hb]

theorem Near_zero (w : World)
    (tw : Hid (∀ w, Calls Try.prog 38 #[(.agg #[.int .i64 0, .int .i64 0, .int .i64 0])] w fun e w' => e = .returned (.agg #[.int .i64 0, .int .i64 0, .int .i64 0]) ∧ Below w.heap.size w w'))
    (wk : Hid (∀ w, Calls Try.prog 21 #[] w fun e w' => e = .returned (.bool true) ∧ Below w.heap.size w w')) :
    Calls Try.prog 8 #[(.agg #[.int .i64 0, .int .i64 0, .int .i64 0])] w fun e w' => e = .returned (.bool true) ∧ Below w.heap.size w w' := by
  go_enter Try.func8, Try.ntmps8
  go_wp2_with (fail); go_at_call 38; refine (tw.out _).mono ?_; rintro e w1 ⟨rfl, hb⟩
  have hB : Below w.heap.size w w1 := below_step (by repeat (first | exact Below.refl _ _ | assumption | refine below_drewN ?_ _ | refine Below.drew ?_ | refine Below.alloc ?_ (by first | omega | (simp; done) | (simp; omega)) _ | refine Below.setCell ?_ (by first | (simp; done) | (simp; omega)) _)) hb
  have hz : w.heap.size < w1.heap.size := (by have := hb.size; (try simp at this); omega)
  have c0a := hb.cell (p := ⟨w.heap.size, 0, none⟩) (by first | omega | (simp; done) | (simp; omega))
  have g0a := hb.frozen (p := ⟨w.heap.size, 0, none⟩) (by first | omega | (simp; done) | (simp; omega))
  have c1a := hb.cell (p := ⟨w.heap.size, 1, none⟩) (by first | omega | (simp; done) | (simp; omega))
  have g1a := hb.frozen (p := ⟨w.heap.size, 1, none⟩) (by first | omega | (simp; done) | (simp; omega))
  have c2a := hb.cell (p := ⟨w.heap.size, 2, none⟩) (by first | omega | (simp; done) | (simp; omega))
  have g2a := hb.frozen (p := ⟨w.heap.size, 2, none⟩) (by first | omega | (simp; done) | (simp; omega))
  simp [go_sem] at c0a g0a c1a g1a c2a g2a
  clear hb g0a g1a g2a
  go_wp2_with (fail); go_at_call 21; refine (wk.out _).mono ?_; rintro e w2 ⟨rfl, hb⟩
  have hB2 : Below w.heap.size w w2 := below_step (by repeat (first | exact Below.refl _ _ | assumption | refine below_drewN ?_ _ | refine Below.drew ?_ | refine Below.alloc ?_ (by first | omega | (simp; done) | (simp; omega)) _ | refine Below.setCell ?_ (by first | (simp; done) | (simp; omega)) _)) hb
  go_wp2
  go_ret
  exact ⟨rfl, hB2⟩

attribute [local go_sem ↓] eqPoint
set_option maxHeartbeats 1000000 in
theorem Near_other (x y z X Y Z n : Int) (w : World) (hne : eq3 x y z 0 0 0 = false) (n0 : 4294967288 ≤ n) (n1 : n ≤ 4294967304)
    (tw : Hid (∀ w, Calls Try.prog 38 #[(.agg #[.int .i64 x, .int .i64 y, .int .i64 z])] w fun e w' => e = .returned (.agg #[.int .i64 X, .int .i64 Y, .int .i64 Z]) ∧ Below w.heap.size w w'))
    (ln : Hid (∀ w, Calls Try.prog 34 #[(.agg #[.int .i64 X, .int .i64 Y, .int .i64 Z])] w fun e w' => e = .returned (.int .i64 n) ∧ Below w.heap.size w w'))
    (wk : Hid (∀ w, Calls Try.prog 21 #[] w fun e w' => e = .returned (.bool true) ∧ Below w.heap.size w w')) :
    Calls Try.prog 8 #[(.agg #[.int .i64 x, .int .i64 y, .int .i64 z])] w fun e w' => e = .returned (.bool true) ∧ Below w.heap.size w w' := by
  go_enter Try.func8, Try.ntmps8
  go_wp2_with (fail); go_at_call 38; refine (tw.out _).mono ?_; rintro e w1 ⟨rfl, hb⟩
  have hB : Below w.heap.size w w1 := below_step (by repeat (first | exact Below.refl _ _ | assumption | refine below_drewN ?_ _ | refine Below.drew ?_ | refine Below.alloc ?_ (by first | omega | (simp; done) | (simp; omega)) _ | refine Below.setCell ?_ (by first | (simp; done) | (simp; omega)) _)) hb
  have hz : w.heap.size < w1.heap.size := (by have := hb.size; (try simp at this); omega)
  have c0a := hb.cell (p := ⟨w.heap.size, 0, none⟩) (by first | omega | (simp; done) | (simp; omega))
  have g0a := hb.frozen (p := ⟨w.heap.size, 0, none⟩) (by first | omega | (simp; done) | (simp; omega))
  have c1a := hb.cell (p := ⟨w.heap.size, 1, none⟩) (by first | omega | (simp; done) | (simp; omega))
  have g1a := hb.frozen (p := ⟨w.heap.size, 1, none⟩) (by first | omega | (simp; done) | (simp; omega))
  have c2a := hb.cell (p := ⟨w.heap.size, 2, none⟩) (by first | omega | (simp; done) | (simp; omega))
  have g2a := hb.frozen (p := ⟨w.heap.size, 2, none⟩) (by first | omega | (simp; done) | (simp; omega))
  simp [go_sem] at c0a g0a c1a g1a c2a g2a
  clear hb g0a g1a g2a
  go_wp2_with (fail); go_at_call 34; refine (ln.out _).mono ?_; rintro e w2 ⟨rfl, hb⟩
  have hB2 : Below w.heap.size w w2 := below_step (by repeat (first | exact Below.refl _ _ | assumption | refine below_drewN ?_ _ | refine Below.drew ?_ | refine Below.alloc ?_ (by first | omega | (simp; done) | (simp; omega)) _ | refine Below.setCell ?_ (by first | (simp; done) | (simp; omega)) _)) hb
  clear hb
  go_wp2_with (fail); go_at_call 21; refine (wk.out _).mono ?_; rintro e w3 ⟨rfl, hb⟩
  have hB3 : Below w.heap.size w w3 := below_step (by repeat (first | exact Below.refl _ _ | assumption | refine below_drewN ?_ _ | refine Below.drew ?_ | refine Below.alloc ?_ (by first | omega | (simp; done) | (simp; omega)) _ | refine Below.setCell ?_ (by first | (simp; done) | (simp; omega)) _)) hb
  go_wp2
  go_ret
  exact ⟨rfl, hB3⟩

theorem near_part (u r s p : Int) (u0 : -4294967296 ≤ u) (u1 : u ≤ 4294967296) (r0 : 0 ≤ r) (r1 : r ≤ s) (e : u * s + r = p * 18446744073709551616) :
    340282366920938463463374607431768211456 * (p * p) - 8589934593 * (s * s) ≤ s * s * (u * u) ∧ s * s * (u * u) ≤ 340282366920938463463374607431768211456 * (p * p) + 8589934592 * (s * s) := by
  have k : 340282366920938463463374607431768211456 * (p * p) = s * s * (u * u) + 2 * (s * (u * r)) + r * r := by
    have : 340282366920938463463374607431768211456 * (p * p) = (p * 18446744073709551616) * (p * 18446744073709551616) := by grind
    rw [this, ← e]; grind
  have s0 : 0 ≤ s := by omega
  have a1 : u * r ≤ 4294967296 * s := by
    have h1 := Int.mul_le_mul_of_nonneg_right u1 r0
    omega
  have a2 : -(4294967296 * s) ≤ u * r := by
    have h1 := Int.mul_le_mul_of_nonneg_right u0 r0
    omega
  have b1 := Int.mul_le_mul_of_nonneg_left a1 s0
  have b2 := Int.mul_le_mul_of_nonneg_left a2 s0
  have c1 := Int.mul_le_mul r1 r1 r0 s0
  have c0 := Int.mul_nonneg r0 r0
  have d1 : s * (4294967296 * s) = 4294967296 * (s * s) := by grind
  have d2 : s * -(4294967296 * s) = -(4294967296 * (s * s)) := by grind
  rw [d1] at b1
  rw [d2] at b2
  omega

theorem near_unit (p S : Int) (s : Nat) (hs0 : 0 < (s : Int)) (hp : p * p ≤ S) (s2 : S * 18446744073709551616 < ((s : Int) + 1) * (s + 1)) :
    -4294967296 ≤ unitF (p * 4294967296) s ∧ unitF (p * 4294967296) s ≤ 4294967296 ∧ ∃ r : Int, 0 ≤ r ∧ r ≤ s ∧ unitF (p * 4294967296) s * s + r = p * 18446744073709551616 := by
  have hl := part_le p S s hp s2
  have e : p * 4294967296 * 4294967296 = p * 18446744073709551616 := by grind
  have hd := Int.mul_ediv_add_emod (p * 18446744073709551616) s
  have r0 := Int.emod_nonneg (p * 18446744073709551616) (show (s : Int) ≠ 0 by omega)
  have r1 := Int.emod_lt_of_pos (p * 18446744073709551616) hs0
  have q1 : p * 18446744073709551616 / s ≤ 4294967296 := by
    refine Int.ediv_le_of_le_mul hs0 ?_
    have h1 : p * 4294967296 ≤ s := by omega
    have h2 := Int.mul_le_mul_of_nonneg_right h1 (show (0 : Int) ≤ 4294967296 by omega)
    rw [e, Int.mul_comm (s : Int) 4294967296] at h2
    exact h2
  have q0 : -4294967296 ≤ p * 18446744073709551616 / s := by
    refine Int.le_ediv_of_mul_le hs0 ?_
    have h1 : -(s : Int) ≤ p * 4294967296 := by omega
    have h2 := Int.mul_le_mul_of_nonneg_right h1 (show (0 : Int) ≤ 4294967296 by omega)
    rw [e] at h2
    have h3 : -(s : Int) * 4294967296 = -4294967296 * (s : Int) := by grind
    omega
  unfold unitF
  rw [if_neg (show (s : Int) ≠ 0 by omega), e, sat_in _ (by omega) (by omega)]
  refine ⟨q0, q1, _, r0, by omega, ?_⟩
  rw [Int.mul_comm]
  exact hd

theorem near_sum (px py pz S s ux uy uz : Int) (hS : S = px * px + py * py + pz * pz) (hs : 4294967296 ≤ s) (s1 : s * s ≤ S * 18446744073709551616) (s2 : S * 18446744073709551616 < (s + 1) * (s + 1))
    (hx : 340282366920938463463374607431768211456 * (px * px) - 8589934593 * (s * s) ≤ s * s * (ux * ux) ∧ s * s * (ux * ux) ≤ 340282366920938463463374607431768211456 * (px * px) + 8589934592 * (s * s))
    (hy : 340282366920938463463374607431768211456 * (py * py) - 8589934593 * (s * s) ≤ s * s * (uy * uy) ∧ s * s * (uy * uy) ≤ 340282366920938463463374607431768211456 * (py * py) + 8589934592 * (s * s))
    (hz : 340282366920938463463374607431768211456 * (pz * pz) - 8589934593 * (s * s) ≤ s * s * (uz * uz) ∧ s * s * (uz * uz) ≤ 340282366920938463463374607431768211456 * (pz * pz) + 8589934592 * (s * s)) :
    18446744047939747837 ≤ ux * ux + uy * uy + uz * uz ∧ ux * ux + uy * uy + uz * uz ≤ 18446744108069289987 := by
  have q : 0 < s * s := Int.mul_pos (by omega) (by omega)
  have e2 : (s + 1) * (s + 1) = s * s + 2 * s + 1 := by grind
  rw [e2] at s2
  have m : 4294967296 * s ≤ s * s := Int.mul_le_mul_of_nonneg_right hs (by omega)
  have eU : s * s * (ux * ux + uy * uy + uz * uz) = s * s * (ux * ux) + s * s * (uy * uy) + s * s * (uz * uz) := by grind
  constructor
  · refine Int.le_of_mul_le_mul_left ?_ q
    rw [eU, Int.mul_comm (s * s) 18446744047939747837]
    omega
  · refine Int.le_of_mul_le_mul_left ?_ q
    rw [eU, Int.mul_comm (s * s) 18446744108069289987]
    omega

theorem near_root (t : Nat) (U : Int) (h0 : 18446744047939747837 ≤ U) (h1 : U ≤ 18446744108069289987) (t1 : (t : Int) * t ≤ U) (t2 : U < ((t : Int) + 1) * (t + 1)) : 4294967288 ≤ (t : Int) ∧ (t : Int) ≤ 4294967304 := by
  constructor
  · refine Int.not_lt.1 fun h => ?_
    have := Int.mul_le_mul (show (t : Int) + 1 ≤ 4294967288 by omega) (show (t : Int) + 1 ≤ 4294967288 by omega) (by omega) (by omega)
    omega
  · refine Int.not_lt.1 fun h => ?_
    have := Int.mul_le_mul (show (4294967305 : Int) ≤ t by omega) (show (4294967305 : Int) ≤ t by omega) (by omega) (by omega)
    omega

theorem partF_zero (x : Int) (h : partF x = 0) : x = 0 := by unfold partF at h; omega

theorem Near_walk (x y z : Int) (w : World) :
    Calls Try.prog 8 #[(.agg #[.int .i64 x, .int .i64 y, .int .i64 z])] w fun e w' => e = .returned (.bool true) ∧ Below w.heap.size w w' := by
  have bx := partF_bd x
  have by' := partF_bd y
  have bz := partF_bd z
  have qx := sq30 _ bx
  have qy := sq30 _ by'
  have qz := sq30 _ bz
  have bq := sumQ_bd x y z
  have hsum : sumQ x y z = partF x * partF x + partF y * partF y + partF z * partF z := rfl
  obtain ⟨s, s1, s2⟩ := exists_root (sumQ x y z * 18446744073709551616) (by omega)
  by_cases h0 : sumQ x y z = 0
  · have zx : x = 0 := partF_zero x ((Int.mul_eq_zero.1 (show partF x * partF x = 0 by omega)).elim id id)
    have zy : y = 0 := partF_zero y ((Int.mul_eq_zero.1 (show partF y * partF y = 0 by omega)).elim id id)
    have zz : z = 0 := partF_zero z ((Int.mul_eq_zero.1 (show partF z * partF z = 0 by omega)).elim id id)
    subst zx zy zz
    refine Near_zero w (fun w => ?_) (fun w => vworks_any w)
    have h := VToward_any 0 0 0 0 (by decide) (by decide) w
    exact h
  · have hs : 4294967296 ≤ (s : Int) := by
      refine Int.not_lt.1 fun h => ?_
      have := Int.mul_le_mul (show (s : Int) + 1 ≤ 4294967296 by omega) (show (s : Int) + 1 ≤ 4294967296 by omega) (by omega) (by omega)
      omega
    obtain ⟨ux0, ux1, rx, rx0, rx1, ex⟩ := near_unit (partF x) (sumQ x y z) s (by omega) (by omega) s2
    obtain ⟨uy0, uy1, ry, ry0, ry1, ey⟩ := near_unit (partF y) (sumQ x y z) s (by omega) (by omega) s2
    obtain ⟨uz0, uz1, rz, rz0, rz1, ez⟩ := near_unit (partF z) (sumQ x y z) s (by omega) (by omega) s2
    have tw := fun w => VToward_any x y z s s1 s2 w
    have hne : eq3 x y z 0 0 0 = false := by
      refine Bool.eq_false_iff.2 fun h => h0 ?_
      have h' : x = 0 ∧ y = 0 ∧ z = 0 := by simpa [eq3] using h
      obtain ⟨rfl, rfl, rfl⟩ := h'
      decide
    have hs' := near_sum _ _ _ _ (s : Int) _ _ _ hsum hs s1 s2 (near_part _ rx s (partF x) ux0 ux1 rx0 rx1 ex) (near_part _ ry s (partF y) uy0 uy1 ry0 ry1 ey) (near_part _ rz s (partF z) uz0 uz1 rz0 rz1 ez)
    generalize unitF (partF x * 4294967296) s = ux at *
    generalize unitF (partF y * 4294967296) s = uy at *
    generalize unitF (partF z * 4294967296) s = uz at *
    obtain ⟨t, t1, t2⟩ := exists_root _ (sumSq_nonneg ux uy uz)
    have hn := near_root t _ hs'.1 hs'.2 t1 t2
    have ln := fun w => VLength_any ux uy uz t (by unfold in64; omega) (by unfold in64; omega) (by unfold in64; omega) t1 t2 w
    rw [Int.min_eq_left (show (t : Int) ≤ 9223372036854775807 by omega)] at ln
    exact Near_other x y z ux uy uz t w hne hn.1 hn.2 tw ln (fun w => vworks_any w)
end Go.Proofs.Ytalclbngpimajaa
