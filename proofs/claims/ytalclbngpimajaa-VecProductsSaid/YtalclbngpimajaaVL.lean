/- The document's direction; the chapter's example. -/
import Derived.Test.YtalclbngpimajaaVK
import Derived.Test.YtalclbngpimajaaVF
namespace Go.Proofs.Ytalclbngpimajaa
set_option linter.unusedVariables false
set_option maxRecDepth 2000
set_option linter.unusedSimpArgs false
open Go.RowKit
attribute [local go_sem] setCell_twice setCell_pair

theorem ediv_is (a b q r : Int) (hb : 0 < b) (e : r + b * q = a) (h0 : 0 ≤ r) (h1 : r < b) : a / b = q := ((Int.ediv_emod_unique hb).2 ⟨e, h0, h1⟩).1

theorem part_le (p S : Int) (s : Nat) (hp : p * p ≤ S) (s2 : S * 18446744073709551616 < ((s : Int) + 1) * (s + 1)) : (p.natAbs : Int) * 4294967296 ≤ s := by
  refine Int.not_lt.1 fun h => ?_
  have h1 : (s : Int) + 1 ≤ (p.natAbs : Int) * 4294967296 := by omega
  have h2 := Int.mul_le_mul h1 h1 (by omega) (by omega)
  have h3 := abs_sq p
  have h4 : (p.natAbs : Int) * 4294967296 * ((p.natAbs : Int) * 4294967296) = (p.natAbs : Int) * p.natAbs * 18446744073709551616 := by grind
  omega

theorem round_any (p S : Int) (s : Nat) (hb : -1073741824 ≤ p ∧ p ≤ 1073741824) (hs0 : 0 < (s : Int)) (hs1 : (s : Int) ≤ 9223372036854775807) (hp : p * p ≤ S) (s2 : S * 18446744073709551616 < ((s : Int) + 1) * (s + 1)) :
    RoundOf s p (unitF (p * 4294967296) s) := by
  have hl := part_le p S s hp s2
  have hm : 0 ≤ (p.natAbs : Int) ∧ (p.natAbs : Int) ≤ 1073741824 := by omega
  have hlt : (p.natAbs : Int) < s := by omega
  have hd := Int.mul_ediv_add_emod ((p.natAbs : Int) * 18446744073709551616 + 0) s
  have r0 := Int.emod_nonneg ((p.natAbs : Int) * 18446744073709551616 + 0) (show (s : Int) ≠ 0 by omega)
  have r1 := Int.emod_lt_of_pos ((p.natAbs : Int) * 18446744073709551616 + 0) hs0
  have q0 : 0 ≤ ((p.natAbs : Int) * 18446744073709551616 + 0) / s := Int.ediv_nonneg (by omega) (by omega)
  have q1 : ((p.natAbs : Int) * 18446744073709551616 + 0) / s ≤ 4294967296 := by
    refine Int.ediv_le_of_le_mul hs0 ?_
    have : (p.natAbs : Int) * 18446744073709551616 = (p.natAbs : Int) * 4294967296 * 4294967296 := by grind
    have := Int.mul_le_mul_of_nonneg_right hl (show (0 : Int) ≤ 4294967296 by omega)
    rw [Int.mul_comm 4294967296 (s : Int)]
    omega
  have sz := fun w => size_any p (by omega) (by omega) w
  have dv := fun w => Div64_any (p.natAbs : Int) 0 s (by omega) hlt (by omega) (by omega) (by omega) w
  unfold unitF
  rw [if_neg (show (s : Int) ≠ 0 by omega)]
  have e : p * 4294967296 * 4294967296 = p * 18446744073709551616 := by grind
  rw [e]
  generalize ((p.natAbs : Int) * 18446744073709551616 + 0) / s = q at *
  generalize ((p.natAbs : Int) * 18446744073709551616 + 0) % s = r at *
  by_cases hn : p < 0
  · have hpm : p = -(p.natAbs : Int) := by omega
    by_cases hr : 0 < r
    · refine ⟨_, q, r, q + 1, q0, by omega, r0, .inl ⟨hn, hr, rfl⟩, sz, dv, ?_⟩
      have ne := fun w => near_any (q + 1) (q + 1) (decide (p < 0)) false (by omega) (by omega) (by rw [decide_eq_false (by omega)]) (fun _ => rfl) w
      rw [decide_eq_true hn] at ne ⊢
      rw [if_pos rfl] at ne
      rw [ediv_is (p * 18446744073709551616) s (-(q + 1)) (s - r) hs0 (by rw [hpm]; grind) (by omega) (by omega)]
      exact ne
    · refine ⟨_, q, r, q, q0, by omega, r0, .inr (.inl ⟨hn, by omega, rfl⟩), sz, dv, ?_⟩
      have ne := fun w => near_any q q (decide (p < 0)) false (by omega) (by omega) (by rw [decide_eq_false (by omega)]) (fun _ => rfl) w
      rw [decide_eq_true hn] at ne ⊢
      rw [if_pos rfl] at ne
      rw [ediv_is (p * 18446744073709551616) s (-q) 0 hs0 (by rw [hpm]; grind) (by omega) (by omega)]
      exact ne
  · have hpm : p = (p.natAbs : Int) := by omega
    refine ⟨_, q, r, q, q0, by omega, r0, .inr (.inr ⟨hn, rfl⟩), sz, dv, ?_⟩
    have ne := fun w => near_any q q (decide (p < 0)) false (by omega) (by omega) (by rw [decide_eq_false (by omega)]) (fun _ => rfl) w
    rw [decide_eq_false hn] at ne ⊢
    rw [if_neg (by decide)] at ne
    rw [ediv_is (p * 18446744073709551616) s q r hs0 (by rw [hpm]; grind) r0 r1]
    exact ne

/-- the document's Toward -/
theorem RVToward_any (x y z : Int) (s : Nat) (s1 : (s : Int) * s ≤ sumQ x y z * 18446744073709551616) (s2 : sumQ x y z * 18446744073709551616 < ((s : Int) + 1) * (s + 1)) (w : World) :
    Calls Try.prog 39 #[(.agg #[.int .i64 x, .int .i64 y, .int .i64 z])] w fun e w' => e = .returned (.agg #[.int .i64 (unitF (partF x * 4294967296) (s : Int)), .int .i64 (unitF (partF y * 4294967296) (s : Int)), .int .i64 (unitF (partF z * 4294967296) (s : Int))]) ∧ Below w.heap.size w w' := by
  have bx := partF_bd x
  have by' := partF_bd y
  have bz := partF_bd z
  have qx := sq30 _ bx
  have qy := sq30 _ by'
  have qz := sq30 _ bz
  have bq := sumQ_bd x y z
  have sm := root63' _ s (show sumQ x y z * 18446744073709551616 < _ by omega) s1
  have rt := fun w => RRoot_any (sumQ x y z * 18446744073709551616) s (by omega) (by omega) s1 s2 w
  rw [show hi (sumQ x y z * 18446744073709551616) = sumQ x y z by unfold hi; omega, show lo (sumQ x y z * 18446744073709551616) = 0 by unfold lo; omega] at rt
  have wr : ∀ a : Int, 0 ≤ a → a ≤ 9223372036854775807 → IntKind.i64.wrap a = a := fun a h0 h1 => by rw [IntKind.wrap_i64]; omega
  have hS : IntKind.u64.wrap (partF x * partF x + partF y * partF y + partF z * partF z) = sumQ x y z := by
    show _ = partF x * partF x + partF y * partF y + partF z * partF z
    rw [IntKind.wrap_u64]; omega
  have hsum : sumQ x y z = partF x * partF x + partF y * partF y + partF z * partF z := rfl
  by_cases h0 : (s : Int) = 0
  · rw [h0] at rt
    have h := RVToward_zero x y z _ _ _ _ w bx by' bz (wr _ qx.1 (by omega)) (wr _ qy.1 (by omega)) (wr _ qz.1 (by omega)) (wr _ (by omega) (by omega)) (wr _ (by omega) (by omega)) hS (fun w => Rpart_any x w) (fun w => Rpart_any y w) (fun w => Rpart_any z w) rt
    unfold unitF
    rw [if_pos h0, if_pos h0, if_pos h0]
    exact h
  · have hs0 : 0 < (s : Int) := by omega
    exact RVToward_core x y z _ _ _ _ s _ _ _ w (by simpa using h0) bx by' bz (wr _ qx.1 (by omega)) (wr _ qy.1 (by omega)) (wr _ qz.1 (by omega)) (wr _ (by omega) (by omega)) (wr _ (by omega) (by omega)) hS (fun w => Rpart_any x w) (fun w => Rpart_any y w) (fun w => Rpart_any z w) rt
      (Lib.hid (round_any _ _ s bx hs0 sm (by omega) s2)) (Lib.hid (round_any _ _ s by' hs0 sm (by omega) s2)) (Lib.hid (round_any _ _ s bz hs0 sm (by omega) s2))

/-- vec.Of -/
theorem VOf_any (x y z : Int) (hx : in64 x) (hy : in64 y) (hz : in64 z) (w : World) :
    Calls Try.prog 26 #[(.agg #[.int .i64 x, .int .i64 y, .int .i64 z])] w fun e w' => e = .returned (.agg #[.int .i64 (sat (x * 4294967296)), .int .i64 (sat (y * 4294967296)), .int .i64 (sat (z * 4294967296))]) ∧ Below w.heap.size w w' :=
  VOf_core x y z _ _ _ w (fun w => eachOf_any x y z hx hy hz w)
theorem RVOf_any (x y z : Int) (hx : in64 x) (hy : in64 y) (hz : in64 z) (w : World) :
    Calls Try.prog 27 #[(.agg #[.int .i64 x, .int .i64 y, .int .i64 z])] w fun e w' => e = .returned (.agg #[.int .i64 (sat (x * 4294967296)), .int .i64 (sat (y * 4294967296)), .int .i64 (sat (z * 4294967296))]) ∧ Below w.heap.size w w' :=
  RVOf_core x y z _ _ _ w (fun w => ROf_any x hx.1 hx.2 w) (fun w => ROf_any y hy.1 hy.2 w) (fun w => ROf_any z hz.1 hz.2 w)

set_option maxHeartbeats 1000000 in
/-- the chapter's example -/
theorem vworks_core (w : World)
    (tw : Hid (∀ w, Calls Try.prog 38 #[(.agg #[.int .i64 3, .int .i64 4, .int .i64 0])] w fun e w' => e = .returned (.agg #[.int .i64 2576980377, .int .i64 3435973836, .int .i64 0]) ∧ Below w.heap.size w w'))
    (of : Hid (∀ w, Calls Try.prog 26 #[(.agg #[.int .i64 3, .int .i64 4, .int .i64 0])] w fun e w' => e = .returned (.agg #[.int .i64 12884901888, .int .i64 17179869184, .int .i64 0]) ∧ Below w.heap.size w w'))
    (ln : Hid (∀ w, Calls Try.prog 34 #[(.agg #[.int .i64 12884901888, .int .i64 17179869184, .int .i64 0])] w fun e w' => e = .returned (.int .i64 21474836480) ∧ Below w.heap.size w w')) :
    Calls Try.prog 21 #[] w fun e w' => e = .returned (.bool true) ∧ Below w.heap.size w w' := by
  go_enter Try.func21, Try.ntmps21
  go_wp2_with (fail); go_at_call 38; refine (tw.out _).mono ?_; rintro e w1 ⟨rfl, hb⟩
  have hB : Below w.heap.size w _ := below_step (by repeat (first | exact Below.refl _ _ | assumption | refine below_drewN ?_ _ | refine Below.drew ?_ | refine Below.alloc ?_ (by first | omega | (simp; done) | (simp; omega)) _ | refine Below.setCell ?_ (by first | (simp; done) | (simp; omega)) _)) hb; have hS := hB.size
  go_wp2_with (fail); go_at_call 26; refine (of.out _).mono ?_; rintro e w2 ⟨rfl, hb⟩
  have hB : Below w.heap.size w _ := below_step (by repeat (first | exact Below.refl _ _ | assumption | refine below_drewN ?_ _ | refine Below.drew ?_ | refine Below.alloc ?_ (by first | omega | (simp; done) | (simp; omega)) _ | refine Below.setCell ?_ (by first | (simp; done) | (simp; omega)) _)) hb; have hS := hB.size
  go_wp2_with (fail); go_at_call 34; refine (ln.out _).mono ?_; rintro e w3 ⟨rfl, hb⟩
  have hB : Below w.heap.size w _ := below_step (by repeat (first | exact Below.refl _ _ | assumption | refine below_drewN ?_ _ | refine Below.drew ?_ | refine Below.alloc ?_ (by first | omega | (simp; done) | (simp; omega)) _ | refine Below.setCell ?_ (by first | (simp; done) | (simp; omega)) _)) hb; have hS := hB.size
  go_wp2
  go_ret
  exact ⟨rfl, hB⟩

theorem vworks_any (w : World) :
    Calls Try.prog 21 #[] w fun e w' => e = .returned (.bool true) ∧ Below w.heap.size w w' := by
  have e3 : partF 3 = 3 := by decide
  have e4 : partF 4 = 4 := by decide
  have e0 : partF 0 = 0 := by decide
  refine vworks_core w (fun w => ?_) (fun w => ?_) (fun w => ?_)
  · have h := VToward_any 3 4 0 21474836480 (by unfold sumQ; rw [e3, e4, e0]; omega) (by unfold sumQ; rw [e3, e4, e0]; omega) w
    rw [e3, e4, e0] at h
    have u1 : unitF (3 * 4294967296) ((21474836480 : Nat) : Int) = 2576980377 := by decide
    have u2 : unitF (4 * 4294967296) ((21474836480 : Nat) : Int) = 3435973836 := by decide
    have u3 : unitF (0 * 4294967296) ((21474836480 : Nat) : Int) = 0 := by decide
    rw [u1, u2, u3] at h
    exact h
  · exact VOf_any 3 4 0 (by unfold in64; omega) (by unfold in64; omega) (by unfold in64; omega) w
  · exact VLength_any 12884901888 17179869184 0 21474836480 (by unfold in64; omega) (by unfold in64; omega) (by unfold in64; omega) (by omega) (by omega) w
end Go.Proofs.Ytalclbngpimajaa
