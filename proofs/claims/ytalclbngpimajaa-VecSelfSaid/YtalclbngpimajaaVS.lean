/- umbralaw03.VecSelf: true of any vectors. -/
import Derived.Test.YtalclbngpimajaaVP
namespace Go.Proofs.Ytalclbngpimajaa
set_option linter.unusedVariables false
set_option maxRecDepth 2000
set_option linter.unusedSimpArgs false
open Go.RowKit
attribute [local go_sem] setCell_twice setCell_pair

theorem small (x : Int) (h : in64 x) (hx : absF x < 70368744177664) : -70368744177664 < x ∧ x < 70368744177664 := by
  have h0 := h.1
  have h1 := h.2
  unfold absF sat at hx
  split at hx
  · split at hx
    · omega
    · split at hx <;> omega
  · omega

theorem mulF_small (a b : Int) (ha : -70368744177664 < a ∧ a < 70368744177664) (hb : -70368744177664 < b ∧ b < 70368744177664) : -1152921504606846976 ≤ mulF a b ∧ mulF a b ≤ 1152921504606846976 := by
  have h1 : (a.natAbs : Int) ≤ 70368744177664 := by omega
  have h2 : (b.natAbs : Int) ≤ 70368744177664 := by omega
  have h3 := Int.mul_le_mul h1 h2 (by omega) (by omega)
  have h4 : ((a * b).natAbs : Int) = (a.natAbs : Int) * b.natAbs := by rw [Int.natAbs_mul]; exact Int.natCast_mul _ _
  unfold mulF sat
  split
  · omega
  · split <;> omega

theorem cross_self (a b : Int) : crossF a b b a = 0 := by
  unfold crossF
  rw [mulF_comm b a, Int.sub_self]
  exact sat_in 0 (by omega) (by omega)
theorem cross_turn (a b c d : Int) (ha : -70368744177664 < a ∧ a < 70368744177664) (hb : -70368744177664 < b ∧ b < 70368744177664) (hc : -70368744177664 < c ∧ c < 70368744177664) (hd : -70368744177664 < d ∧ d < 70368744177664) :
    sat (crossF a b c d + crossF d c b a) = 0 := by
  have h1 := mulF_small a b ha hb
  have h2 := mulF_small c d hc hd
  unfold crossF
  rw [mulF_comm d c, mulF_comm b a, sat_in (mulF a b - mulF c d) (by omega) (by omega), sat_in (mulF c d - mulF a b) (by omega) (by omega), sat_in _ (by omega) (by omega)]
  omega
theorem crossF_in (a b c d : Int) : in64 (crossF a b c d) := in64_sat _

theorem Self_walk (x1 y1 z1 x2 y2 z2 : Int) (hx1 : in64 x1) (hy1 : in64 y1) (hz1 : in64 z1) (hx2 : in64 x2) (hy2 : in64 y2) (hz2 : in64 z2) (w : World) :
    Calls Try.prog 7 #[(.agg #[.int .i64 x1, .int .i64 y1, .int .i64 z1]), (.agg #[.int .i64 x2, .int .i64 y2, .int .i64 z2])] w fun e w' => e = .returned (.bool true) ∧ Below w.heap.size w w' := by
  have ca := fun w => VCross_any x1 y1 z1 x1 y1 z1 hx1 hy1 hz1 hx1 hy1 hz1 w
  rw [cross_self, cross_self, cross_self] at ca
  have ma := fun w => VMost_any x1 y1 z1 hx1 hy1 hz1 w
  have mb := fun w => VMost_any x2 y2 z2 hx2 hy2 hz2 w
  have wk := fun w => vworks_any w
  by_cases h1 : 70368744177664 ≤ mostF x1 y1 z1
  · exact Self_a x1 y1 z1 x2 y2 z2 _ w h1 ca wk ma
  · by_cases h2 : 70368744177664 ≤ mostF x2 y2 z2
    · exact Self_b x1 y1 z1 x2 y2 z2 _ _ w (by omega) h2 ca wk ma mb
    · have sx1 := small x1 hx1 (by unfold mostF at *; omega)
      have sy1 := small y1 hy1 (by unfold mostF at *; omega)
      have sz1 := small z1 hz1 (by unfold mostF at *; omega)
      have sx2 := small x2 hx2 (by unfold mostF at *; omega)
      have sy2 := small y2 hy2 (by unfold mostF at *; omega)
      have sz2 := small z2 hz2 (by unfold mostF at *; omega)
      refine Self_c x1 y1 z1 x2 y2 z2 _ _ _ _ _ _ _ _ w (by omega) (by omega) ca wk ma mb (fun w => VCross_any x1 y1 z1 x2 y2 z2 hx1 hy1 hz1 hx2 hy2 hz2 w) (fun w => VCross_any x2 y2 z2 x1 y1 z1 hx2 hy2 hz2 hx1 hy1 hz1 w) (Lib.hid fun w blk h => ?_)
      have a := VAdd_two blk _ _ _ _ _ _ (crossF_in _ _ _ _) (crossF_in _ _ _ _) (crossF_in _ _ _ _) (crossF_in _ _ _ _) (crossF_in _ _ _ _) (crossF_in _ _ _ _) w h
      rw [cross_turn y1 z2 z1 y2 sy1 sz2 sz1 sy2, cross_turn z1 x2 x1 z2 sz1 sx2 sx1 sz2, cross_turn x1 y2 y1 x2 sx1 sy2 sy1 sx2] at a
      exact a
end Go.Proofs.Ytalclbngpimajaa
