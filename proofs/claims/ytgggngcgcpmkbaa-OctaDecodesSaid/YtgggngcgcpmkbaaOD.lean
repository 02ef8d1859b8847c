/- Package octa, and the document's: what is a direction. -/
import Derived.Test.YtgggngcgcpmkbaaOA
import Derived.LoopN
import Derived.BigQuiet
import Derived.Deep.QuietTactic
import Derived.Deep.DeepCutAuto
namespace Go.Proofs.Ytgggngcgcpmkbaa
set_option linter.unusedVariables false
set_option maxRecDepth 2000
set_option linter.unusedSimpArgs false
open Go.RowKit
attribute [local go_sem] setCell_twice setCell_pair
attribute [local go_sem ↓] run_mn3 run_mx3
/-- three numbers are those three -/
def eqT (a b c d e f : Int) : Bool := a == d && (b == e && c == f)
theorem eqPt (a b c d e f : Int) (w : World) : (binOp .eql 24 (.agg #[.int .i64 a, .int .i64 b, .int .i64 c]) (.agg #[.int .i64 d, .int .i64 e, .int .i64 f])).run Try.prog w = .ok (.bool (eqT a b c d e f)) w := by
  unfold eqT
  by_cases h : a = d
  · subst h
    by_cases h2 : b = e
    · subst h2
      by_cases h3 : c = f
      · subst h3; simp [go_sem]
      · simp [go_sem, h3]
    · have hb : (b == e) = false := by simpa using h2
      simp [go_sem, hb]
  · have hb : (a == d) = false := by simpa using h
    simp [go_sem, hb]
theorem neqPt (a b c d e f : Int) (w : World) : (binOp .neq 24 (.agg #[.int .i64 a, .int .i64 b, .int .i64 c]) (.agg #[.int .i64 d, .int .i64 e, .int .i64 f])).run Try.prog w = .ok (.bool (!eqT a b c d e f)) w := by
  unfold eqT
  by_cases h : a = d
  · subst h
    by_cases h2 : b = e
    · subst h2
      by_cases h3 : c = f
      · subst h3; simp [go_sem]
      · simp [go_sem, h3]
    · have hb : (b == e) = false := by simpa using h2
      simp [go_sem, hb]
  · have hb : (a == d) = false := by simpa using h
    simp [go_sem, hb]
attribute [local go_sem ↓] eqPt neqPt
/-- a direction -/
def dirB (x y z : Int) : Bool := !eqT x y z 0 0 0 && (decide (-16384 ≤ mn3 x y z) && decide (mx3 x y z ≤ 16384))
theorem dirB_iff (x y z : Int) : dirB x y z = true ↔ ¬(x = 0 ∧ y = 0 ∧ z = 0) ∧ (-16384 ≤ x ∧ x ≤ 16384) ∧ (-16384 ≤ y ∧ y ≤ 16384) ∧ (-16384 ≤ z ∧ z ≤ 16384) := by
  have a := mn3_lt x y z (-16384)
  have b := mx3_gt x y z 16384
  have e : eqT x y z 0 0 0 = decide (x = 0 ∧ y = 0 ∧ z = 0) := by unfold eqT; by_cases h : x = 0 <;> by_cases h2 : y = 0 <;> by_cases h3 : z = 0 <;> simp [*]
  unfold dirB
  rw [e]
  simp only [Bool.and_eq_true, Bool.not_eq_true', decide_eq_false_iff_not, decide_eq_true_eq]
  omega
set_option maxHeartbeats 1000000 in
theorem OMay_core (x y z : Int) (b1 b2 b3 : Bool) (e1 : eqT x y z 0 0 0 = b1) (e2 : decide (-16384 ≤ mn3 x y z) = b2) (e3 : decide (mx3 x y z ≤ 16384) = b3) (w : World) : Calls Try.prog 22 #[(.agg #[.int .i64 x, .int .i64 y, .int .i64 z])] w fun e w' => e = .returned (.bool (!b1 && (b2 && b3))) ∧ Below w.heap.size w w' := by
  go_enter Try.func22, Try.ntmps22
  go_wp2_with (fail)
  obtain ⟨W0, hW⟩ : ∃ W0, W0 = (w.alloc (.cells #[.int .i64 x, .int .i64 y, .int .i64 z] 24)) := ⟨_, rfl⟩
  have hB0 : Below w.heap.size w W0 := hW ▸ (Below.al (Below.refl _ _))
  have HD : Hid (Own w.heap.size [.int .i64 x, .int .i64 y, .int .i64 z] W0) := Lib.hid (hW ▸ (Own.newAt (by simp)))
  rw [← hW]
  clear hW
  obtain ⟨D, eD⟩ : ∃ X, X = w.heap.size := ⟨_, rfl⟩
  rw [← eD] at HD ⊢
  have Dw : w.heap.size ≤ D := by omega
  clear eD
  have oD := HD.out
  have D0 := oD.at 0 _ rfl
  have D1 := oD.at 1 _ rfl
  have D2 := oD.at 2 _ rfl
  have Dl := oD.lt
  clear oD
  go_quiet (fail)
  go_wp2_with (fail)
  all_goals (go_ret; exact ⟨by simp [*], below_drewN hB0 _⟩)
theorem OMay_any (x y z : Int) (w : World) : Calls Try.prog 22 #[(.agg #[.int .i64 x, .int .i64 y, .int .i64 z])] w fun e w' => e = .returned (.bool (dirB x y z)) ∧ Below w.heap.size w w' := OMay_core x y z _ _ _ rfl rfl rfl w

set_option maxHeartbeats 1000000 in
theorem RMay_any (x y z : Int) (w : World) : Calls Try.prog 23 #[(.agg #[.int .i64 x, .int .i64 y, .int .i64 z])] w fun e w' => e = .returned (.bool (dirB x y z)) ∧ Below w.heap.size w w' := by
  have key := dirB_iff x y z
  generalize dirB x y z = b at *
  go_enter Try.func23, Try.ntmps23
  go_wp2_with (fail)
  refine wp_loop_rounds 4 ?_
  rw [rounds_succ]; go_wp2_with (fail)
  all_goals try (rw [rounds_succ]; go_wp2_with (fail))
  all_goals try (rw [rounds_succ]; go_wp2_with (fail))
  all_goals try (rw [rounds_succ]; go_wp2_with (fail))
  all_goals go_ret
  all_goals refine ⟨?_, (by repeat (first | (with_reducible exact Below.refl _ _) | (with_reducible assumption) | (with_reducible refine below_drewN ?_ _) | (with_reducible refine Below.drew ?_) | (with_reducible refine Below.alloc ?_ ?_ _) | (with_reducible refine Below.setCell ?_ ?_ _) | (with_reducible exact Nat.le_refl _) | exact Nat.le_succ _ | (simp; done) | (simp; omega) | omega | fail))⟩
  all_goals refine congrArg (fun t => Ending.returned (Value.bool t)) ?_
  all_goals rw [Bool.eq_iff_iff, key]
  all_goals first | (simp; omega) | omega
end Go.Proofs.Ytgggngcgcpmkbaa
