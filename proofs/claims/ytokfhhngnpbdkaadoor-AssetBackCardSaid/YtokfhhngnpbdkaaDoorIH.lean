/- asset: '==' of materials, of lights. -/
import Derived.Test.YtokfhhngnpbdkaaDoorIG
import Derived.Lib.Hide
import Derived.LoopN
import Derived.LoopTactic
import Derived.Deep.Onto
import Derived.Deep.RegionHeld3
import Derived.Deep.QuietTactic
import Derived.BigQuiet
import Derived.Great.BuildSlice
import Derived.StillTailTactics
import Derived.Lib.SliceRun
namespace Go.Proofs.YtokfhhngnpbdkaaDoor
set_option linter.unusedVariables false
set_option maxRecDepth 2000
set_option linter.unusedSimpArgs false
open Go.RowKit
theorem eql3d (d : Nat) (a0 a1 a2 b0 b1 b2 : Int) (w : World) : (Op.equalIn (d + 2) 29 (.agg #[.int .i64 a0, .int .i64 a1, .int .i64 a2]) (.agg #[.int .i64 b0, .int .i64 b1, .int .i64 b2])).run Tryd.prog w = .ok (eq3B a0 a1 a2 b0 b1 b2) w := by
  rw [Op.equalIn]
  simp only [Sem.run_bind, run_underlying Tryd.underlying29, Result.andThen_ok]
  unfold eq3B
  by_cases e0 : a0 = b0 <;> by_cases e1 : a1 = b1 <;> by_cases e2 : a2 = b2 <;> simp [go_sem, List.range', e0, e1, e2]
theorem eqlPd (d : Nat) (a0 a1 a2 b0 b1 b2 : Int) (w : World) : (Op.equalIn (d + 2) 33 (.agg #[.int .i64 a0, .int .i64 a1, .int .i64 a2]) (.agg #[.int .i64 b0, .int .i64 b1, .int .i64 b2])).run Tryd.prog w = .ok (eq3B a0 a1 a2 b0 b1 b2) w := by
  rw [Op.equalIn]
  simp only [Sem.run_bind, run_underlying Tryd.underlying33, Result.andThen_ok]
  unfold eq3B
  by_cases e0 : a0 = b0 <;> by_cases e1 : a1 = b1 <;> by_cases e2 : a2 = b2 <;> simp [go_sem, List.range', e0, e1, e2]
def matB (f g : Nat → Int) : Bool := (f 0 == g 0) && (eq3B (f 1) (f 2) (f 3) (g 1) (g 2) (g 3) && (f 4 == g 4))
theorem matB_iff {f g : Nat → Int} : matB f g = true ↔ ∀ j, j < 5 → f j = g j := by
  unfold matB
  simp only [Bool.and_eq_true, beq_iff_eq, eq3B_iff]
  constructor
  · rintro ⟨a, ⟨b, c, d⟩, e⟩ j hj
    match j, hj with
    | 0, _ => exact a
    | 1, _ => exact b
    | 2, _ => exact c
    | 3, _ => exact d
    | 4, _ => exact e
  · intro h
    exact ⟨h 0 (by decide), ⟨h 1 (by decide), h 2 (by decide), h 3 (by decide)⟩, h 4 (by decide)⟩
def lgtB (f g : Nat → Int) : Bool := (f 0 == g 0) && (eq3B (f 1) (f 2) (f 3) (g 1) (g 2) (g 3) && ((f 4 == g 4) && ((f 5 == g 5) && ((f 6 == g 6) && ((f 7 == g 7) && ((f 8 == g 8) && ((f 9 == g 9) && ((f 10 == g 10) && ((f 11 == g 11) && ((f 12 == g 12)))))))))))
theorem lgtB_iff {f g : Nat → Int} : lgtB f g = true ↔ ∀ j, j < 13 → f j = g j := by
  unfold lgtB
  simp only [Bool.and_eq_true, beq_iff_eq, eq3B_iff]
  constructor
  · rintro ⟨a, ⟨b, c, d⟩, e0, e1, e2, f0, f1, f2, g0, g1, g2⟩ j hj
    match j, hj with
    | 0, _ => exact a
    | 1, _ => exact b
    | 2, _ => exact c
    | 3, _ => exact d
    | 4, _ => exact e0
    | 5, _ => exact e1
    | 6, _ => exact e2
    | 7, _ => exact f0
    | 8, _ => exact f1
    | 9, _ => exact f2
    | 10, _ => exact g0
    | 11, _ => exact g1
    | 12, _ => exact g2
  · intro h
    exact ⟨h 0 (by decide), ⟨h 1 (by decide), h 2 (by decide), h 3 (by decide)⟩, h 4 (by decide), h 5 (by decide), h 6 (by decide), h 7 (by decide), h 8 (by decide), h 9 (by decide), h 10 (by decide), h 11 (by decide), h 12 (by decide)⟩
set_option maxHeartbeats 4000000 in
theorem eqlMat (f g : Nat → Int) (w : World) : (binOp .eql 31 (.agg #[.int .i64 (f 0), .int .i64 (f 1), .int .i64 (f 2), .int .i64 (f 3), .int .i64 (f 4)]) (.agg #[.int .i64 (g 0), .int .i64 (g 1), .int .i64 (g 2), .int .i64 (g 3), .int .i64 (g 4)])).run Tryd.prog w = .ok (.bool (matB f g)) w := by
  have h0 := eql3d 9997 (f 1) (f 2) (f 3) (g 1) (g 2) (g 3) w
  rw [run_eql_struct]
  unfold matB
  simp [go_sem, h0]
  repeat' split
  all_goals simp_all
set_option maxHeartbeats 4000000 in
theorem neqMat (f g : Nat → Int) (w : World) : (binOp .neq 31 (.agg #[.int .i64 (f 0), .int .i64 (f 1), .int .i64 (f 2), .int .i64 (f 3), .int .i64 (f 4)]) (.agg #[.int .i64 (g 0), .int .i64 (g 1), .int .i64 (g 2), .int .i64 (g 3), .int .i64 (g 4)])).run Tryd.prog w = .ok (.bool (!matB f g)) w := by
  have h0 := eql3d 9997 (f 1) (f 2) (f 3) (g 1) (g 2) (g 3) w
  rw [run_neq_struct]
  unfold matB
  simp [go_sem, h0]
  repeat' split
  all_goals simp_all
set_option maxHeartbeats 4000000 in
theorem eqlLgt (f g : Nat → Int) (w : World) : (binOp .eql 35 (.agg #[.int .i64 (f 0), .int .i64 (f 1), .int .i64 (f 2), .int .i64 (f 3), .int .i64 (f 4), .int .i64 (f 5), .int .i64 (f 6), .int .i64 (f 7), .int .i64 (f 8), .int .i64 (f 9), .int .i64 (f 10), .int .i64 (f 11), .int .i64 (f 12)]) (.agg #[.int .i64 (g 0), .int .i64 (g 1), .int .i64 (g 2), .int .i64 (g 3), .int .i64 (g 4), .int .i64 (g 5), .int .i64 (g 6), .int .i64 (g 7), .int .i64 (g 8), .int .i64 (g 9), .int .i64 (g 10), .int .i64 (g 11), .int .i64 (g 12)])).run Tryd.prog w = .ok (.bool (lgtB f g)) w := by
  have h0 := eql3d 9997 (f 1) (f 2) (f 3) (g 1) (g 2) (g 3) w
  rw [run_eql_struct]
  unfold lgtB
  simp [go_sem, h0]
  repeat' split
  all_goals simp_all
set_option maxHeartbeats 4000000 in
theorem neqLgt (f g : Nat → Int) (w : World) : (binOp .neq 35 (.agg #[.int .i64 (f 0), .int .i64 (f 1), .int .i64 (f 2), .int .i64 (f 3), .int .i64 (f 4), .int .i64 (f 5), .int .i64 (f 6), .int .i64 (f 7), .int .i64 (f 8), .int .i64 (f 9), .int .i64 (f 10), .int .i64 (f 11), .int .i64 (f 12)]) (.agg #[.int .i64 (g 0), .int .i64 (g 1), .int .i64 (g 2), .int .i64 (g 3), .int .i64 (g 4), .int .i64 (g 5), .int .i64 (g 6), .int .i64 (g 7), .int .i64 (g 8), .int .i64 (g 9), .int .i64 (g 10), .int .i64 (g 11), .int .i64 (g 12)])).run Tryd.prog w = .ok (.bool (!lgtB f g)) w := by
  have h0 := eql3d 9997 (f 1) (f 2) (f 3) (g 1) (g 2) (g 3) w
  rw [run_neq_struct]
  unfold lgtB
  simp [go_sem, h0]
  repeat' split
  all_goals simp_all
end Go.Proofs.YtokfhhngnpbdkaaDoor
