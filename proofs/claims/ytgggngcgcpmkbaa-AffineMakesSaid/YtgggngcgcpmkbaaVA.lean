/- Package vec: functions that apply a function value to each component. -/
import Derived.Test.YtgggngcgcpmkbaaFC
namespace Go.Proofs.Ytgggngcgcpmkbaa
set_option linter.unusedVariables false
set_option maxRecDepth 2000
open Go.RowKit
attribute [local go_sem] setCell_twice setCell_pair

theorem eachF_core (k : Nat) (cs : Array Value) (x y z X Y Z : Int) (w : World)
    (eg : ∀ args w, (callFunc k args).run Try.prog w = .ok (.enter k args) w)
    (fx : Hid (∀ wx, Below w.heap.size w wx → Calls Try.prog k (#[.int .i64 x] ++ cs) wx fun e w' => e = .returned (.int .i64 X) ∧ Below wx.heap.size wx w'))
    (fy : Hid (∀ wx, Below w.heap.size w wx → Calls Try.prog k (#[.int .i64 y] ++ cs) wx fun e w' => e = .returned (.int .i64 Y) ∧ Below wx.heap.size wx w'))
    (fz : Hid (∀ wx, Below w.heap.size w wx → Calls Try.prog k (#[.int .i64 z] ++ cs) wx fun e w' => e = .returned (.int .i64 Z) ∧ Below wx.heap.size wx w')) :
    Calls Try.prog 99 #[.int .i64 x, .int .i64 y, .int .i64 z, .func (.func k) #[] cs] w fun e w' => e = .returned (.agg #[.int .i64 X, .int .i64 Y, .int .i64 Z]) ∧ Below w.heap.size w w' := by
  go_enter Try.func99, Try.ntmps99
  go_wp2_with (fail)
  refine (fx.out _ (by repeat (first | exact Below.refl _ _ | assumption | refine below_drewN ?_ _ | refine Below.drew ?_ | refine Below.alloc ?_ (by first | omega | (simp; done) | (simp; omega)) _ | refine Below.setCell ?_ (by first | (simp; done) | (simp; omega)) _))).mono ?_; rintro e w1 ⟨rfl, hb⟩
  have hB : Below w.heap.size w w1 := below_step (by repeat (first | exact Below.refl _ _ | assumption | refine below_drewN ?_ _ | refine Below.drew ?_ | refine Below.alloc ?_ (by first | omega | (simp; done) | (simp; omega)) _ | refine Below.setCell ?_ (by first | (simp; done) | (simp; omega)) _)) hb
  have hz : w.heap.size < w1.heap.size := (by have := hb.size; (try simp at this); omega)
  have c0 := hb.cell (p := ⟨w.heap.size, 0, none⟩) (by simp)
  have c1 := hb.cell (p := ⟨w.heap.size, 1, none⟩) (by simp)
  have c2 := hb.cell (p := ⟨w.heap.size, 2, none⟩) (by simp)
  have g0 := hb.frozen (p := ⟨w.heap.size, 0, none⟩) (by simp)
  have g1 := hb.frozen (p := ⟨w.heap.size, 1, none⟩) (by simp)
  have g2 := hb.frozen (p := ⟨w.heap.size, 2, none⟩) (by simp)
  simp [go_sem] at c0 c1 c2 g0 g1 g2
  go_wp2_with (fail)
  refine (fy.out _ (by repeat (first | exact Below.refl _ _ | assumption | refine below_drewN ?_ _ | refine Below.drew ?_ | refine Below.alloc ?_ (by first | omega | (simp; done) | (simp; omega)) _ | refine Below.setCell ?_ (by first | (simp; done) | (simp; omega)) _))).mono ?_; rintro e w2 ⟨rfl, hb2⟩
  have hB2 : Below w.heap.size w w2 := below_step (by repeat (first | exact Below.refl _ _ | assumption | refine below_drewN ?_ _ | refine Below.drew ?_ | refine Below.alloc ?_ (by first | omega | (simp; done) | (simp; omega)) _ | refine Below.setCell ?_ (by first | (simp; done) | (simp; omega)) _)) hb2
  have hz2 : w.heap.size < w2.heap.size := (by have := hb2.size; omega)
  have d0 := hb2.cell (p := ⟨w.heap.size, 0, none⟩) hz
  have d1 := hb2.cell (p := ⟨w.heap.size, 1, none⟩) hz
  have d2 := hb2.cell (p := ⟨w.heap.size, 2, none⟩) hz
  have q0 := hb2.frozen (p := ⟨w.heap.size, 0, none⟩) hz
  have q1 := hb2.frozen (p := ⟨w.heap.size, 1, none⟩) hz
  have q2 := hb2.frozen (p := ⟨w.heap.size, 2, none⟩) hz
  rw [c0] at d0; rw [c1] at d1; rw [c2] at d2; rw [g0] at q0; rw [g1] at q1; rw [g2] at q2
  clear c0 c1 c2 g0 g1 g2 hb hb2
  go_wp2_with (fail)
  refine (fz.out _ (by repeat (first | exact Below.refl _ _ | assumption | refine below_drewN ?_ _ | refine Below.drew ?_ | refine Below.alloc ?_ (by first | omega | (simp; done) | (simp; omega)) _ | refine Below.setCell ?_ (by first | (simp; done) | (simp; omega)) _))).mono ?_; rintro e w3 ⟨rfl, hb3⟩
  have hB3 : Below w.heap.size w w3 := below_step (by repeat (first | exact Below.refl _ _ | assumption | refine below_drewN ?_ _ | refine Below.drew ?_ | refine Below.alloc ?_ (by first | omega | (simp; done) | (simp; omega)) _ | refine Below.setCell ?_ (by first | (simp; done) | (simp; omega)) _)) hb3
  have c0 := hb3.cell (p := ⟨w.heap.size, 0, none⟩) hz2
  have c1 := hb3.cell (p := ⟨w.heap.size, 1, none⟩) hz2
  have c2 := hb3.cell (p := ⟨w.heap.size, 2, none⟩) hz2
  have g0 := hb3.frozen (p := ⟨w.heap.size, 0, none⟩) hz2
  have g1 := hb3.frozen (p := ⟨w.heap.size, 1, none⟩) hz2
  have g2 := hb3.frozen (p := ⟨w.heap.size, 2, none⟩) hz2
  rw [d0] at c0; rw [d1] at c1; rw [d2] at c2; rw [q0] at g0; rw [q1] at g1; rw [q2] at g2
  have hz3 : w.heap.size < w3.heap.size := (by have := hb3.size; omega)
  clear d0 d1 d2 q0 q1 q2 hb3
  go_wp2
  exact bodyPost_ret (v := .agg #[.int .i64 X, .int .i64 Y, .int .i64 Z]) (by simp [results, Try.results99, go_sem, c0, c1, c2]) rfl ⟨rfl, (by repeat (first | exact Below.refl _ _ | assumption | refine below_drewN ?_ _ | refine Below.drew ?_ | refine Below.alloc ?_ (by first | omega | (simp; done) | (simp; omega)) _ | refine Below.setCell ?_ (by first | (simp; done) | (simp; omega)) _))⟩

theorem eachI_core (k : Nat) (cs : Array Value) (x y z X Y Z : Int) (w : World)
    (eg : ∀ args w, (callFunc k args).run Try.prog w = .ok (.enter k args) w)
    (fx : Hid (∀ wx, Below w.heap.size w wx → Calls Try.prog k (#[.int .i64 x] ++ cs) wx fun e w' => e = .returned (.int .i64 X) ∧ Below wx.heap.size wx w'))
    (fy : Hid (∀ wx, Below w.heap.size w wx → Calls Try.prog k (#[.int .i64 y] ++ cs) wx fun e w' => e = .returned (.int .i64 Y) ∧ Below wx.heap.size wx w'))
    (fz : Hid (∀ wx, Below w.heap.size w wx → Calls Try.prog k (#[.int .i64 z] ++ cs) wx fun e w' => e = .returned (.int .i64 Z) ∧ Below wx.heap.size wx w')) :
    Calls Try.prog 94 #[.int .i64 x, .int .i64 y, .int .i64 z, .func (.func k) #[] cs] w fun e w' => e = .returned (.agg #[.int .i64 X, .int .i64 Y, .int .i64 Z]) ∧ Below w.heap.size w w' := by
  go_enter Try.func94, Try.ntmps94
  go_wp2_with (fail)
  refine (fx.out _ (by repeat (first | exact Below.refl _ _ | assumption | refine below_drewN ?_ _ | refine Below.drew ?_ | refine Below.alloc ?_ (by first | omega | (simp; done) | (simp; omega)) _ | refine Below.setCell ?_ (by first | (simp; done) | (simp; omega)) _))).mono ?_; rintro e w1 ⟨rfl, hb⟩
  have hB : Below w.heap.size w w1 := below_step (by repeat (first | exact Below.refl _ _ | assumption | refine below_drewN ?_ _ | refine Below.drew ?_ | refine Below.alloc ?_ (by first | omega | (simp; done) | (simp; omega)) _ | refine Below.setCell ?_ (by first | (simp; done) | (simp; omega)) _)) hb
  have hz : w.heap.size < w1.heap.size := (by have := hb.size; (try simp at this); omega)
  have c0 := hb.cell (p := ⟨w.heap.size, 0, none⟩) (by simp)
  have c1 := hb.cell (p := ⟨w.heap.size, 1, none⟩) (by simp)
  have c2 := hb.cell (p := ⟨w.heap.size, 2, none⟩) (by simp)
  have g0 := hb.frozen (p := ⟨w.heap.size, 0, none⟩) (by simp)
  have g1 := hb.frozen (p := ⟨w.heap.size, 1, none⟩) (by simp)
  have g2 := hb.frozen (p := ⟨w.heap.size, 2, none⟩) (by simp)
  simp [go_sem] at c0 c1 c2 g0 g1 g2
  go_wp2_with (fail)
  refine (fy.out _ (by repeat (first | exact Below.refl _ _ | assumption | refine below_drewN ?_ _ | refine Below.drew ?_ | refine Below.alloc ?_ (by first | omega | (simp; done) | (simp; omega)) _ | refine Below.setCell ?_ (by first | (simp; done) | (simp; omega)) _))).mono ?_; rintro e w2 ⟨rfl, hb2⟩
  have hB2 : Below w.heap.size w w2 := below_step (by repeat (first | exact Below.refl _ _ | assumption | refine below_drewN ?_ _ | refine Below.drew ?_ | refine Below.alloc ?_ (by first | omega | (simp; done) | (simp; omega)) _ | refine Below.setCell ?_ (by first | (simp; done) | (simp; omega)) _)) hb2
  have hz2 : w.heap.size < w2.heap.size := (by have := hb2.size; omega)
  have d0 := hb2.cell (p := ⟨w.heap.size, 0, none⟩) hz
  have d1 := hb2.cell (p := ⟨w.heap.size, 1, none⟩) hz
  have d2 := hb2.cell (p := ⟨w.heap.size, 2, none⟩) hz
  have q0 := hb2.frozen (p := ⟨w.heap.size, 0, none⟩) hz
  have q1 := hb2.frozen (p := ⟨w.heap.size, 1, none⟩) hz
  have q2 := hb2.frozen (p := ⟨w.heap.size, 2, none⟩) hz
  rw [c0] at d0; rw [c1] at d1; rw [c2] at d2; rw [g0] at q0; rw [g1] at q1; rw [g2] at q2
  clear c0 c1 c2 g0 g1 g2 hb hb2
  go_wp2_with (fail)
  refine (fz.out _ (by repeat (first | exact Below.refl _ _ | assumption | refine below_drewN ?_ _ | refine Below.drew ?_ | refine Below.alloc ?_ (by first | omega | (simp; done) | (simp; omega)) _ | refine Below.setCell ?_ (by first | (simp; done) | (simp; omega)) _))).mono ?_; rintro e w3 ⟨rfl, hb3⟩
  have hB3 : Below w.heap.size w w3 := below_step (by repeat (first | exact Below.refl _ _ | assumption | refine below_drewN ?_ _ | refine Below.drew ?_ | refine Below.alloc ?_ (by first | omega | (simp; done) | (simp; omega)) _ | refine Below.setCell ?_ (by first | (simp; done) | (simp; omega)) _)) hb3
  have c0 := hb3.cell (p := ⟨w.heap.size, 0, none⟩) hz2
  have c1 := hb3.cell (p := ⟨w.heap.size, 1, none⟩) hz2
  have c2 := hb3.cell (p := ⟨w.heap.size, 2, none⟩) hz2
  have g0 := hb3.frozen (p := ⟨w.heap.size, 0, none⟩) hz2
  have g1 := hb3.frozen (p := ⟨w.heap.size, 1, none⟩) hz2
  have g2 := hb3.frozen (p := ⟨w.heap.size, 2, none⟩) hz2
  rw [d0] at c0; rw [d1] at c1; rw [d2] at c2; rw [q0] at g0; rw [q1] at g1; rw [q2] at g2
  have hz3 : w.heap.size < w3.heap.size := (by have := hb3.size; omega)
  clear d0 d1 d2 q0 q1 q2 hb3
  go_wp2
  exact bodyPost_ret (v := .agg #[.int .i64 X, .int .i64 Y, .int .i64 Z]) (by simp [results, Try.results94, go_sem, c0, c1, c2]) rfl ⟨rfl, (by repeat (first | exact Below.refl _ _ | assumption | refine below_drewN ?_ _ | refine Below.drew ?_ | refine Below.alloc ?_ (by first | omega | (simp; done) | (simp; omega)) _ | refine Below.setCell ?_ (by first | (simp; done) | (simp; omega)) _))⟩
end Go.Proofs.Ytgggngcgcpmkbaa
