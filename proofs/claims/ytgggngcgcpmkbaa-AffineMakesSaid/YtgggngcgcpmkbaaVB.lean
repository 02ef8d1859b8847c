/- Package vec: functions that apply a function value to each component. -/
import Derived.Test.YtgggngcgcpmkbaaVA
import Derived.Deep.RegionHeld3
namespace Go.Proofs.Ytgggngcgcpmkbaa
set_option linter.unusedVariables false
set_option maxRecDepth 2000
open Go.RowKit
attribute [local go_sem] setCell_twice setCell_pair

/-- three blocks of three cells: two that hold vectors, one of zeros that may be written -/
structure Cells9 (A B R : Nat) (x1 y1 z1 x2 y2 z2 : Int) (W : World) : Prop where
  lt : A < W.heap.size ∧ B < W.heap.size ∧ R < W.heap.size
  a : W.cell? ⟨A, 0, none⟩ = some (.int .i64 x1) ∧ W.cell? ⟨A, 1, none⟩ = some (.int .i64 y1) ∧ W.cell? ⟨A, 2, none⟩ = some (.int .i64 z1)
  b : W.cell? ⟨B, 0, none⟩ = some (.int .i64 x2) ∧ W.cell? ⟨B, 1, none⟩ = some (.int .i64 y2) ∧ W.cell? ⟨B, 2, none⟩ = some (.int .i64 z2)
  r : W.cell? ⟨R, 0, none⟩ = some (.int .i64 0) ∧ W.cell? ⟨R, 1, none⟩ = some (.int .i64 0) ∧ W.cell? ⟨R, 2, none⟩ = some (.int .i64 0)
  f : W.frozen? ⟨R, 0, none⟩ = false ∧ W.frozen? ⟨R, 1, none⟩ = false ∧ W.frozen? ⟨R, 2, none⟩ = false
theorem Cells9.at {A B R : Nat} {x1 y1 z1 x2 y2 z2 : Int} {W0 W : World} (h : Cells9 A B R x1 y1 z1 x2 y2 z2 W0) (b : Below W0.heap.size W0 W) :
    W.cell? ⟨A, 0, none⟩ = some (.int .i64 x1) ∧ W.cell? ⟨A, 1, none⟩ = some (.int .i64 y1) ∧ W.cell? ⟨A, 2, none⟩ = some (.int .i64 z1) ∧
    W.cell? ⟨B, 0, none⟩ = some (.int .i64 x2) ∧ W.cell? ⟨B, 1, none⟩ = some (.int .i64 y2) ∧ W.cell? ⟨B, 2, none⟩ = some (.int .i64 z2) ∧
    W.cell? ⟨R, 0, none⟩ = some (.int .i64 0) ∧ W.cell? ⟨R, 1, none⟩ = some (.int .i64 0) ∧ W.cell? ⟨R, 2, none⟩ = some (.int .i64 0) ∧
    W.frozen? ⟨R, 0, none⟩ = false ∧ W.frozen? ⟨R, 1, none⟩ = false ∧ W.frozen? ⟨R, 2, none⟩ = false := by
  obtain ⟨lA, lB, lR⟩ := h.lt
  refine ⟨?_, ?_, ?_, ?_, ?_, ?_, ?_, ?_, ?_, ?_, ?_, ?_⟩
  · rw [b.cell (p := ⟨A, 0, none⟩) lA]; exact h.a.1
  · rw [b.cell (p := ⟨A, 1, none⟩) lA]; exact h.a.2.1
  · rw [b.cell (p := ⟨A, 2, none⟩) lA]; exact h.a.2.2
  · rw [b.cell (p := ⟨B, 0, none⟩) lB]; exact h.b.1
  · rw [b.cell (p := ⟨B, 1, none⟩) lB]; exact h.b.2.1
  · rw [b.cell (p := ⟨B, 2, none⟩) lB]; exact h.b.2.2
  · rw [b.cell (p := ⟨R, 0, none⟩) lR]; exact h.r.1
  · rw [b.cell (p := ⟨R, 1, none⟩) lR]; exact h.r.2.1
  · rw [b.cell (p := ⟨R, 2, none⟩) lR]; exact h.r.2.2
  · rw [b.frozen (p := ⟨R, 0, none⟩) lR]; exact h.f.1
  · rw [b.frozen (p := ⟨R, 1, none⟩) lR]; exact h.f.2.1
  · rw [b.frozen (p := ⟨R, 2, none⟩) lR]; exact h.f.2.2

set_option maxHeartbeats 1000000 in
theorem pair_core (k : Nat) (cs : Array Value) (x1 y1 z1 x2 y2 z2 X Y Z : Int) (w : World)
    (eg : ∀ args w, (callFunc k args).run Try.prog w = .ok (.enter k args) w)
    (fx : Hid (∀ wx, Below w.heap.size w wx → Calls Try.prog k (#[.int .i64 x1, .int .i64 x2] ++ cs) wx fun e w' => e = .returned (.int .i64 X) ∧ Below wx.heap.size wx w'))
    (fy : Hid (∀ wx, Below w.heap.size w wx → Calls Try.prog k (#[.int .i64 y1, .int .i64 y2] ++ cs) wx fun e w' => e = .returned (.int .i64 Y) ∧ Below wx.heap.size wx w'))
    (fz : Hid (∀ wx, Below w.heap.size w wx → Calls Try.prog k (#[.int .i64 z1, .int .i64 z2] ++ cs) wx fun e w' => e = .returned (.int .i64 Z) ∧ Below wx.heap.size wx w')) :
    Calls Try.prog 121 #[.agg #[.int .i64 x1, .int .i64 y1, .int .i64 z1], .agg #[.int .i64 x2, .int .i64 y2, .int .i64 z2], .func (.func k) #[] cs] w fun e w' => e = .returned (.agg #[.int .i64 X, .int .i64 Y, .int .i64 Z]) ∧ Below w.heap.size w w' := by
  go_enter Try.func121, Try.ntmps121
  go_wp2_with (fail)
  have hB0 : Below w.heap.size w (((w.alloc (.cells #[.int .i64 x1, .int .i64 y1, .int .i64 z1] 36)).alloc (.cells #[.int .i64 x2, .int .i64 y2, .int .i64 z2] 36)).alloc (.cells #[.int .i64 0, .int .i64 0, .int .i64 0] 36)) := (by repeat (first | exact Below.refl _ _ | assumption | refine below_drewN ?_ _ | refine Below.drew ?_ | refine Below.alloc ?_ (by first | omega | (simp; done) | (simp; omega)) _ | refine Below.setCell ?_ (by first | (simp; done) | (simp; omega)) _))
  have HC : Hid (Cells9 w.heap.size (w.heap.size + 1) (w.heap.size + 1 + 1) x1 y1 z1 x2 y2 z2 (((w.alloc (.cells #[.int .i64 x1, .int .i64 y1, .int .i64 z1] 36)).alloc (.cells #[.int .i64 x2, .int .i64 y2, .int .i64 z2] 36)).alloc (.cells #[.int .i64 0, .int .i64 0, .int .i64 0] 36))) := Lib.hid ⟨by refine ⟨?_, ?_, ?_⟩ <;> simp <;> omega, by simp [go_sem], by simp [go_sem], by simp [go_sem], by simp [go_sem]⟩
  generalize (((w.alloc (.cells #[.int .i64 x1, .int .i64 y1, .int .i64 z1] 36)).alloc (.cells #[.int .i64 x2, .int .i64 y2, .int .i64 z2] 36)).alloc (.cells #[.int .i64 0, .int .i64 0, .int .i64 0] 36)) = W0 at *
  obtain ⟨A, hA⟩ : ∃ A, A = w.heap.size := ⟨_, rfl⟩
  obtain ⟨B, hB⟩ : ∃ B, B = w.heap.size + 1 := ⟨_, rfl⟩
  obtain ⟨R, hR⟩ : ∃ R, R = w.heap.size + 1 + 1 := ⟨_, rfl⟩
  have hAR : A ≠ R := by omega
  have hBR : B ≠ R := by omega
  have hRw : w.heap.size ≤ R := by omega
  rw [← hR, ← hB, ← hA] at HC ⊢
  have hA' := Lib.hid hA
  clear hA hB hR
  have hBd : Below W0.heap.size W0 W0.drew := (Below.refl _ _).drew
  obtain ⟨a0, a1, a2, a3, a4, a5, a6, a7, a8, a9, aa, ab⟩ := HC.out.at hBd
  go_region_held3 (fun w' => w'.cell? ⟨A, 0, none⟩ = some (.int .i64 x1) ∧ w'.cell? ⟨A, 1, none⟩ = some (.int .i64 y1) ∧ w'.cell? ⟨A, 2, none⟩ = some (.int .i64 z1) ∧ w'.cell? ⟨B, 0, none⟩ = some (.int .i64 x2) ∧ w'.cell? ⟨B, 1, none⟩ = some (.int .i64 y2) ∧ w'.cell? ⟨B, 2, none⟩ = some (.int .i64 z2)) (first | exact ⟨by assumption, by assumption, by assumption, by assumption, by assumption, by assumption⟩ | (refine ⟨?_, ?_, ?_, ?_, ?_, ?_⟩ <;> simp [go_sem, *]; done) | go_keep) (first | ((with_reducible refine (fx.out _ ?hx).mono ?_); (case hx => exact below_step hB0 (by repeat (first | exact Below.refl _ _ | assumption | refine below_drewN ?_ _ | refine Below.drew ?_ | refine Below.alloc ?_ (by first | omega | (simp; done) | (simp; omega)) _ | refine Below.setCell ?_ (by first | (simp; done) | (simp; omega)) _))); rintro e w1 ⟨rfl, h1⟩; have b1 : Below W0.heap.size W0 w1 := below_step (by repeat (first | exact Below.refl _ _ | assumption | refine below_drewN ?_ _ | refine Below.drew ?_ | refine Below.alloc ?_ (by first | omega | (simp; done) | (simp; omega)) _ | refine Below.setCell ?_ (by first | (simp; done) | (simp; omega)) _)) h1; obtain ⟨a0, a1, a2, a3, a4, a5, a6, a7, a8, a9, aa, ab⟩ := HC.out.at b1; clear h1) | ((with_reducible refine (fy.out _ ?hx).mono ?_); (case hx => exact below_step hB0 (by repeat (first | exact Below.refl _ _ | assumption | refine below_drewN ?_ _ | refine Below.drew ?_ | refine Below.alloc ?_ (by first | omega | (simp; done) | (simp; omega)) _ | refine Below.setCell ?_ (by first | (simp; done) | (simp; omega)) _))); rintro e w1 ⟨rfl, h1⟩; have b1 : Below W0.heap.size W0 w1 := below_step (by repeat (first | exact Below.refl _ _ | assumption | refine below_drewN ?_ _ | refine Below.drew ?_ | refine Below.alloc ?_ (by first | omega | (simp; done) | (simp; omega)) _ | refine Below.setCell ?_ (by first | (simp; done) | (simp; omega)) _)) h1; obtain ⟨a0, a1, a2, a3, a4, a5, a6, a7, a8, a9, aa, ab⟩ := HC.out.at b1; clear h1) | ((with_reducible refine (fz.out _ ?hx).mono ?_); (case hx => exact below_step hB0 (by repeat (first | exact Below.refl _ _ | assumption | refine below_drewN ?_ _ | refine Below.drew ?_ | refine Below.alloc ?_ (by first | omega | (simp; done) | (simp; omega)) _ | refine Below.setCell ?_ (by first | (simp; done) | (simp; omega)) _))); rintro e w1 ⟨rfl, h1⟩; have b1 : Below W0.heap.size W0 w1 := below_step (by repeat (first | exact Below.refl _ _ | assumption | refine below_drewN ?_ _ | refine Below.drew ?_ | refine Below.alloc ?_ (by first | omega | (simp; done) | (simp; omega)) _ | refine Below.setCell ?_ (by first | (simp; done) | (simp; omega)) _)) h1; obtain ⟨a0, a1, a2, a3, a4, a5, a6, a7, a8, a9, aa, ab⟩ := HC.out.at b1; clear h1))
  have hB1 : Below w.heap.size w w1 := below_step hB0 b1
  clear hBd HC fx fy fz eg
  go_wp2
  exact bodyPost_ret (v := .agg #[.int .i64 X, .int .i64 Y, .int .i64 Z]) (by simp [results, Try.results121, go_sem, a6, a7, a8]) rfl ⟨rfl, (by repeat (first | exact Below.refl _ _ | assumption | refine below_drewN ?_ _ | refine Below.drew ?_ | refine Below.alloc ?_ (by first | omega | (simp; done) | (simp; omega)) _ | refine Below.setCell ?_ (by first | (simp; done) | (simp; omega)) _))⟩
end Go.Proofs.Ytgggngcgcpmkbaa
