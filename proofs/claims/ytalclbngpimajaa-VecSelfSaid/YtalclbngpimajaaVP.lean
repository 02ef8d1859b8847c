/- umbralaw03.VecSelf: the walk. -/
import Derived.Test.YtalclbngpimajaaVN
import Derived.Deep.RegionHeld3
import Derived.Deep.DeepCutAuto
namespace Go.Proofs.Ytalclbngpimajaa
set_option linter.unusedVariables false
set_option maxRecDepth 2000
set_option linter.unusedSimpArgs false
open Go.RowKit
attribute [local go_sem] setCell_twice setCell_pair

theorem three6 {x y z x' y' z' : Int} {A B : Nat} {W W' : World} (ha : CellsL [(0, x), (1, y), (2, z)] A W) (hb : CellsL [(0, x'), (1, y'), (2, z')] B W) (h : Below W.heap.size W W') :
    W'.cell? ⟨A, 0, none⟩ = some (.int .i64 x) ∧ W'.cell? ⟨A, 1, none⟩ = some (.int .i64 y) ∧ W'.cell? ⟨A, 2, none⟩ = some (.int .i64 z) ∧ W'.cell? ⟨B, 0, none⟩ = some (.int .i64 x') ∧ W'.cell? ⟨B, 1, none⟩ = some (.int .i64 y') ∧ W'.cell? ⟨B, 2, none⟩ = some (.int .i64 z') :=
  have p := (ha.later h).three
  have q := (hb.later h).three
  ⟨p.1, p.2.1, p.2.2, q.1, q.2.1, q.2.2⟩
theorem VecAt.alloc {b : Nat} {x y z : Int} {W : World} {o : Obj} (h : VecAt b x y z W) : VecAt b x y z (W.alloc o) := h.below ((Below.refl _ _).alloc (Nat.le_refl _) _)
theorem VecAt.drew {b : Nat} {x y z : Int} {W : World} (h : VecAt b x y z W) : VecAt b x y z W.drew := h.below (Below.refl _ _).drew
theorem VecAt.newAt {b : Nat} {x y z : Int} {W : World} {T : TypeId} (h : b = W.heap.size) : VecAt b x y z (W.alloc (.cells #[.int .i64 x, .int .i64 y, .int .i64 z] T)) := by
  subst h
  exact ⟨by simp, by simp [go_sem], by simp [go_sem], by simp [go_sem], by simp [go_sem], by simp [go_sem], by simp [go_sem]⟩

set_option maxHeartbeats 1000000 in
theorem Self_a (x1 y1 z1 x2 y2 z2 m : Int) (w : World) (hm : 70368744177664 ≤ m)
    (ca : Hid (∀ w, Calls Try.prog 30 #[(.agg #[.int .i64 x1, .int .i64 y1, .int .i64 z1]), (.agg #[.int .i64 x1, .int .i64 y1, .int .i64 z1])] w fun e w' => e = .returned (.agg #[.int .i64 0, .int .i64 0, .int .i64 0]) ∧ Below w.heap.size w w'))
    (wk : Hid (∀ w, Calls Try.prog 21 #[] w fun e w' => e = .returned (.bool true) ∧ Below w.heap.size w w'))
    (ma : Hid (∀ w, Calls Try.prog 32 #[(.agg #[.int .i64 x1, .int .i64 y1, .int .i64 z1])] w fun e w' => e = .returned (.int .i64 m) ∧ Below w.heap.size w w')) :
    Calls Try.prog 7 #[(.agg #[.int .i64 x1, .int .i64 y1, .int .i64 z1]), (.agg #[.int .i64 x2, .int .i64 y2, .int .i64 z2])] w fun e w' => e = .returned (.bool true) ∧ Below w.heap.size w w' := by
  go_enter Try.func7, Try.ntmps7
  go_wp2_with (fail); go_at_call 30; refine (ca.out _).mono ?_; rintro e w1 ⟨rfl, hb⟩
  have hB : Below w.heap.size w w1 := below_step (by repeat (first | exact Below.refl _ _ | assumption | refine below_drewN ?_ _ | refine Below.drew ?_ | refine Below.alloc ?_ (by first | omega | (simp; done) | (simp; omega)) _ | refine Below.setCell ?_ (by first | (simp; done) | (simp; omega)) _)) hb
  have hz : w.heap.size + 1 < w1.heap.size := (by have := hb.size; (try simp at this); omega)
  have c0a := hb.cell (p := ⟨w.heap.size, 0, none⟩) (by first | omega | (simp; done) | (simp; omega))
  have g0a := hb.frozen (p := ⟨w.heap.size, 0, none⟩) (by first | omega | (simp; done) | (simp; omega))
  have c1a := hb.cell (p := ⟨w.heap.size, 1, none⟩) (by first | omega | (simp; done) | (simp; omega))
  have g1a := hb.frozen (p := ⟨w.heap.size, 1, none⟩) (by first | omega | (simp; done) | (simp; omega))
  have c2a := hb.cell (p := ⟨w.heap.size, 2, none⟩) (by first | omega | (simp; done) | (simp; omega))
  have g2a := hb.frozen (p := ⟨w.heap.size, 2, none⟩) (by first | omega | (simp; done) | (simp; omega))
  simp [go_sem] at c0a g0a c1a g1a c2a g2a
  have c0b := hb.cell (p := ⟨w.heap.size + 1, 0, none⟩) (by first | omega | (simp; done) | (simp; omega))
  have g0b := hb.frozen (p := ⟨w.heap.size + 1, 0, none⟩) (by first | omega | (simp; done) | (simp; omega))
  have c1b := hb.cell (p := ⟨w.heap.size + 1, 1, none⟩) (by first | omega | (simp; done) | (simp; omega))
  have g1b := hb.frozen (p := ⟨w.heap.size + 1, 1, none⟩) (by first | omega | (simp; done) | (simp; omega))
  have c2b := hb.cell (p := ⟨w.heap.size + 1, 2, none⟩) (by first | omega | (simp; done) | (simp; omega))
  have g2b := hb.frozen (p := ⟨w.heap.size + 1, 2, none⟩) (by first | omega | (simp; done) | (simp; omega))
  simp [go_sem] at c0b g0b c1b g1b c2b g2b
  clear hb
  go_wp2_with (fail); go_at_call 32; refine (ma.out _).mono ?_; rintro e w2 ⟨rfl, hb⟩
  have hB2 : Below w.heap.size w w2 := below_step (by repeat (first | exact Below.refl _ _ | assumption | refine below_drewN ?_ _ | refine Below.drew ?_ | refine Below.alloc ?_ (by first | omega | (simp; done) | (simp; omega)) _ | refine Below.setCell ?_ (by first | (simp; done) | (simp; omega)) _)) hb
  clear hb
  go_wp2_with (fail); go_at_call 21; refine (wk.out _).mono ?_; rintro e w3 ⟨rfl, hb⟩
  have hB3 : Below w.heap.size w w3 := below_step (by repeat (first | exact Below.refl _ _ | assumption | refine below_drewN ?_ _ | refine Below.drew ?_ | refine Below.alloc ?_ (by first | omega | (simp; done) | (simp; omega)) _ | refine Below.setCell ?_ (by first | (simp; done) | (simp; omega)) _)) hb
  go_wp2
  go_ret
  exact ⟨rfl, hB3⟩

set_option maxHeartbeats 1000000 in
theorem Self_b (x1 y1 z1 x2 y2 z2 m m' : Int) (w : World) (hm : m < 70368744177664) (hm' : 70368744177664 ≤ m')
    (ca : Hid (∀ w, Calls Try.prog 30 #[(.agg #[.int .i64 x1, .int .i64 y1, .int .i64 z1]), (.agg #[.int .i64 x1, .int .i64 y1, .int .i64 z1])] w fun e w' => e = .returned (.agg #[.int .i64 0, .int .i64 0, .int .i64 0]) ∧ Below w.heap.size w w'))
    (wk : Hid (∀ w, Calls Try.prog 21 #[] w fun e w' => e = .returned (.bool true) ∧ Below w.heap.size w w'))
    (ma : Hid (∀ w, Calls Try.prog 32 #[(.agg #[.int .i64 x1, .int .i64 y1, .int .i64 z1])] w fun e w' => e = .returned (.int .i64 m) ∧ Below w.heap.size w w'))
    (mb : Hid (∀ w, Calls Try.prog 32 #[(.agg #[.int .i64 x2, .int .i64 y2, .int .i64 z2])] w fun e w' => e = .returned (.int .i64 m') ∧ Below w.heap.size w w')) :
    Calls Try.prog 7 #[(.agg #[.int .i64 x1, .int .i64 y1, .int .i64 z1]), (.agg #[.int .i64 x2, .int .i64 y2, .int .i64 z2])] w fun e w' => e = .returned (.bool true) ∧ Below w.heap.size w w' := by
  go_enter Try.func7, Try.ntmps7
  go_wp2_with (fail); go_at_call 30; refine (ca.out _).mono ?_; rintro e w1 ⟨rfl, hb⟩
  have hB : Below w.heap.size w w1 := below_step (by repeat (first | exact Below.refl _ _ | assumption | refine below_drewN ?_ _ | refine Below.drew ?_ | refine Below.alloc ?_ (by first | omega | (simp; done) | (simp; omega)) _ | refine Below.setCell ?_ (by first | (simp; done) | (simp; omega)) _)) hb
  have hz : w.heap.size + 1 < w1.heap.size := (by have := hb.size; (try simp at this); omega)
  have hz0 : w.heap.size < w1.heap.size := (by omega)
  have c0a := hb.cell (p := ⟨w.heap.size, 0, none⟩) (by first | omega | (simp; done) | (simp; omega))
  have g0a := hb.frozen (p := ⟨w.heap.size, 0, none⟩) (by first | omega | (simp; done) | (simp; omega))
  have c1a := hb.cell (p := ⟨w.heap.size, 1, none⟩) (by first | omega | (simp; done) | (simp; omega))
  have g1a := hb.frozen (p := ⟨w.heap.size, 1, none⟩) (by first | omega | (simp; done) | (simp; omega))
  have c2a := hb.cell (p := ⟨w.heap.size, 2, none⟩) (by first | omega | (simp; done) | (simp; omega))
  have g2a := hb.frozen (p := ⟨w.heap.size, 2, none⟩) (by first | omega | (simp; done) | (simp; omega))
  simp [go_sem] at c0a g0a c1a g1a c2a g2a
  have c0b := hb.cell (p := ⟨w.heap.size + 1, 0, none⟩) (by first | omega | (simp; done) | (simp; omega))
  have g0b := hb.frozen (p := ⟨w.heap.size + 1, 0, none⟩) (by first | omega | (simp; done) | (simp; omega))
  have c1b := hb.cell (p := ⟨w.heap.size + 1, 1, none⟩) (by first | omega | (simp; done) | (simp; omega))
  have g1b := hb.frozen (p := ⟨w.heap.size + 1, 1, none⟩) (by first | omega | (simp; done) | (simp; omega))
  have c2b := hb.cell (p := ⟨w.heap.size + 1, 2, none⟩) (by first | omega | (simp; done) | (simp; omega))
  have g2b := hb.frozen (p := ⟨w.heap.size + 1, 2, none⟩) (by first | omega | (simp; done) | (simp; omega))
  simp [go_sem] at c0b g0b c1b g1b c2b g2b
  clear hb
  go_wp2_with (fail); go_at_call 32; refine (ma.out _).mono ?_; rintro e w2 ⟨rfl, hb⟩
  have hB2 : Below w.heap.size w w2 := below_step (by repeat (first | exact Below.refl _ _ | assumption | refine below_drewN ?_ _ | refine Below.drew ?_ | refine Below.alloc ?_ (by first | omega | (simp; done) | (simp; omega)) _ | refine Below.setCell ?_ (by first | (simp; done) | (simp; omega)) _)) hb
  have d0 := hb.cell (p := ⟨w.heap.size + 1, 0, none⟩) hz
  have d1 := hb.cell (p := ⟨w.heap.size + 1, 1, none⟩) hz
  have d2 := hb.cell (p := ⟨w.heap.size + 1, 2, none⟩) hz
  rw [c0b] at d0; rw [c1b] at d1; rw [c2b] at d2
  clear hb
  go_wp2_with (fail); go_at_call 32; refine (mb.out _).mono ?_; rintro e w4 ⟨rfl, hb⟩
  have hB4 : Below w.heap.size w w4 := below_step (by repeat (first | exact Below.refl _ _ | assumption | refine below_drewN ?_ _ | refine Below.drew ?_ | refine Below.alloc ?_ (by first | omega | (simp; done) | (simp; omega)) _ | refine Below.setCell ?_ (by first | (simp; done) | (simp; omega)) _)) hb
  clear hb
  go_wp2_with (fail); go_at_call 21; refine (wk.out _).mono ?_; rintro e w3 ⟨rfl, hb⟩
  have hB3 : Below w.heap.size w w3 := below_step (by repeat (first | exact Below.refl _ _ | assumption | refine below_drewN ?_ _ | refine Below.drew ?_ | refine Below.alloc ?_ (by first | omega | (simp; done) | (simp; omega)) _ | refine Below.setCell ?_ (by first | (simp; done) | (simp; omega)) _)) hb
  go_wp2
  go_ret
  exact ⟨rfl, hB3⟩

set_option maxHeartbeats 4000000 in
theorem Self_c (x1 y1 z1 x2 y2 z2 m m' X Y Z X' Y' Z' : Int) (w : World) (hm : m < 70368744177664) (hm' : m' < 70368744177664)
    (ca : Hid (∀ w, Calls Try.prog 30 #[(.agg #[.int .i64 x1, .int .i64 y1, .int .i64 z1]), (.agg #[.int .i64 x1, .int .i64 y1, .int .i64 z1])] w fun e w' => e = .returned (.agg #[.int .i64 0, .int .i64 0, .int .i64 0]) ∧ Below w.heap.size w w'))
    (wk : Hid (∀ w, Calls Try.prog 21 #[] w fun e w' => e = .returned (.bool true) ∧ Below w.heap.size w w'))
    (ma : Hid (∀ w, Calls Try.prog 32 #[(.agg #[.int .i64 x1, .int .i64 y1, .int .i64 z1])] w fun e w' => e = .returned (.int .i64 m) ∧ Below w.heap.size w w'))
    (mb : Hid (∀ w, Calls Try.prog 32 #[(.agg #[.int .i64 x2, .int .i64 y2, .int .i64 z2])] w fun e w' => e = .returned (.int .i64 m') ∧ Below w.heap.size w w'))
    (c12 : Hid (∀ w, Calls Try.prog 30 #[(.agg #[.int .i64 x1, .int .i64 y1, .int .i64 z1]), (.agg #[.int .i64 x2, .int .i64 y2, .int .i64 z2])] w fun e w' => e = .returned (.agg #[.int .i64 X, .int .i64 Y, .int .i64 Z]) ∧ Below w.heap.size w w'))
    (c21 : Hid (∀ w, Calls Try.prog 30 #[(.agg #[.int .i64 x2, .int .i64 y2, .int .i64 z2]), (.agg #[.int .i64 x1, .int .i64 y1, .int .i64 z1])] w fun e w' => e = .returned (.agg #[.int .i64 X', .int .i64 Y', .int .i64 Z']) ∧ Below w.heap.size w w'))
    (ad : Hid (∀ w blk, Six blk X Y Z X' Y' Z' w → Calls Try.prog 15 #[.slice (some ⟨blk, 0, none⟩) 2 2] w fun e w' => e = .returned (.agg #[.int .i64 0, .int .i64 0, .int .i64 0]) ∧ Below w.heap.size w w')) :
    Calls Try.prog 7 #[(.agg #[.int .i64 x1, .int .i64 y1, .int .i64 z1]), (.agg #[.int .i64 x2, .int .i64 y2, .int .i64 z2])] w fun e w' => e = .returned (.bool true) ∧ Below w.heap.size w w' := by
  go_enter Try.func7, Try.ntmps7
  go_wp2_with (fail); go_at_call 30; refine (ca.out _).mono ?_; rintro e w1 ⟨rfl, hb⟩
  have hB : Below w.heap.size w w1 := below_step (by repeat (first | exact Below.refl _ _ | assumption | refine below_drewN ?_ _ | refine Below.drew ?_ | refine Below.alloc ?_ (by first | omega | (simp; done) | (simp; omega)) _ | refine Below.setCell ?_ (by first | (simp; done) | (simp; omega)) _)) hb
  have hz : w.heap.size + 1 < w1.heap.size := (by have := hb.size; (try simp at this); omega)
  have hz0 : w.heap.size < w1.heap.size := (by omega)
  have c0a := hb.cell (p := ⟨w.heap.size, 0, none⟩) (by first | omega | (simp; done) | (simp; omega))
  have g0a := hb.frozen (p := ⟨w.heap.size, 0, none⟩) (by first | omega | (simp; done) | (simp; omega))
  have c1a := hb.cell (p := ⟨w.heap.size, 1, none⟩) (by first | omega | (simp; done) | (simp; omega))
  have g1a := hb.frozen (p := ⟨w.heap.size, 1, none⟩) (by first | omega | (simp; done) | (simp; omega))
  have c2a := hb.cell (p := ⟨w.heap.size, 2, none⟩) (by first | omega | (simp; done) | (simp; omega))
  have g2a := hb.frozen (p := ⟨w.heap.size, 2, none⟩) (by first | omega | (simp; done) | (simp; omega))
  simp [go_sem] at c0a g0a c1a g1a c2a g2a
  have c0b := hb.cell (p := ⟨w.heap.size + 1, 0, none⟩) (by first | omega | (simp; done) | (simp; omega))
  have g0b := hb.frozen (p := ⟨w.heap.size + 1, 0, none⟩) (by first | omega | (simp; done) | (simp; omega))
  have c1b := hb.cell (p := ⟨w.heap.size + 1, 1, none⟩) (by first | omega | (simp; done) | (simp; omega))
  have g1b := hb.frozen (p := ⟨w.heap.size + 1, 1, none⟩) (by first | omega | (simp; done) | (simp; omega))
  have c2b := hb.cell (p := ⟨w.heap.size + 1, 2, none⟩) (by first | omega | (simp; done) | (simp; omega))
  have g2b := hb.frozen (p := ⟨w.heap.size + 1, 2, none⟩) (by first | omega | (simp; done) | (simp; omega))
  simp [go_sem] at c0b g0b c1b g1b c2b g2b
  clear hb
  go_wp2_with (fail); go_at_call 32; refine (ma.out _).mono ?_; rintro e w2 ⟨rfl, hb⟩
  have hB2 : Below w.heap.size w w2 := below_step (by repeat (first | exact Below.refl _ _ | assumption | refine below_drewN ?_ _ | refine Below.drew ?_ | refine Below.alloc ?_ (by first | omega | (simp; done) | (simp; omega)) _ | refine Below.setCell ?_ (by first | (simp; done) | (simp; omega)) _)) hb
  have hy : w.heap.size + 1 < w2.heap.size := (by have := hb.size; omega)
  have hy0 : w.heap.size < w2.heap.size := (by omega)
  have a0 := hb.cell (p := ⟨w.heap.size, 0, none⟩) hz0
  have a1 := hb.cell (p := ⟨w.heap.size, 1, none⟩) hz0
  have a2 := hb.cell (p := ⟨w.heap.size, 2, none⟩) hz0
  rw [c0a] at a0; rw [c1a] at a1; rw [c2a] at a2
  have d0 := hb.cell (p := ⟨w.heap.size + 1, 0, none⟩) hz
  have d1 := hb.cell (p := ⟨w.heap.size + 1, 1, none⟩) hz
  have d2 := hb.cell (p := ⟨w.heap.size + 1, 2, none⟩) hz
  rw [c0b] at d0; rw [c1b] at d1; rw [c2b] at d2
  clear hb c0a c1a c2a c0b c1b c2b g0a g1a g2a g0b g1b g2b hB hz hz0
  go_wp2_with (fail); go_at_call 32; refine (mb.out _).mono ?_; rintro e W0 ⟨rfl, hb⟩
  have hB0 : Below w.heap.size w W0 := below_step (by repeat (first | exact Below.refl _ _ | assumption | refine below_drewN ?_ _ | refine Below.drew ?_ | refine Below.alloc ?_ (by first | omega | (simp; done) | (simp; omega)) _ | refine Below.setCell ?_ (by first | (simp; done) | (simp; omega)) _)) hb
  have Ha : Hid (CellsL [(0, x1), (1, y1), (2, z1)] w.heap.size W0) := Lib.hid ((CellsL.of hy0 a0 a1 a2).later hb)
  have Hb : Hid (CellsL [(0, x2), (1, y2), (2, z2)] (w.heap.size + 1) W0) := Lib.hid ((CellsL.of hy d0 d1 d2).later hb)
  have hA0 : w.heap.size < W0.heap.size := Ha.out.1
  have hA1 : w.heap.size + 1 < W0.heap.size := Hb.out.1
  clear hb a0 a1 a2 d0 d1 d2 hy hy0 ca ma mb hB2
  go_upto_region 5 with fail
  go_cut [5, 6] (fun s5 s6 wx => ∃ b c, s5 = .pointer (some ⟨b, 0, none⟩) ∧ s6 = .pointer (some ⟨c, 0, none⟩) ∧ Hid (CellsL [(0, X), (1, Y), (2, Z)] b wx) ∧ Hid (CellsL [(0, X'), (1, Y'), (2, Z')] c wx) ∧ Below w.heap.size w wx)
  case first =>
    obtain ⟨A, hA⟩ : ∃ A, A = w.heap.size := ⟨_, rfl⟩
    obtain ⟨B, hBB⟩ : ∃ B, B = w.heap.size + 1 := ⟨_, rfl⟩
    rw [← hBB] at Hb hA1 ⊢
    rw [← hA] at Ha hA0 ⊢
    have hAH := Lib.hid hA
    have hBH := Lib.hid hBB
    clear hA hBB
    have hBd : Below W0.heap.size W0 W0.drew := (Below.refl _ _).drew
    go_region_held3 (fun w' => w'.cell? ⟨A, 0, none⟩ = some (.int .i64 x1) ∧ w'.cell? ⟨A, 1, none⟩ = some (.int .i64 y1) ∧ w'.cell? ⟨A, 2, none⟩ = some (.int .i64 z1) ∧ w'.cell? ⟨B, 0, none⟩ = some (.int .i64 x2) ∧ w'.cell? ⟨B, 1, none⟩ = some (.int .i64 y2) ∧ w'.cell? ⟨B, 2, none⟩ = some (.int .i64 z2)) (exact three6 Ha.out Hb.out (by repeat (first | (with_reducible exact Below.refl _ _) | (with_reducible assumption) | (with_reducible refine Below.drew ?_) | (with_reducible refine Below.alloc ?_ ?_ _) | (with_reducible refine Below.setCell ?_ ?_ _) | (with_reducible exact Nat.le_refl _) | exact Nat.le_succ _ | (simp; done) | (simp; omega) | omega | fail))) (first | (go_at_call 30; (with_reducible refine (c12.out _).mono ?_); rintro e w5 ⟨rfl, h1⟩; have bw5 : Below W0.heap.size W0 w5 := below_step (by repeat (first | (with_reducible exact Below.refl _ _) | (with_reducible assumption) | (with_reducible refine Below.drew ?_) | (with_reducible refine Below.alloc ?_ ?_ _) | (with_reducible refine Below.setCell ?_ ?_ _) | (with_reducible exact Nat.le_refl _) | exact Nat.le_succ _ | (simp; done) | (simp; omega) | omega | fail)) h1; have sw5 := bw5.size; have lAw5 : A < w5.heap.size := (by omega); have lBw5 : B < w5.heap.size := (by omega); (try (have v0 : VecAt (W0.heap.size) 0 0 0 w5 := VecAt.below (by first | ((repeat (first | (with_reducible assumption) | ((with_reducible refine VecAt.newAt ?_); (first | (with_reducible rfl) | (simp; done) | fail)) | (with_reducible refine VecAt.alloc ?_) | (with_reducible refine VecAt.drew ?_))); done) | fail) h1; have nev0 := Nat.ne_of_lt v0.lt; have nfv0 := Ne.symm nev0)); (try (have v1 : VecAt (W0.heap.size + 1) 0 0 0 w5 := VecAt.below (by first | ((repeat (first | (with_reducible assumption) | ((with_reducible refine VecAt.newAt ?_); (first | (with_reducible rfl) | (simp; done) | fail)) | (with_reducible refine VecAt.alloc ?_) | (with_reducible refine VecAt.drew ?_))); done) | fail) h1; have nev1 := Nat.ne_of_lt v1.lt; have nfv1 := Ne.symm nev1)); clear h1) | (go_at_call 30; (with_reducible refine (c21.out _).mono ?_); rintro e w6 ⟨rfl, h1⟩; have bw6 : Below W0.heap.size W0 w6 := below_step (by repeat (first | (with_reducible exact Below.refl _ _) | (with_reducible assumption) | (with_reducible refine Below.drew ?_) | (with_reducible refine Below.alloc ?_ ?_ _) | (with_reducible refine Below.setCell ?_ ?_ _) | (with_reducible exact Nat.le_refl _) | exact Nat.le_succ _ | (simp; done) | (simp; omega) | omega | fail)) h1; have sw6 := bw6.size; have lAw6 : A < w6.heap.size := (by omega); have lBw6 : B < w6.heap.size := (by omega); (try (have t := VecAt.below (b := W0.heap.size) (x := 0) (y := 0) (z := 0) (by first | ((repeat (first | (with_reducible assumption) | ((with_reducible refine VecAt.newAt ?_); (first | (with_reducible rfl) | (simp; done) | fail)) | (with_reducible refine VecAt.alloc ?_) | (with_reducible refine VecAt.drew ?_))); done) | fail) h1; obtain ⟨tl, t0, t1, t2, t3, t4, t5⟩ := t; have tn := Nat.ne_of_lt tl; have tm := Ne.symm tn)); (try (have t := VecAt.below (b := W0.heap.size + 1) (x := 0) (y := 0) (z := 0) (by first | ((repeat (first | (with_reducible assumption) | ((with_reducible refine VecAt.newAt ?_); (first | (with_reducible rfl) | (simp; done) | fail)) | (with_reducible refine VecAt.alloc ?_) | (with_reducible refine VecAt.drew ?_))); done) | fail) h1; obtain ⟨tl, t0, t1, t2, t3, t4, t5⟩ := t; have tn := Nat.ne_of_lt tl; have tm := Ne.symm tn)); (try (have t := VecAt.below (b := w5.heap.size) (x := 0) (y := 0) (z := 0) (by first | ((repeat (first | (with_reducible assumption) | ((with_reducible refine VecAt.newAt ?_); (first | (with_reducible rfl) | (simp; done) | fail)) | (with_reducible refine VecAt.alloc ?_) | (with_reducible refine VecAt.drew ?_))); done) | fail) h1; obtain ⟨tl, t0, t1, t2, t3, t4, t5⟩ := t; have tn := Nat.ne_of_lt tl; have tm := Ne.symm tn)); (try (have t := VecAt.below (b := w5.heap.size + 1) (x := 0) (y := 0) (z := 0) (by first | ((repeat (first | (with_reducible assumption) | ((with_reducible refine VecAt.newAt ?_); (first | (with_reducible rfl) | (simp; done) | fail)) | (with_reducible refine VecAt.alloc ?_) | (with_reducible refine VecAt.drew ?_))); done) | fail) h1; obtain ⟨tl, t0, t1, t2, t3, t4, t5⟩ := t; have tn := Nat.ne_of_lt tl; have tm := Ne.symm tn)); clear h1))
    all_goals
      have hB6 : Below w.heap.size w w6 := below_step hB0 bw6
      have hS0 := hB0.size
      have hS6 := hB6.size
      clear c12 c21 ad wk Ha Hb hBd bw5 bw6
      have hA := hAH.out
      have hBB := hBH.out
      clear hAH hBH
      subst hA hBB
      go_wp2_with fail
      go_meet
      exact ⟨_, _, rfl, rfl, Lib.hid (.of (by first | (simp; done) | (simp; omega)) (by simp [go_sem, *]) (by simp [go_sem, *]) (by simp [go_sem, *])), Lib.hid (.of (by first | (simp; done) | (simp; omega)) (by simp [go_sem, *]) (by simp [go_sem, *]) (by simp [go_sem, *])), (by repeat (first | (with_reducible exact Below.refl _ _) | (with_reducible assumption) | (with_reducible refine Below.drew ?_) | (with_reducible refine Below.alloc ?_ ?_ _) | (with_reducible refine Below.setCell ?_ ?_ _) | (with_reducible exact Nat.le_refl _) | exact Nat.le_succ _ | (simp; done) | (simp; omega) | omega | fail))⟩
  case rest =>
    obtain ⟨b, c, rfl, rfl, hb, hc, hB⟩ := hcut
    have hS := hB.size
    obtain ⟨b0, b1, b2⟩ := hb.out.three
    obtain ⟨c0, c1, c2⟩ := hc.out.three
    clear hb hc c12 c21 hB0 Ha Hb
    go_wp2_with (fail); go_at_call 15; refine (ad.out _ _ ⟨by simp, by simp [go_sem], by simp [go_sem], by simp [go_sem], by simp [go_sem], by simp [go_sem], by simp [go_sem]⟩).mono ?_; rintro e w7 ⟨rfl, hb⟩
    have hB7 : Below w.heap.size w w7 := below_step (by repeat (first | exact Below.refl _ _ | assumption | refine below_drewN ?_ _ | refine Below.drew ?_ | refine Below.alloc ?_ (by first | omega | (simp; done) | (simp; omega)) _ | refine Below.setCell ?_ (by first | (simp; done) | (simp; omega)) _)) hb
    clear hb
    go_wp2_with (fail); go_at_call 21; refine (wk.out _).mono ?_; rintro e w8 ⟨rfl, hb⟩
    have hB8 : Below w.heap.size w w8 := below_step (by repeat (first | exact Below.refl _ _ | assumption | refine below_drewN ?_ _ | refine Below.drew ?_ | refine Below.alloc ?_ (by first | omega | (simp; done) | (simp; omega)) _ | refine Below.setCell ?_ (by first | (simp; done) | (simp; omega)) _)) hb
    go_wp2
    go_ret
    exact ⟨rfl, hB8⟩
end Go.Proofs.Ytalclbngpimajaa
