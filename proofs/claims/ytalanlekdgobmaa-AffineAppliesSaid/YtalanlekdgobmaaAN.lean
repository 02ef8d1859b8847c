/- umbralaw04.AffineApplies: the walk. -/
import Derived.Test.YtalanlekdgobmaaAM
namespace Go.Proofs.Ytalanlekdgobmaa
set_option linter.unusedVariables false
set_option maxRecDepth 2000
set_option linter.unusedSimpArgs false
open Go.RowKit
attribute [local go_sem] setCell_twice setCell_pair

set_option maxHeartbeats 8000000 in
theorem Applies_core (a : Aff) (x y z X Y Z X2 Y2 Z2 c : Int) (w : World)
    (k0 : Hid (∀ w, Calls Try.prog 24 #[(.agg #[.int .i64 a.m0, .int .i64 a.m1, .int .i64 a.m2, .int .i64 a.m3, .int .i64 a.m4, .int .i64 a.m5, .int .i64 a.m6, .int .i64 a.m7, .int .i64 a.m8, .int .i64 a.tx, .int .i64 a.ty, .int .i64 a.tz]), (.agg #[.int .i64 x, .int .i64 y, .int .i64 z])] w fun e w' => e = .returned (.agg #[.int .i64 X, .int .i64 Y, .int .i64 Z]) ∧ Below w.heap.size w w'))
    (k1 : Hid (∀ w, Calls Try.prog 25 #[(.agg #[.int .i64 a.m0, .int .i64 a.m1, .int .i64 a.m2, .int .i64 a.m3, .int .i64 a.m4, .int .i64 a.m5, .int .i64 a.m6, .int .i64 a.m7, .int .i64 a.m8, .int .i64 a.tx, .int .i64 a.ty, .int .i64 a.tz]), (.agg #[.int .i64 x, .int .i64 y, .int .i64 z])] w fun e w' => e = .returned (.agg #[.int .i64 X, .int .i64 Y, .int .i64 Z]) ∧ Below w.heap.size w w'))
    (k2 : Hid (∀ w, Calls Try.prog 26 #[(.agg #[.int .i64 a.m0, .int .i64 a.m1, .int .i64 a.m2, .int .i64 a.m3, .int .i64 a.m4, .int .i64 a.m5, .int .i64 a.m6, .int .i64 a.m7, .int .i64 a.m8, .int .i64 a.tx, .int .i64 a.ty, .int .i64 a.tz]), (.agg #[.int .i64 x, .int .i64 y, .int .i64 z])] w fun e w' => e = .returned (.agg #[.int .i64 X2, .int .i64 Y2, .int .i64 Z2]) ∧ Below w.heap.size w w'))
    (k3 : Hid (∀ w, Calls Try.prog 27 #[(.agg #[.int .i64 a.m0, .int .i64 a.m1, .int .i64 a.m2, .int .i64 a.m3, .int .i64 a.m4, .int .i64 a.m5, .int .i64 a.m6, .int .i64 a.m7, .int .i64 a.m8, .int .i64 a.tx, .int .i64 a.ty, .int .i64 a.tz]), (.agg #[.int .i64 x, .int .i64 y, .int .i64 z])] w fun e w' => e = .returned (.agg #[.int .i64 X2, .int .i64 Y2, .int .i64 Z2]) ∧ Below w.heap.size w w'))
    (k4 : Hid (∀ w, Calls Try.prog 28 #[(.agg #[.int .i64 a.m0, .int .i64 a.m1, .int .i64 a.m2, .int .i64 a.m3, .int .i64 a.m4, .int .i64 a.m5, .int .i64 a.m6, .int .i64 a.m7, .int .i64 a.m8, .int .i64 a.tx, .int .i64 a.ty, .int .i64 a.tz])] w fun e w' => e = .returned (.int .i64 c) ∧ Below w.heap.size w w'))
    (k5 : Hid (∀ w, Calls Try.prog 29 #[(.agg #[.int .i64 a.m0, .int .i64 a.m1, .int .i64 a.m2, .int .i64 a.m3, .int .i64 a.m4, .int .i64 a.m5, .int .i64 a.m6, .int .i64 a.m7, .int .i64 a.m8, .int .i64 a.tx, .int .i64 a.ty, .int .i64 a.tz])] w fun e w' => e = .returned (.int .i64 c) ∧ Below w.heap.size w w'))
    (k6 : Hid (∀ w, Calls Try.prog 23 #[] w fun e w' => e = .returned (.bool true) ∧ Below w.heap.size w w')) :
    Calls Try.prog 4 #[(.agg #[.int .i64 a.m0, .int .i64 a.m1, .int .i64 a.m2, .int .i64 a.m3, .int .i64 a.m4, .int .i64 a.m5, .int .i64 a.m6, .int .i64 a.m7, .int .i64 a.m8, .int .i64 a.tx, .int .i64 a.ty, .int .i64 a.tz]), (.agg #[.int .i64 x, .int .i64 y, .int .i64 z])] w fun e w' => e = .returned (.bool true) ∧ Below w.heap.size w w' := by
  go_enter Try.func4, Try.ntmps4
  go_wp2_with (fail)
  obtain ⟨W0, hW⟩ : ∃ W0, W0 = ((w.alloc (.cells #[.int .i64 a.m0, .int .i64 a.m1, .int .i64 a.m2, .int .i64 a.m3, .int .i64 a.m4, .int .i64 a.m5, .int .i64 a.m6, .int .i64 a.m7, .int .i64 a.m8, .int .i64 a.tx, .int .i64 a.ty, .int .i64 a.tz] 29)).alloc (.cells #[.int .i64 x, .int .i64 y, .int .i64 z] 26)) := ⟨_, rfl⟩
  have hB0 : Below w.heap.size w W0 := hW ▸ (Below.al (Below.al (Below.refl _ _)))
  have HA : Hid (Own w.heap.size [.int .i64 a.m0, .int .i64 a.m1, .int .i64 a.m2, .int .i64 a.m3, .int .i64 a.m4, .int .i64 a.m5, .int .i64 a.m6, .int .i64 a.m7, .int .i64 a.m8, .int .i64 a.tx, .int .i64 a.ty, .int .i64 a.tz] W0) := Lib.hid (hW ▸ (Own.newAt (by simp)).alloc)
  have HV : Hid (Own (w.heap.size + 1) [.int .i64 x, .int .i64 y, .int .i64 z] W0) := Lib.hid (hW ▸ (Own.newAt (by simp)))
  rw [← hW]
  clear hW
  obtain ⟨V, eV⟩ : ∃ X, X = (w.heap.size + 1) := ⟨_, rfl⟩
  rw [← eV] at HV ⊢
  have Vw : w.heap.size ≤ V := by omega
  obtain ⟨A, eA⟩ : ∃ X, X = w.heap.size := ⟨_, rfl⟩
  rw [← eA] at HA ⊢
  have Aw : w.heap.size ≤ A := by omega
  have nAV : A ≠ V := by omega
  have nVA : V ≠ A := by omega
  clear eA eV
  have hBd : Below W0.heap.size W0 W0.drew := (Below.refl _ _).drew
  have SH : Hid (∀ w', Below W0.heap.size W0 w' → w'.cell? ⟨A, 0, none⟩ = some (.int .i64 a.m0) ∧ w'.cell? ⟨A, 1, none⟩ = some (.int .i64 a.m1) ∧ w'.cell? ⟨A, 2, none⟩ = some (.int .i64 a.m2) ∧ w'.cell? ⟨A, 3, none⟩ = some (.int .i64 a.m3) ∧ w'.cell? ⟨A, 4, none⟩ = some (.int .i64 a.m4) ∧ w'.cell? ⟨A, 5, none⟩ = some (.int .i64 a.m5) ∧ w'.cell? ⟨A, 6, none⟩ = some (.int .i64 a.m6) ∧ w'.cell? ⟨A, 7, none⟩ = some (.int .i64 a.m7) ∧ w'.cell? ⟨A, 8, none⟩ = some (.int .i64 a.m8) ∧ w'.cell? ⟨A, 9, none⟩ = some (.int .i64 a.tx) ∧ w'.cell? ⟨A, 10, none⟩ = some (.int .i64 a.ty) ∧ w'.cell? ⟨A, 11, none⟩ = some (.int .i64 a.tz) ∧ w'.cell? ⟨V, 0, none⟩ = some (.int .i64 x) ∧ w'.cell? ⟨V, 1, none⟩ = some (.int .i64 y) ∧ w'.cell? ⟨V, 2, none⟩ = some (.int .i64 z)) := Lib.hid fun w' hb => ⟨(HA.out.later hb).at 0 _ rfl, (HA.out.later hb).at 1 _ rfl, (HA.out.later hb).at 2 _ rfl, (HA.out.later hb).at 3 _ rfl, (HA.out.later hb).at 4 _ rfl, (HA.out.later hb).at 5 _ rfl, (HA.out.later hb).at 6 _ rfl, (HA.out.later hb).at 7 _ rfl, (HA.out.later hb).at 8 _ rfl, (HA.out.later hb).at 9 _ rfl, (HA.out.later hb).at 10 _ rfl, (HA.out.later hb).at 11 _ rfl, (HV.out.later hb).at 0 _ rfl, (HV.out.later hb).at 1 _ rfl, (HV.out.later hb).at 2 _ rfl⟩
  go_region_held3 (fun w' => w'.cell? ⟨A, 0, none⟩ = some (.int .i64 a.m0) ∧ w'.cell? ⟨A, 1, none⟩ = some (.int .i64 a.m1) ∧ w'.cell? ⟨A, 2, none⟩ = some (.int .i64 a.m2) ∧ w'.cell? ⟨A, 3, none⟩ = some (.int .i64 a.m3) ∧ w'.cell? ⟨A, 4, none⟩ = some (.int .i64 a.m4) ∧ w'.cell? ⟨A, 5, none⟩ = some (.int .i64 a.m5) ∧ w'.cell? ⟨A, 6, none⟩ = some (.int .i64 a.m6) ∧ w'.cell? ⟨A, 7, none⟩ = some (.int .i64 a.m7) ∧ w'.cell? ⟨A, 8, none⟩ = some (.int .i64 a.m8) ∧ w'.cell? ⟨A, 9, none⟩ = some (.int .i64 a.tx) ∧ w'.cell? ⟨A, 10, none⟩ = some (.int .i64 a.ty) ∧ w'.cell? ⟨A, 11, none⟩ = some (.int .i64 a.tz) ∧ w'.cell? ⟨V, 0, none⟩ = some (.int .i64 x) ∧ w'.cell? ⟨V, 1, none⟩ = some (.int .i64 y) ∧ w'.cell? ⟨V, 2, none⟩ = some (.int .i64 z)) (first | exact SH.out _ (by assumption) | exact SH.out _ (Below.al (by assumption))) (first | (go_at_call 24; (with_reducible refine (k0.out _).mono ?_); rintro e w1 ⟨rfl, h1⟩; have bw1 : Below W0.heap.size W0 w1 := Below.go hBd h1; clear h1) | (go_at_call 25; (with_reducible refine (k1.out _).mono ?_); rintro e w2 ⟨rfl, h1⟩; have bw2 : Below W0.heap.size W0 w2 := Below.go bw1 h1; clear h1) | (go_at_call 26; (with_reducible refine (k2.out _).mono ?_); rintro e w3 ⟨rfl, h1⟩; have bw3 : Below W0.heap.size W0 w3 := Below.go bw2 h1; clear h1) | (go_at_call 27; (with_reducible refine (k3.out _).mono ?_); rintro e w4 ⟨rfl, h1⟩; have bw4 : Below W0.heap.size W0 w4 := Below.go bw3 h1; clear h1) | (go_at_call 28; (with_reducible refine (k4.out _).mono ?_); rintro e w5 ⟨rfl, h1⟩; have bw5 : Below W0.heap.size W0 w5 := Below.go bw4 h1; clear h1) | (go_at_call 29; (with_reducible refine (k5.out _).mono ?_); rintro e w6 ⟨rfl, h1⟩; have bw6 : Below W0.heap.size W0 w6 := Below.go bw5 h1; clear h1) | (go_at_call 23; (with_reducible refine (k6.out _).mono ?_); rintro e w7 ⟨rfl, h1⟩; have bw7 : Below W0.heap.size W0 w7 := Below.go bw6 h1; clear h1))
  have hB7 : Below w.heap.size w w7 := Below.go hB0 bw7
  clear hB0 hBd bw1 bw2 bw3 bw4 bw5 bw6 bw7 HA HV k0 k1 k2 k3 k4 k5 k6 SH
  go_wp2
  go_ret
  exact ⟨rfl, hB7⟩
theorem Applies_walk (a : Aff) (x y z : Int) (ha : inA a) (hx : in64 x) (hy : in64 y) (hz : in64 z) (w : World) :
    Calls Try.prog 4 #[(.agg #[.int .i64 a.m0, .int .i64 a.m1, .int .i64 a.m2, .int .i64 a.m3, .int .i64 a.m4, .int .i64 a.m5, .int .i64 a.m6, .int .i64 a.m7, .int .i64 a.m8, .int .i64 a.tx, .int .i64 a.ty, .int .i64 a.tz]), (.agg #[.int .i64 x, .int .i64 y, .int .i64 z])] w fun e w' => e = .returned (.bool true) ∧ Below w.heap.size w w' :=
  Applies_core a x y z _ _ _ _ _ _ _ w (fun w => Turn_any a x y z ha hx hy hz w) (fun w => RTurn_any a x y z ha hx hy hz w) (fun w => Apply_any a x y z ha hx hy hz w) (fun w => RApply_any a x y z ha hx hy hz w) (fun w => CheckA a ha w) (fun w => RCheckA a ha w) (fun w => works_any w)
end Go.Proofs.Ytalanlekdgobmaa
