/- affine.Apply, and the document's. -/
import Derived.Test.YtgggngcgcpmkbaaKA
import Derived.Test.YtgggngcgcpmkbaaVN
namespace Go.Proofs.Ytgggngcgcpmkbaa
set_option linter.unusedVariables false
set_option maxRecDepth 2000
set_option linter.unusedSimpArgs false
open Go.RowKit
attribute [local go_sem] setCell_twice setCell_pair

set_option maxHeartbeats 4000000 in
theorem Apply_core (a b c d e f g h i tx ty tz x y z p q r X Y Z : Int) (w : World)
    (k0 : Hid (∀ w, Calls Try.prog 107 #[(.agg #[.int .i64 a, .int .i64 b, .int .i64 c, .int .i64 d, .int .i64 e, .int .i64 f, .int .i64 g, .int .i64 h, .int .i64 i, .int .i64 tx, .int .i64 ty, .int .i64 tz]), (.agg #[.int .i64 x, .int .i64 y, .int .i64 z])] w fun e w' => e = .returned (.agg #[.int .i64 p, .int .i64 q, .int .i64 r]) ∧ Below w.heap.size w w'))
    (k1 : Hid (∀ w blk, Own blk [.int .i64 p, .int .i64 q, .int .i64 r, .int .i64 tx, .int .i64 ty, .int .i64 tz] w → Calls Try.prog 113 #[.slice (some ⟨blk, 0, none⟩) 2 2] w fun e w' => e = .returned (.agg #[.int .i64 X, .int .i64 Y, .int .i64 Z]) ∧ Below w.heap.size w w')) :
    Calls Try.prog 97 #[(.agg #[.int .i64 a, .int .i64 b, .int .i64 c, .int .i64 d, .int .i64 e, .int .i64 f, .int .i64 g, .int .i64 h, .int .i64 i, .int .i64 tx, .int .i64 ty, .int .i64 tz]), (.agg #[.int .i64 x, .int .i64 y, .int .i64 z])] w fun e w' => e = .returned (.agg #[.int .i64 X, .int .i64 Y, .int .i64 Z]) ∧ Below w.heap.size w w' := by
  go_enter Try.func97, Try.ntmps97
  go_wp2_with (fail)
  obtain ⟨W0, hW⟩ : ∃ W0, W0 = (((w.alloc (.cells #[.int .i64 a, .int .i64 b, .int .i64 c, .int .i64 d, .int .i64 e, .int .i64 f, .int .i64 g, .int .i64 h, .int .i64 i, .int .i64 tx, .int .i64 ty, .int .i64 tz] 80)).alloc (.cells #[.int .i64 x, .int .i64 y, .int .i64 z] 36)).alloc (.cells #[.int .i64 0, .int .i64 0, .int .i64 0] 36)) := ⟨_, rfl⟩
  have hB0 : Below w.heap.size w W0 := hW ▸ (Below.al (Below.al (Below.al (Below.refl _ _))))
  have HA : Hid (Own w.heap.size [.int .i64 a, .int .i64 b, .int .i64 c, .int .i64 d, .int .i64 e, .int .i64 f, .int .i64 g, .int .i64 h, .int .i64 i, .int .i64 tx, .int .i64 ty, .int .i64 tz] W0) := Lib.hid (hW ▸ (Own.newAt (by simp)).alloc.alloc)
  have HV : Hid (Own (w.heap.size + 1) [.int .i64 x, .int .i64 y, .int .i64 z] W0) := Lib.hid (hW ▸ (Own.newAt (by simp)).alloc)
  have HR : Hid (Own ((w.heap.size + 1) + 1) [.int .i64 0, .int .i64 0, .int .i64 0] W0) := Lib.hid (hW ▸ (Own.newAt (by simp)))
  rw [← hW]
  clear hW
  obtain ⟨R, eR⟩ : ∃ X, X = ((w.heap.size + 1) + 1) := ⟨_, rfl⟩
  rw [← eR] at HR ⊢
  have Rw : w.heap.size ≤ R := by omega
  obtain ⟨V, eV⟩ : ∃ X, X = (w.heap.size + 1) := ⟨_, rfl⟩
  rw [← eV] at HV ⊢
  have Vw : w.heap.size ≤ V := by omega
  obtain ⟨A, eA⟩ : ∃ X, X = w.heap.size := ⟨_, rfl⟩
  rw [← eA] at HA ⊢
  have Aw : w.heap.size ≤ A := by omega
  have nAV : A ≠ V := by omega
  have nVA : V ≠ A := by omega
  have nAR : A ≠ R := by omega
  have nRA : R ≠ A := by omega
  have nVR : V ≠ R := by omega
  have nRV : R ≠ V := by omega
  clear eA eV eR
  have hBd : Below W0.heap.size W0 W0.drew := (Below.refl _ _).drew
  have SH : Hid (∀ w', Below W0.heap.size W0 w' → w'.cell? ⟨A, 0, none⟩ = some (.int .i64 a) ∧ w'.cell? ⟨A, 1, none⟩ = some (.int .i64 b) ∧ w'.cell? ⟨A, 2, none⟩ = some (.int .i64 c) ∧ w'.cell? ⟨A, 3, none⟩ = some (.int .i64 d) ∧ w'.cell? ⟨A, 4, none⟩ = some (.int .i64 e) ∧ w'.cell? ⟨A, 5, none⟩ = some (.int .i64 f) ∧ w'.cell? ⟨A, 6, none⟩ = some (.int .i64 g) ∧ w'.cell? ⟨A, 7, none⟩ = some (.int .i64 h) ∧ w'.cell? ⟨A, 8, none⟩ = some (.int .i64 i) ∧ w'.cell? ⟨A, 9, none⟩ = some (.int .i64 tx) ∧ w'.cell? ⟨A, 10, none⟩ = some (.int .i64 ty) ∧ w'.cell? ⟨A, 11, none⟩ = some (.int .i64 tz) ∧ w'.cell? ⟨V, 0, none⟩ = some (.int .i64 x) ∧ w'.cell? ⟨V, 1, none⟩ = some (.int .i64 y) ∧ w'.cell? ⟨V, 2, none⟩ = some (.int .i64 z)) := Lib.hid fun w' hb => ⟨(HA.out.later hb).at 0 _ rfl, (HA.out.later hb).at 1 _ rfl, (HA.out.later hb).at 2 _ rfl, (HA.out.later hb).at 3 _ rfl, (HA.out.later hb).at 4 _ rfl, (HA.out.later hb).at 5 _ rfl, (HA.out.later hb).at 6 _ rfl, (HA.out.later hb).at 7 _ rfl, (HA.out.later hb).at 8 _ rfl, (HA.out.later hb).at 9 _ rfl, (HA.out.later hb).at 10 _ rfl, (HA.out.later hb).at 11 _ rfl, (HV.out.later hb).at 0 _ rfl, (HV.out.later hb).at 1 _ rfl, (HV.out.later hb).at 2 _ rfl⟩
  have SF : Hid (∀ w', Below W0.heap.size W0 w' → (w'.setCells R 0 [.int .i64 X, .int .i64 Y, .int .i64 Z]).cell? ⟨A, 0, none⟩ = some (.int .i64 a) ∧ (w'.setCells R 0 [.int .i64 X, .int .i64 Y, .int .i64 Z]).cell? ⟨A, 1, none⟩ = some (.int .i64 b) ∧ (w'.setCells R 0 [.int .i64 X, .int .i64 Y, .int .i64 Z]).cell? ⟨A, 2, none⟩ = some (.int .i64 c) ∧ (w'.setCells R 0 [.int .i64 X, .int .i64 Y, .int .i64 Z]).cell? ⟨A, 3, none⟩ = some (.int .i64 d) ∧ (w'.setCells R 0 [.int .i64 X, .int .i64 Y, .int .i64 Z]).cell? ⟨A, 4, none⟩ = some (.int .i64 e) ∧ (w'.setCells R 0 [.int .i64 X, .int .i64 Y, .int .i64 Z]).cell? ⟨A, 5, none⟩ = some (.int .i64 f) ∧ (w'.setCells R 0 [.int .i64 X, .int .i64 Y, .int .i64 Z]).cell? ⟨A, 6, none⟩ = some (.int .i64 g) ∧ (w'.setCells R 0 [.int .i64 X, .int .i64 Y, .int .i64 Z]).cell? ⟨A, 7, none⟩ = some (.int .i64 h) ∧ (w'.setCells R 0 [.int .i64 X, .int .i64 Y, .int .i64 Z]).cell? ⟨A, 8, none⟩ = some (.int .i64 i) ∧ (w'.setCells R 0 [.int .i64 X, .int .i64 Y, .int .i64 Z]).cell? ⟨A, 9, none⟩ = some (.int .i64 tx) ∧ (w'.setCells R 0 [.int .i64 X, .int .i64 Y, .int .i64 Z]).cell? ⟨A, 10, none⟩ = some (.int .i64 ty) ∧ (w'.setCells R 0 [.int .i64 X, .int .i64 Y, .int .i64 Z]).cell? ⟨A, 11, none⟩ = some (.int .i64 tz) ∧ (w'.setCells R 0 [.int .i64 X, .int .i64 Y, .int .i64 Z]).cell? ⟨V, 0, none⟩ = some (.int .i64 x) ∧ (w'.setCells R 0 [.int .i64 X, .int .i64 Y, .int .i64 Z]).cell? ⟨V, 1, none⟩ = some (.int .i64 y) ∧ (w'.setCells R 0 [.int .i64 X, .int .i64 Y, .int .i64 Z]).cell? ⟨V, 2, none⟩ = some (.int .i64 z)) := Lib.hid fun w' hb => ⟨((HA.out.later hb).far nAR).at 0 _ rfl, ((HA.out.later hb).far nAR).at 1 _ rfl, ((HA.out.later hb).far nAR).at 2 _ rfl, ((HA.out.later hb).far nAR).at 3 _ rfl, ((HA.out.later hb).far nAR).at 4 _ rfl, ((HA.out.later hb).far nAR).at 5 _ rfl, ((HA.out.later hb).far nAR).at 6 _ rfl, ((HA.out.later hb).far nAR).at 7 _ rfl, ((HA.out.later hb).far nAR).at 8 _ rfl, ((HA.out.later hb).far nAR).at 9 _ rfl, ((HA.out.later hb).far nAR).at 10 _ rfl, ((HA.out.later hb).far nAR).at 11 _ rfl, ((HV.out.later hb).far nVR).at 0 _ rfl, ((HV.out.later hb).far nVR).at 1 _ rfl, ((HV.out.later hb).far nVR).at 2 _ rfl⟩
  go_region_held3 (fun w' => w'.cell? ⟨A, 0, none⟩ = some (.int .i64 a) ∧ w'.cell? ⟨A, 1, none⟩ = some (.int .i64 b) ∧ w'.cell? ⟨A, 2, none⟩ = some (.int .i64 c) ∧ w'.cell? ⟨A, 3, none⟩ = some (.int .i64 d) ∧ w'.cell? ⟨A, 4, none⟩ = some (.int .i64 e) ∧ w'.cell? ⟨A, 5, none⟩ = some (.int .i64 f) ∧ w'.cell? ⟨A, 6, none⟩ = some (.int .i64 g) ∧ w'.cell? ⟨A, 7, none⟩ = some (.int .i64 h) ∧ w'.cell? ⟨A, 8, none⟩ = some (.int .i64 i) ∧ w'.cell? ⟨A, 9, none⟩ = some (.int .i64 tx) ∧ w'.cell? ⟨A, 10, none⟩ = some (.int .i64 ty) ∧ w'.cell? ⟨A, 11, none⟩ = some (.int .i64 tz) ∧ w'.cell? ⟨V, 0, none⟩ = some (.int .i64 x) ∧ w'.cell? ⟨V, 1, none⟩ = some (.int .i64 y) ∧ w'.cell? ⟨V, 2, none⟩ = some (.int .i64 z)) (first | exact SH.out _ (by assumption) | exact SH.out _ (Below.al (by assumption)) | exact SF.out _ (by assumption)) (first | (go_at_call 107; (with_reducible refine (k0.out _).mono ?_); rintro e w1 ⟨rfl, h1⟩; have bw1 : Below W0.heap.size W0 w1 := Below.go hBd h1; have oR := HR.out.later bw1; have R0w1 := oR.at 0 _ rfl; have Rf0w1 := oR.ok 0 (by decide); have R1w1 := oR.at 1 _ rfl; have Rf1w1 := oR.ok 1 (by decide); have R2w1 := oR.at 2 _ rfl; have Rf2w1 := oR.ok 2 (by decide); have Rlw1 := oR.lt; clear oR; clear h1) | (go_at_call 113; (with_reducible refine (k1.out _ _ (Own.newAt rfl)).mono ?_); rintro e w2 ⟨rfl, h1⟩; have bw2 : Below W0.heap.size W0 w2 := Below.go (Below.al bw1) h1; have oR := HR.out.later bw2; have R0w2 := oR.at 0 _ rfl; have Rf0w2 := oR.ok 0 (by decide); have R1w2 := oR.at 1 _ rfl; have Rf1w2 := oR.ok 1 (by decide); have R2w2 := oR.at 2 _ rfl; have Rf2w2 := oR.ok 2 (by decide); have Rlw2 := oR.lt; clear oR; clear h1))
  have hB2 : Below w.heap.size w w2 := Below.go hB0 bw2
  clear hB0 hBd bw1 bw2 HA HV HR k0 k1 SH SF
  go_wp2
  exact bodyPost_ret (v := (.agg #[.int .i64 X, .int .i64 Y, .int .i64 Z])) (by simp [results, Try.results97, go_sem, R0w2, R1w2, R2w2]) rfl ⟨rfl, (by repeat (first | (with_reducible exact Below.refl _ _) | (with_reducible assumption) | (with_reducible refine below_drewN ?_ _) | (with_reducible refine Below.drew ?_) | (with_reducible refine Below.alloc ?_ ?_ _) | (with_reducible refine Below.setCell ?_ ?_ _) | (with_reducible exact Nat.le_refl _) | exact Nat.le_succ _ | (simp; done) | (simp; omega) | omega | fail))⟩

set_option maxHeartbeats 4000000 in
theorem RApply_core (a b c d e f g h i tx ty tz x y z p q r X Y Z : Int) (w : World)
    (k0 : Hid (∀ w, Calls Try.prog 91 #[(.agg #[.int .i64 a, .int .i64 b, .int .i64 c, .int .i64 d, .int .i64 e, .int .i64 f, .int .i64 g, .int .i64 h, .int .i64 i, .int .i64 tx, .int .i64 ty, .int .i64 tz]), (.agg #[.int .i64 x, .int .i64 y, .int .i64 z])] w fun e w' => e = .returned (.agg #[.int .i64 p, .int .i64 q, .int .i64 r]) ∧ Below w.heap.size w w'))
    (k1 : Hid (∀ w, Calls Try.prog 109 #[(.agg #[.int .i64 p, .int .i64 q, .int .i64 r]), (.agg #[.int .i64 tx, .int .i64 ty, .int .i64 tz])] w fun e w' => e = .returned (.agg #[.int .i64 X, .int .i64 Y, .int .i64 Z]) ∧ Below w.heap.size w w')) :
    Calls Try.prog 92 #[(.agg #[.int .i64 a, .int .i64 b, .int .i64 c, .int .i64 d, .int .i64 e, .int .i64 f, .int .i64 g, .int .i64 h, .int .i64 i, .int .i64 tx, .int .i64 ty, .int .i64 tz]), (.agg #[.int .i64 x, .int .i64 y, .int .i64 z])] w fun e w' => e = .returned (.agg #[.int .i64 X, .int .i64 Y, .int .i64 Z]) ∧ Below w.heap.size w w' := by
  go_enter Try.func92, Try.ntmps92
  go_wp2_with (fail)
  obtain ⟨W0, hW⟩ : ∃ W0, W0 = (((w.alloc (.cells #[.int .i64 a, .int .i64 b, .int .i64 c, .int .i64 d, .int .i64 e, .int .i64 f, .int .i64 g, .int .i64 h, .int .i64 i, .int .i64 tx, .int .i64 ty, .int .i64 tz] 80)).alloc (.cells #[.int .i64 x, .int .i64 y, .int .i64 z] 36)).alloc (.cells #[.int .i64 0, .int .i64 0, .int .i64 0] 36)) := ⟨_, rfl⟩
  have hB0 : Below w.heap.size w W0 := hW ▸ (Below.al (Below.al (Below.al (Below.refl _ _))))
  have HA : Hid (Own w.heap.size [.int .i64 a, .int .i64 b, .int .i64 c, .int .i64 d, .int .i64 e, .int .i64 f, .int .i64 g, .int .i64 h, .int .i64 i, .int .i64 tx, .int .i64 ty, .int .i64 tz] W0) := Lib.hid (hW ▸ (Own.newAt (by simp)).alloc.alloc)
  have HV : Hid (Own (w.heap.size + 1) [.int .i64 x, .int .i64 y, .int .i64 z] W0) := Lib.hid (hW ▸ (Own.newAt (by simp)).alloc)
  have HR : Hid (Own ((w.heap.size + 1) + 1) [.int .i64 0, .int .i64 0, .int .i64 0] W0) := Lib.hid (hW ▸ (Own.newAt (by simp)))
  rw [← hW]
  clear hW
  obtain ⟨R, eR⟩ : ∃ X, X = ((w.heap.size + 1) + 1) := ⟨_, rfl⟩
  rw [← eR] at HR ⊢
  have Rw : w.heap.size ≤ R := by omega
  obtain ⟨V, eV⟩ : ∃ X, X = (w.heap.size + 1) := ⟨_, rfl⟩
  rw [← eV] at HV ⊢
  have Vw : w.heap.size ≤ V := by omega
  obtain ⟨A, eA⟩ : ∃ X, X = w.heap.size := ⟨_, rfl⟩
  rw [← eA] at HA ⊢
  have Aw : w.heap.size ≤ A := by omega
  have nAV : A ≠ V := by omega
  have nVA : V ≠ A := by omega
  have nAR : A ≠ R := by omega
  have nRA : R ≠ A := by omega
  have nVR : V ≠ R := by omega
  have nRV : R ≠ V := by omega
  clear eA eV eR
  have hBd : Below W0.heap.size W0 W0.drew := (Below.refl _ _).drew
  have SH : Hid (∀ w', Below W0.heap.size W0 w' → w'.cell? ⟨A, 0, none⟩ = some (.int .i64 a) ∧ w'.cell? ⟨A, 1, none⟩ = some (.int .i64 b) ∧ w'.cell? ⟨A, 2, none⟩ = some (.int .i64 c) ∧ w'.cell? ⟨A, 3, none⟩ = some (.int .i64 d) ∧ w'.cell? ⟨A, 4, none⟩ = some (.int .i64 e) ∧ w'.cell? ⟨A, 5, none⟩ = some (.int .i64 f) ∧ w'.cell? ⟨A, 6, none⟩ = some (.int .i64 g) ∧ w'.cell? ⟨A, 7, none⟩ = some (.int .i64 h) ∧ w'.cell? ⟨A, 8, none⟩ = some (.int .i64 i) ∧ w'.cell? ⟨A, 9, none⟩ = some (.int .i64 tx) ∧ w'.cell? ⟨A, 10, none⟩ = some (.int .i64 ty) ∧ w'.cell? ⟨A, 11, none⟩ = some (.int .i64 tz) ∧ w'.cell? ⟨V, 0, none⟩ = some (.int .i64 x) ∧ w'.cell? ⟨V, 1, none⟩ = some (.int .i64 y) ∧ w'.cell? ⟨V, 2, none⟩ = some (.int .i64 z)) := Lib.hid fun w' hb => ⟨(HA.out.later hb).at 0 _ rfl, (HA.out.later hb).at 1 _ rfl, (HA.out.later hb).at 2 _ rfl, (HA.out.later hb).at 3 _ rfl, (HA.out.later hb).at 4 _ rfl, (HA.out.later hb).at 5 _ rfl, (HA.out.later hb).at 6 _ rfl, (HA.out.later hb).at 7 _ rfl, (HA.out.later hb).at 8 _ rfl, (HA.out.later hb).at 9 _ rfl, (HA.out.later hb).at 10 _ rfl, (HA.out.later hb).at 11 _ rfl, (HV.out.later hb).at 0 _ rfl, (HV.out.later hb).at 1 _ rfl, (HV.out.later hb).at 2 _ rfl⟩
  have SF : Hid (∀ w', Below W0.heap.size W0 w' → (w'.setCells R 0 [.int .i64 X, .int .i64 Y, .int .i64 Z]).cell? ⟨A, 0, none⟩ = some (.int .i64 a) ∧ (w'.setCells R 0 [.int .i64 X, .int .i64 Y, .int .i64 Z]).cell? ⟨A, 1, none⟩ = some (.int .i64 b) ∧ (w'.setCells R 0 [.int .i64 X, .int .i64 Y, .int .i64 Z]).cell? ⟨A, 2, none⟩ = some (.int .i64 c) ∧ (w'.setCells R 0 [.int .i64 X, .int .i64 Y, .int .i64 Z]).cell? ⟨A, 3, none⟩ = some (.int .i64 d) ∧ (w'.setCells R 0 [.int .i64 X, .int .i64 Y, .int .i64 Z]).cell? ⟨A, 4, none⟩ = some (.int .i64 e) ∧ (w'.setCells R 0 [.int .i64 X, .int .i64 Y, .int .i64 Z]).cell? ⟨A, 5, none⟩ = some (.int .i64 f) ∧ (w'.setCells R 0 [.int .i64 X, .int .i64 Y, .int .i64 Z]).cell? ⟨A, 6, none⟩ = some (.int .i64 g) ∧ (w'.setCells R 0 [.int .i64 X, .int .i64 Y, .int .i64 Z]).cell? ⟨A, 7, none⟩ = some (.int .i64 h) ∧ (w'.setCells R 0 [.int .i64 X, .int .i64 Y, .int .i64 Z]).cell? ⟨A, 8, none⟩ = some (.int .i64 i) ∧ (w'.setCells R 0 [.int .i64 X, .int .i64 Y, .int .i64 Z]).cell? ⟨A, 9, none⟩ = some (.int .i64 tx) ∧ (w'.setCells R 0 [.int .i64 X, .int .i64 Y, .int .i64 Z]).cell? ⟨A, 10, none⟩ = some (.int .i64 ty) ∧ (w'.setCells R 0 [.int .i64 X, .int .i64 Y, .int .i64 Z]).cell? ⟨A, 11, none⟩ = some (.int .i64 tz) ∧ (w'.setCells R 0 [.int .i64 X, .int .i64 Y, .int .i64 Z]).cell? ⟨V, 0, none⟩ = some (.int .i64 x) ∧ (w'.setCells R 0 [.int .i64 X, .int .i64 Y, .int .i64 Z]).cell? ⟨V, 1, none⟩ = some (.int .i64 y) ∧ (w'.setCells R 0 [.int .i64 X, .int .i64 Y, .int .i64 Z]).cell? ⟨V, 2, none⟩ = some (.int .i64 z)) := Lib.hid fun w' hb => ⟨((HA.out.later hb).far nAR).at 0 _ rfl, ((HA.out.later hb).far nAR).at 1 _ rfl, ((HA.out.later hb).far nAR).at 2 _ rfl, ((HA.out.later hb).far nAR).at 3 _ rfl, ((HA.out.later hb).far nAR).at 4 _ rfl, ((HA.out.later hb).far nAR).at 5 _ rfl, ((HA.out.later hb).far nAR).at 6 _ rfl, ((HA.out.later hb).far nAR).at 7 _ rfl, ((HA.out.later hb).far nAR).at 8 _ rfl, ((HA.out.later hb).far nAR).at 9 _ rfl, ((HA.out.later hb).far nAR).at 10 _ rfl, ((HA.out.later hb).far nAR).at 11 _ rfl, ((HV.out.later hb).far nVR).at 0 _ rfl, ((HV.out.later hb).far nVR).at 1 _ rfl, ((HV.out.later hb).far nVR).at 2 _ rfl⟩
  go_region_held3 (fun w' => w'.cell? ⟨A, 0, none⟩ = some (.int .i64 a) ∧ w'.cell? ⟨A, 1, none⟩ = some (.int .i64 b) ∧ w'.cell? ⟨A, 2, none⟩ = some (.int .i64 c) ∧ w'.cell? ⟨A, 3, none⟩ = some (.int .i64 d) ∧ w'.cell? ⟨A, 4, none⟩ = some (.int .i64 e) ∧ w'.cell? ⟨A, 5, none⟩ = some (.int .i64 f) ∧ w'.cell? ⟨A, 6, none⟩ = some (.int .i64 g) ∧ w'.cell? ⟨A, 7, none⟩ = some (.int .i64 h) ∧ w'.cell? ⟨A, 8, none⟩ = some (.int .i64 i) ∧ w'.cell? ⟨A, 9, none⟩ = some (.int .i64 tx) ∧ w'.cell? ⟨A, 10, none⟩ = some (.int .i64 ty) ∧ w'.cell? ⟨A, 11, none⟩ = some (.int .i64 tz) ∧ w'.cell? ⟨V, 0, none⟩ = some (.int .i64 x) ∧ w'.cell? ⟨V, 1, none⟩ = some (.int .i64 y) ∧ w'.cell? ⟨V, 2, none⟩ = some (.int .i64 z)) (first | exact SH.out _ (by assumption) | exact SH.out _ (Below.al (by assumption)) | exact SF.out _ (by assumption)) (first | (go_at_call 91; (with_reducible refine (k0.out _).mono ?_); rintro e w1 ⟨rfl, h1⟩; have bw1 : Below W0.heap.size W0 w1 := Below.go hBd h1; have oR := HR.out.later bw1; have R0w1 := oR.at 0 _ rfl; have Rf0w1 := oR.ok 0 (by decide); have R1w1 := oR.at 1 _ rfl; have Rf1w1 := oR.ok 1 (by decide); have R2w1 := oR.at 2 _ rfl; have Rf2w1 := oR.ok 2 (by decide); have Rlw1 := oR.lt; clear oR; clear h1) | (go_at_call 109; (with_reducible refine (k1.out _).mono ?_); rintro e w2 ⟨rfl, h1⟩; have bw2 : Below W0.heap.size W0 w2 := Below.go bw1 h1; have oR := HR.out.later bw2; have R0w2 := oR.at 0 _ rfl; have Rf0w2 := oR.ok 0 (by decide); have R1w2 := oR.at 1 _ rfl; have Rf1w2 := oR.ok 1 (by decide); have R2w2 := oR.at 2 _ rfl; have Rf2w2 := oR.ok 2 (by decide); have Rlw2 := oR.lt; clear oR; clear h1))
  have hB2 : Below w.heap.size w w2 := Below.go hB0 bw2
  clear hB0 hBd bw1 bw2 HA HV HR k0 k1 SH SF
  go_wp2
  exact bodyPost_ret (v := (.agg #[.int .i64 X, .int .i64 Y, .int .i64 Z])) (by simp [results, Try.results92, go_sem, R0w2, R1w2, R2w2]) rfl ⟨rfl, (by repeat (first | (with_reducible exact Below.refl _ _) | (with_reducible assumption) | (with_reducible refine below_drewN ?_ _) | (with_reducible refine Below.drew ?_) | (with_reducible refine Below.alloc ?_ ?_ _) | (with_reducible refine Below.setCell ?_ ?_ _) | (with_reducible exact Nat.le_refl _) | exact Nat.le_succ _ | (simp; done) | (simp; omega) | omega | fail))⟩

theorem VAdd_own (blk : Nat) (x1 y1 z1 x2 y2 z2 : Int) (hx1 : in64 x1) (hy1 : in64 y1) (hz1 : in64 z1) (hx2 : in64 x2) (hy2 : in64 y2) (hz2 : in64 z2) (w : World) (h : Own blk [.int .i64 x1, .int .i64 y1, .int .i64 z1, .int .i64 x2, .int .i64 y2, .int .i64 z2] w) :
    Calls Try.prog 113 #[.slice (some ⟨blk, 0, none⟩) 2 2] w fun e w' => e = .returned (.agg #[.int .i64 (sat (x1 + x2)), .int .i64 (sat (y1 + y2)), .int .i64 (sat (z1 + z2))]) ∧ Below w.heap.size w w' :=
  VAdd_two blk x1 y1 z1 x2 y2 z2 hx1 hy1 hz1 hx2 hy2 hz2 w ⟨h.lt, h.at 0 _ rfl, h.at 1 _ rfl, h.at 2 _ rfl, h.at 3 _ rfl, h.at 4 _ rfl, h.at 5 _ rfl⟩
end Go.Proofs.Ytgggngcgcpmkbaa
