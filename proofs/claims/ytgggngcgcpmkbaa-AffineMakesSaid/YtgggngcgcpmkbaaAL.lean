/- affine.Place, and the document's. -/
import Derived.Test.YtgggngcgcpmkbaaKA
import Derived.Test.YtgggngcgcpmkbaaAA
import Derived.Test.YtgggngcgcpmkbaaVN
import Derived.LoopN
import Derived.LoopTactic
import Derived.Deep.DeepCutAuto
namespace Go.Proofs.Ytgggngcgcpmkbaa
set_option linter.unusedVariables false
set_option maxRecDepth 2000
set_option linter.unusedSimpArgs false
open Go.RowKit
attribute [local go_sem] setCell_twice setCell_pair

set_option maxHeartbeats 4000000 in
theorem Place_no (m0 m1 m2 m3 m4 m5 m6 m7 m8 tx ty tz px py pz c : Int) (hc : (c != 0) = true) (w : World)
    (k0 : Hid (∀ w, Calls Try.prog 95 #[(.agg #[.int .i64 m0, .int .i64 m1, .int .i64 m2, .int .i64 m3, .int .i64 m4, .int .i64 m5, .int .i64 m6, .int .i64 m7, .int .i64 m8, .int .i64 tx, .int .i64 ty, .int .i64 tz])] w fun e w' => e = .returned (.int .i64 c) ∧ Below w.heap.size w w')) :
    Calls Try.prog 60 #[(.agg #[.int .i64 m0, .int .i64 m1, .int .i64 m2, .int .i64 m3, .int .i64 m4, .int .i64 m5, .int .i64 m6, .int .i64 m7, .int .i64 m8, .int .i64 tx, .int .i64 ty, .int .i64 tz]), (.agg #[.int .i64 px, .int .i64 py, .int .i64 pz])] w fun e w' => e = .returned (.tuple #[(.agg #[.int .i64 0, .int .i64 0, .int .i64 0]), .int .i64 c]) ∧ Below w.heap.size w w' := by
  go_enter Try.func60, Try.ntmps60
  go_upto_region 1 with fail
  obtain ⟨W0, hW⟩ : ∃ W0, W0 = (((w.alloc (.cells #[.int .i64 m0, .int .i64 m1, .int .i64 m2, .int .i64 m3, .int .i64 m4, .int .i64 m5, .int .i64 m6, .int .i64 m7, .int .i64 m8, .int .i64 tx, .int .i64 ty, .int .i64 tz] 80)).alloc (.cells #[.int .i64 px, .int .i64 py, .int .i64 pz] 24)).alloc (.cells #[.int .i64 0, .int .i64 0, .int .i64 0] 24)) := ⟨_, rfl⟩
  have hB0 : Below w.heap.size w W0 := hW ▸ (Below.al (Below.al (Below.al (Below.refl _ _))))
  have HA : Hid (Own w.heap.size [.int .i64 m0, .int .i64 m1, .int .i64 m2, .int .i64 m3, .int .i64 m4, .int .i64 m5, .int .i64 m6, .int .i64 m7, .int .i64 m8, .int .i64 tx, .int .i64 ty, .int .i64 tz] W0) := Lib.hid (hW ▸ (Own.newAt (by simp)).alloc.alloc)
  have HP : Hid (Own (w.heap.size + 1) [.int .i64 px, .int .i64 py, .int .i64 pz] W0) := Lib.hid (hW ▸ (Own.newAt (by simp)).alloc)
  have HR : Hid (Own ((w.heap.size + 1) + 1) [.int .i64 0, .int .i64 0, .int .i64 0] W0) := Lib.hid (hW ▸ (Own.newAt (by simp)))
  rw [← hW]
  clear hW
  obtain ⟨R, eR⟩ : ∃ X, X = ((w.heap.size + 1) + 1) := ⟨_, rfl⟩
  rw [← eR] at HR ⊢
  have Rw : w.heap.size ≤ R := by omega
  obtain ⟨P, eP⟩ : ∃ X, X = (w.heap.size + 1) := ⟨_, rfl⟩
  rw [← eP] at HP ⊢
  have Pw : w.heap.size ≤ P := by omega
  obtain ⟨A, eA⟩ : ∃ X, X = w.heap.size := ⟨_, rfl⟩
  rw [← eA] at HA ⊢
  have Aw : w.heap.size ≤ A := by omega
  have nAP : A ≠ P := by omega
  have nPA : P ≠ A := by omega
  have nAR : A ≠ R := by omega
  have nRA : R ≠ A := by omega
  have nPR : P ≠ R := by omega
  have nRP : R ≠ P := by omega
  clear eA eP eR
  have oA := HA.out
  have A0 := oA.at 0 _ rfl
  have A1 := oA.at 1 _ rfl
  have A2 := oA.at 2 _ rfl
  have A3 := oA.at 3 _ rfl
  have A4 := oA.at 4 _ rfl
  have A5 := oA.at 5 _ rfl
  have A6 := oA.at 6 _ rfl
  have A7 := oA.at 7 _ rfl
  have A8 := oA.at 8 _ rfl
  have A9 := oA.at 9 _ rfl
  have A10 := oA.at 10 _ rfl
  have A11 := oA.at 11 _ rfl
  have Al := oA.lt
  clear oA
  go_wp2_with (go_at_call 95; refine (k0.out _).mono ?_; rintro e w1 ⟨rfl, hb⟩; have oR := HR.out.later hb; have R0 := oR.at 0 _ rfl; have Rf0 := oR.ok 0 (by decide); have R1 := oR.at 1 _ rfl; have Rf1 := oR.ok 1 (by decide); have R2 := oR.at 2 _ rfl; have Rf2 := oR.ok 2 (by decide); have Rl := oR.lt; have hB2 : Below w.heap.size w w1 := Below.go hB0 hb; clear oR hb)
  exact bodyPost_ret (v := .tuple #[(.agg #[.int .i64 0, .int .i64 0, .int .i64 0]), .int .i64 c]) (by simp [results, Try.results60, go_sem, R0, R1, R2]) rfl ⟨rfl, by repeat (first | (with_reducible assumption) | (with_reducible refine Below.setCell ?_ (by first | assumption | (simp; omega)) _))⟩

set_option maxHeartbeats 4000000 in
theorem Place_yes (m0 m1 m2 m3 m4 m5 m6 m7 m8 tx ty tz px py pz ox oy oz qx qy qz X Y Z c : Int) (w : World)
    (k0 : Hid (∀ w, Calls Try.prog 95 #[(.agg #[.int .i64 m0, .int .i64 m1, .int .i64 m2, .int .i64 m3, .int .i64 m4, .int .i64 m5, .int .i64 m6, .int .i64 m7, .int .i64 m8, .int .i64 tx, .int .i64 ty, .int .i64 tz])] w fun e w' => e = .returned (.int .i64 0) ∧ Below w.heap.size w w'))
    (k1 : Hid (∀ w, Calls Try.prog 59 #[(.agg #[.int .i64 px, .int .i64 py, .int .i64 pz])] w fun e w' => e = .returned (.agg #[.int .i64 ox, .int .i64 oy, .int .i64 oz]) ∧ Below w.heap.size w w'))
    (k2 : Hid (∀ w, Calls Try.prog 97 #[(.agg #[.int .i64 m0, .int .i64 m1, .int .i64 m2, .int .i64 m3, .int .i64 m4, .int .i64 m5, .int .i64 m6, .int .i64 m7, .int .i64 m8, .int .i64 tx, .int .i64 ty, .int .i64 tz]), (.agg #[.int .i64 ox, .int .i64 oy, .int .i64 oz])] w fun e w' => e = .returned (.agg #[.int .i64 qx, .int .i64 qy, .int .i64 qz]) ∧ Below w.heap.size w w'))
    (k3 : Hid (∀ w, Calls Try.prog 96 #[(.agg #[.int .i64 qx, .int .i64 qy, .int .i64 qz])] w fun e w' => e = .returned (.tuple #[(.agg #[.int .i64 X, .int .i64 Y, .int .i64 Z]), .int .i64 c]) ∧ Below w.heap.size w w')) :
    Calls Try.prog 60 #[(.agg #[.int .i64 m0, .int .i64 m1, .int .i64 m2, .int .i64 m3, .int .i64 m4, .int .i64 m5, .int .i64 m6, .int .i64 m7, .int .i64 m8, .int .i64 tx, .int .i64 ty, .int .i64 tz]), (.agg #[.int .i64 px, .int .i64 py, .int .i64 pz])] w fun e w' => e = .returned (.tuple #[(.agg #[.int .i64 X, .int .i64 Y, .int .i64 Z]), .int .i64 c]) ∧ Below w.heap.size w w' := by
  go_enter Try.func60, Try.ntmps60
  go_upto_region 1 with fail
  obtain ⟨W0, hW⟩ : ∃ W0, W0 = (((w.alloc (.cells #[.int .i64 m0, .int .i64 m1, .int .i64 m2, .int .i64 m3, .int .i64 m4, .int .i64 m5, .int .i64 m6, .int .i64 m7, .int .i64 m8, .int .i64 tx, .int .i64 ty, .int .i64 tz] 80)).alloc (.cells #[.int .i64 px, .int .i64 py, .int .i64 pz] 24)).alloc (.cells #[.int .i64 0, .int .i64 0, .int .i64 0] 24)) := ⟨_, rfl⟩
  have hB0 : Below w.heap.size w W0 := hW ▸ (Below.al (Below.al (Below.al (Below.refl _ _))))
  have HA : Hid (Own w.heap.size [.int .i64 m0, .int .i64 m1, .int .i64 m2, .int .i64 m3, .int .i64 m4, .int .i64 m5, .int .i64 m6, .int .i64 m7, .int .i64 m8, .int .i64 tx, .int .i64 ty, .int .i64 tz] W0) := Lib.hid (hW ▸ (Own.newAt (by simp)).alloc.alloc)
  have HP : Hid (Own (w.heap.size + 1) [.int .i64 px, .int .i64 py, .int .i64 pz] W0) := Lib.hid (hW ▸ (Own.newAt (by simp)).alloc)
  have HR : Hid (Own ((w.heap.size + 1) + 1) [.int .i64 0, .int .i64 0, .int .i64 0] W0) := Lib.hid (hW ▸ (Own.newAt (by simp)))
  rw [← hW]
  clear hW
  obtain ⟨R, eR⟩ : ∃ X, X = ((w.heap.size + 1) + 1) := ⟨_, rfl⟩
  rw [← eR] at HR ⊢
  have Rw : w.heap.size ≤ R := by omega
  obtain ⟨P, eP⟩ : ∃ X, X = (w.heap.size + 1) := ⟨_, rfl⟩
  rw [← eP] at HP ⊢
  have Pw : w.heap.size ≤ P := by omega
  obtain ⟨A, eA⟩ : ∃ X, X = w.heap.size := ⟨_, rfl⟩
  rw [← eA] at HA ⊢
  have Aw : w.heap.size ≤ A := by omega
  have nAP : A ≠ P := by omega
  have nPA : P ≠ A := by omega
  have nAR : A ≠ R := by omega
  have nRA : R ≠ A := by omega
  have nPR : P ≠ R := by omega
  have nRP : R ≠ P := by omega
  clear eA eP eR
  have oA := HA.out
  have A0 := oA.at 0 _ rfl
  have A1 := oA.at 1 _ rfl
  have A2 := oA.at 2 _ rfl
  have A3 := oA.at 3 _ rfl
  have A4 := oA.at 4 _ rfl
  have A5 := oA.at 5 _ rfl
  have A6 := oA.at 6 _ rfl
  have A7 := oA.at 7 _ rfl
  have A8 := oA.at 8 _ rfl
  have A9 := oA.at 9 _ rfl
  have A10 := oA.at 10 _ rfl
  have A11 := oA.at 11 _ rfl
  have Al := oA.lt
  clear oA
  go_wp2_with (go_at_call 95; refine (k0.out _).mono ?_; rintro e w1 ⟨rfl, hb⟩)
  have hB1 : Below w.heap.size w w1 := Below.go hB0 hb
  have HA1 := Lib.hid (HA.out.later hb); have HP1 := Lib.hid (HP.out.later hb); have HR1 := Lib.hid (HR.out.later hb)
  clear hB0 hb HA HP HR A0 A1 A2 A3 A4 A5 A6 A7 A8 A9 A10 A11 Al
  have hBd : Below w1.heap.size w1 w1.drew := (Below.refl _ _).drew
  have SH : Hid (∀ w', Below w1.heap.size w1 w' → w'.cell? ⟨A, 0, none⟩ = some (.int .i64 m0) ∧ w'.cell? ⟨A, 1, none⟩ = some (.int .i64 m1) ∧ w'.cell? ⟨A, 2, none⟩ = some (.int .i64 m2) ∧ w'.cell? ⟨A, 3, none⟩ = some (.int .i64 m3) ∧ w'.cell? ⟨A, 4, none⟩ = some (.int .i64 m4) ∧ w'.cell? ⟨A, 5, none⟩ = some (.int .i64 m5) ∧ w'.cell? ⟨A, 6, none⟩ = some (.int .i64 m6) ∧ w'.cell? ⟨A, 7, none⟩ = some (.int .i64 m7) ∧ w'.cell? ⟨A, 8, none⟩ = some (.int .i64 m8) ∧ w'.cell? ⟨A, 9, none⟩ = some (.int .i64 tx) ∧ w'.cell? ⟨A, 10, none⟩ = some (.int .i64 ty) ∧ w'.cell? ⟨A, 11, none⟩ = some (.int .i64 tz) ∧ w'.cell? ⟨P, 0, none⟩ = some (.int .i64 px) ∧ w'.cell? ⟨P, 1, none⟩ = some (.int .i64 py) ∧ w'.cell? ⟨P, 2, none⟩ = some (.int .i64 pz)) := Lib.hid fun w' hb => ⟨(HA1.out.later hb).at 0 _ rfl, (HA1.out.later hb).at 1 _ rfl, (HA1.out.later hb).at 2 _ rfl, (HA1.out.later hb).at 3 _ rfl, (HA1.out.later hb).at 4 _ rfl, (HA1.out.later hb).at 5 _ rfl, (HA1.out.later hb).at 6 _ rfl, (HA1.out.later hb).at 7 _ rfl, (HA1.out.later hb).at 8 _ rfl, (HA1.out.later hb).at 9 _ rfl, (HA1.out.later hb).at 10 _ rfl, (HA1.out.later hb).at 11 _ rfl, (HP1.out.later hb).at 0 _ rfl, (HP1.out.later hb).at 1 _ rfl, (HP1.out.later hb).at 2 _ rfl⟩
  have SF : Hid (∀ w', Below w1.heap.size w1 w' → (w'.setCells R 0 [.int .i64 X, .int .i64 Y, .int .i64 Z]).cell? ⟨A, 0, none⟩ = some (.int .i64 m0) ∧ (w'.setCells R 0 [.int .i64 X, .int .i64 Y, .int .i64 Z]).cell? ⟨A, 1, none⟩ = some (.int .i64 m1) ∧ (w'.setCells R 0 [.int .i64 X, .int .i64 Y, .int .i64 Z]).cell? ⟨A, 2, none⟩ = some (.int .i64 m2) ∧ (w'.setCells R 0 [.int .i64 X, .int .i64 Y, .int .i64 Z]).cell? ⟨A, 3, none⟩ = some (.int .i64 m3) ∧ (w'.setCells R 0 [.int .i64 X, .int .i64 Y, .int .i64 Z]).cell? ⟨A, 4, none⟩ = some (.int .i64 m4) ∧ (w'.setCells R 0 [.int .i64 X, .int .i64 Y, .int .i64 Z]).cell? ⟨A, 5, none⟩ = some (.int .i64 m5) ∧ (w'.setCells R 0 [.int .i64 X, .int .i64 Y, .int .i64 Z]).cell? ⟨A, 6, none⟩ = some (.int .i64 m6) ∧ (w'.setCells R 0 [.int .i64 X, .int .i64 Y, .int .i64 Z]).cell? ⟨A, 7, none⟩ = some (.int .i64 m7) ∧ (w'.setCells R 0 [.int .i64 X, .int .i64 Y, .int .i64 Z]).cell? ⟨A, 8, none⟩ = some (.int .i64 m8) ∧ (w'.setCells R 0 [.int .i64 X, .int .i64 Y, .int .i64 Z]).cell? ⟨A, 9, none⟩ = some (.int .i64 tx) ∧ (w'.setCells R 0 [.int .i64 X, .int .i64 Y, .int .i64 Z]).cell? ⟨A, 10, none⟩ = some (.int .i64 ty) ∧ (w'.setCells R 0 [.int .i64 X, .int .i64 Y, .int .i64 Z]).cell? ⟨A, 11, none⟩ = some (.int .i64 tz) ∧ (w'.setCells R 0 [.int .i64 X, .int .i64 Y, .int .i64 Z]).cell? ⟨P, 0, none⟩ = some (.int .i64 px) ∧ (w'.setCells R 0 [.int .i64 X, .int .i64 Y, .int .i64 Z]).cell? ⟨P, 1, none⟩ = some (.int .i64 py) ∧ (w'.setCells R 0 [.int .i64 X, .int .i64 Y, .int .i64 Z]).cell? ⟨P, 2, none⟩ = some (.int .i64 pz)) := Lib.hid fun w' hb => ⟨((HA1.out.later hb).far nAR).at 0 _ rfl, ((HA1.out.later hb).far nAR).at 1 _ rfl, ((HA1.out.later hb).far nAR).at 2 _ rfl, ((HA1.out.later hb).far nAR).at 3 _ rfl, ((HA1.out.later hb).far nAR).at 4 _ rfl, ((HA1.out.later hb).far nAR).at 5 _ rfl, ((HA1.out.later hb).far nAR).at 6 _ rfl, ((HA1.out.later hb).far nAR).at 7 _ rfl, ((HA1.out.later hb).far nAR).at 8 _ rfl, ((HA1.out.later hb).far nAR).at 9 _ rfl, ((HA1.out.later hb).far nAR).at 10 _ rfl, ((HA1.out.later hb).far nAR).at 11 _ rfl, ((HP1.out.later hb).far nPR).at 0 _ rfl, ((HP1.out.later hb).far nPR).at 1 _ rfl, ((HP1.out.later hb).far nPR).at 2 _ rfl⟩
  go_region_held3 (fun w' => w'.cell? ⟨A, 0, none⟩ = some (.int .i64 m0) ∧ w'.cell? ⟨A, 1, none⟩ = some (.int .i64 m1) ∧ w'.cell? ⟨A, 2, none⟩ = some (.int .i64 m2) ∧ w'.cell? ⟨A, 3, none⟩ = some (.int .i64 m3) ∧ w'.cell? ⟨A, 4, none⟩ = some (.int .i64 m4) ∧ w'.cell? ⟨A, 5, none⟩ = some (.int .i64 m5) ∧ w'.cell? ⟨A, 6, none⟩ = some (.int .i64 m6) ∧ w'.cell? ⟨A, 7, none⟩ = some (.int .i64 m7) ∧ w'.cell? ⟨A, 8, none⟩ = some (.int .i64 m8) ∧ w'.cell? ⟨A, 9, none⟩ = some (.int .i64 tx) ∧ w'.cell? ⟨A, 10, none⟩ = some (.int .i64 ty) ∧ w'.cell? ⟨A, 11, none⟩ = some (.int .i64 tz) ∧ w'.cell? ⟨P, 0, none⟩ = some (.int .i64 px) ∧ w'.cell? ⟨P, 1, none⟩ = some (.int .i64 py) ∧ w'.cell? ⟨P, 2, none⟩ = some (.int .i64 pz)) (first | exact SH.out _ (by assumption) | exact SH.out _ (Below.al (by assumption)) | exact SF.out _ (by assumption)) (first | (go_at_call 59; (with_reducible refine (k1.out _).mono ?_); rintro e w2 ⟨rfl, h1⟩; have bw2 : Below w1.heap.size w1 w2 := Below.go hBd h1; have oR := HR1.out.later bw2; have R0w2 := oR.at 0 _ rfl; have Rf0w2 := oR.ok 0 (by simp); have R1w2 := oR.at 1 _ rfl; have Rf1w2 := oR.ok 1 (by simp); have R2w2 := oR.at 2 _ rfl; have Rf2w2 := oR.ok 2 (by simp); have Rlw2 := oR.lt; clear oR; clear h1) | (go_at_call 97; (with_reducible refine (k2.out _).mono ?_); rintro e w3 ⟨rfl, h1⟩; have bw3 : Below w1.heap.size w1 w3 := Below.go bw2 h1; have oR := HR1.out.later bw3; have R0w3 := oR.at 0 _ rfl; have Rf0w3 := oR.ok 0 (by simp); have R1w3 := oR.at 1 _ rfl; have Rf1w3 := oR.ok 1 (by simp); have R2w3 := oR.at 2 _ rfl; have Rf2w3 := oR.ok 2 (by simp); have Rlw3 := oR.lt; clear oR; clear h1) | (go_at_call 96; (with_reducible refine (k3.out _).mono ?_); rintro e w4 ⟨rfl, h1⟩; have bw4 : Below w1.heap.size w1 w4 := Below.go bw3 h1; have oR := HR1.out.later bw4; have R0w4 := oR.at 0 _ rfl; have Rf0w4 := oR.ok 0 (by simp); have R1w4 := oR.at 1 _ rfl; have Rf1w4 := oR.ok 1 (by simp); have R2w4 := oR.at 2 _ rfl; have Rf2w4 := oR.ok 2 (by simp); have Rlw4 := oR.lt; clear oR; clear h1))
  have hB4 : Below w.heap.size w w4 := Below.go hB1 bw4
  clear hB1 hBd bw2 bw3 bw4 HA1 HP1 HR1 k0 k1 k2 k3 SH SF
  go_wp2
  exact bodyPost_ret (v := .tuple #[(.agg #[.int .i64 X, .int .i64 Y, .int .i64 Z]), .int .i64 c]) (by simp [results, Try.results60, go_sem, R0w4, R1w4, R2w4]) rfl ⟨rfl, (by repeat (first | (with_reducible exact Below.refl _ _) | (with_reducible assumption) | (with_reducible refine below_drewN ?_ _) | (with_reducible refine Below.drew ?_) | (with_reducible refine Below.alloc ?_ ?_ _) | (with_reducible refine Below.setCell ?_ ?_ _) | (with_reducible exact Nat.le_refl _) | exact Nat.le_succ _ | (simp; done) | (simp; omega) | omega | fail))⟩

end Go.Proofs.Ytgggngcgcpmkbaa
