/- affine.Turn: the rows by the vector. -/
import Derived.Test.YtgggngcgcpmkbaaKA
import Derived.Test.YtgggngcgcpmkbaaVN
namespace Go.Proofs.Ytgggngcgcpmkbaa
set_option linter.unusedVariables false
set_option maxRecDepth 2000
set_option linter.unusedSimpArgs false
open Go.RowKit
attribute [local go_sem] setCell_twice setCell_pair

set_option maxHeartbeats 4000000 in
theorem Turn_core (a b c d e f g h i tx ty tz x y z p q r : Int) (w : World)
    (k0 : Hid (∀ w, Calls Try.prog 117 #[(.agg #[.int .i64 a, .int .i64 b, .int .i64 c]), (.agg #[.int .i64 x, .int .i64 y, .int .i64 z])] w fun e w' => e = .returned (.int .i64 p) ∧ Below w.heap.size w w'))
    (k1 : Hid (∀ w, Calls Try.prog 117 #[(.agg #[.int .i64 d, .int .i64 e, .int .i64 f]), (.agg #[.int .i64 x, .int .i64 y, .int .i64 z])] w fun e w' => e = .returned (.int .i64 q) ∧ Below w.heap.size w w'))
    (k2 : Hid (∀ w, Calls Try.prog 117 #[(.agg #[.int .i64 g, .int .i64 h, .int .i64 i]), (.agg #[.int .i64 x, .int .i64 y, .int .i64 z])] w fun e w' => e = .returned (.int .i64 r) ∧ Below w.heap.size w w')) :
    Calls Try.prog 107 #[(.agg #[.int .i64 a, .int .i64 b, .int .i64 c, .int .i64 d, .int .i64 e, .int .i64 f, .int .i64 g, .int .i64 h, .int .i64 i, .int .i64 tx, .int .i64 ty, .int .i64 tz]), (.agg #[.int .i64 x, .int .i64 y, .int .i64 z])] w fun e w' => e = .returned (.agg #[.int .i64 p, .int .i64 q, .int .i64 r]) ∧ Below w.heap.size w w' := by
  go_enter Try.func107, Try.ntmps107
  go_wp2_with (fail)
  obtain ⟨W0, hW⟩ : ∃ W0, W0 = ((((w.alloc (.cells #[.int .i64 a, .int .i64 b, .int .i64 c, .int .i64 d, .int .i64 e, .int .i64 f, .int .i64 g, .int .i64 h, .int .i64 i, .int .i64 tx, .int .i64 ty, .int .i64 tz] 80)).alloc (.cells #[.int .i64 x, .int .i64 y, .int .i64 z] 36)).alloc (.cells #[.int .i64 0, .int .i64 0, .int .i64 0] 36)).alloc (.cells #[.int .i64 a, .int .i64 b, .int .i64 c, .int .i64 d, .int .i64 e, .int .i64 f, .int .i64 g, .int .i64 h, .int .i64 i] 78)) := ⟨_, rfl⟩
  have hB0 : Below w.heap.size w W0 := hW ▸ (Below.al (Below.al (Below.al (Below.al (Below.refl _ _)))))
  have HV : Hid (Own (w.heap.size + 1) [.int .i64 x, .int .i64 y, .int .i64 z] W0) := Lib.hid (hW ▸ (Own.newAt (by simp)).alloc.alloc)
  have HR : Hid (Own ((w.heap.size + 1) + 1) [.int .i64 0, .int .i64 0, .int .i64 0] W0) := Lib.hid (hW ▸ (Own.newAt (by simp)).alloc)
  have HM : Hid (Own (((w.heap.size + 1) + 1) + 1) [.int .i64 a, .int .i64 b, .int .i64 c, .int .i64 d, .int .i64 e, .int .i64 f, .int .i64 g, .int .i64 h, .int .i64 i] W0) := Lib.hid (hW ▸ (Own.newAt (by simp)))
  rw [← hW]
  clear hW
  obtain ⟨M, eM⟩ : ∃ X, X = (((w.heap.size + 1) + 1) + 1) := ⟨_, rfl⟩
  rw [← eM] at HM ⊢
  have Mw : w.heap.size ≤ M := by omega
  obtain ⟨R, eR⟩ : ∃ X, X = ((w.heap.size + 1) + 1) := ⟨_, rfl⟩
  rw [← eR] at HR ⊢
  have Rw : w.heap.size ≤ R := by omega
  obtain ⟨V, eV⟩ : ∃ X, X = (w.heap.size + 1) := ⟨_, rfl⟩
  rw [← eV] at HV ⊢
  have Vw : w.heap.size ≤ V := by omega
  obtain ⟨A, eA⟩ : ∃ X, X = w.heap.size := ⟨_, rfl⟩
  rw [← eA]
  have Aw : w.heap.size ≤ A := by omega
  have nVR : V ≠ R := by omega
  have nRV : R ≠ V := by omega
  have nVM : V ≠ M := by omega
  have nMV : M ≠ V := by omega
  have nRM : R ≠ M := by omega
  have nMR : M ≠ R := by omega
  clear eA eV eR eM
  have hBd : Below W0.heap.size W0 W0.drew := (Below.refl _ _).drew
  have SH : Hid (∀ w', Below W0.heap.size W0 w' → w'.cell? ⟨M, 0, none⟩ = some (.int .i64 a) ∧ w'.cell? ⟨M, 1, none⟩ = some (.int .i64 b) ∧ w'.cell? ⟨M, 2, none⟩ = some (.int .i64 c) ∧ w'.cell? ⟨M, 3, none⟩ = some (.int .i64 d) ∧ w'.cell? ⟨M, 4, none⟩ = some (.int .i64 e) ∧ w'.cell? ⟨M, 5, none⟩ = some (.int .i64 f) ∧ w'.cell? ⟨M, 6, none⟩ = some (.int .i64 g) ∧ w'.cell? ⟨M, 7, none⟩ = some (.int .i64 h) ∧ w'.cell? ⟨M, 8, none⟩ = some (.int .i64 i) ∧ w'.cell? ⟨V, 0, none⟩ = some (.int .i64 x) ∧ w'.cell? ⟨V, 1, none⟩ = some (.int .i64 y) ∧ w'.cell? ⟨V, 2, none⟩ = some (.int .i64 z)) := Lib.hid fun w' hb => ⟨(HM.out.later hb).at 0 _ rfl, (HM.out.later hb).at 1 _ rfl, (HM.out.later hb).at 2 _ rfl, (HM.out.later hb).at 3 _ rfl, (HM.out.later hb).at 4 _ rfl, (HM.out.later hb).at 5 _ rfl, (HM.out.later hb).at 6 _ rfl, (HM.out.later hb).at 7 _ rfl, (HM.out.later hb).at 8 _ rfl, (HV.out.later hb).at 0 _ rfl, (HV.out.later hb).at 1 _ rfl, (HV.out.later hb).at 2 _ rfl⟩
  have SF : Hid (∀ w', Below W0.heap.size W0 w' → (w'.setCells R 0 [.int .i64 p, .int .i64 q, .int .i64 r]).cell? ⟨M, 0, none⟩ = some (.int .i64 a) ∧ (w'.setCells R 0 [.int .i64 p, .int .i64 q, .int .i64 r]).cell? ⟨M, 1, none⟩ = some (.int .i64 b) ∧ (w'.setCells R 0 [.int .i64 p, .int .i64 q, .int .i64 r]).cell? ⟨M, 2, none⟩ = some (.int .i64 c) ∧ (w'.setCells R 0 [.int .i64 p, .int .i64 q, .int .i64 r]).cell? ⟨M, 3, none⟩ = some (.int .i64 d) ∧ (w'.setCells R 0 [.int .i64 p, .int .i64 q, .int .i64 r]).cell? ⟨M, 4, none⟩ = some (.int .i64 e) ∧ (w'.setCells R 0 [.int .i64 p, .int .i64 q, .int .i64 r]).cell? ⟨M, 5, none⟩ = some (.int .i64 f) ∧ (w'.setCells R 0 [.int .i64 p, .int .i64 q, .int .i64 r]).cell? ⟨M, 6, none⟩ = some (.int .i64 g) ∧ (w'.setCells R 0 [.int .i64 p, .int .i64 q, .int .i64 r]).cell? ⟨M, 7, none⟩ = some (.int .i64 h) ∧ (w'.setCells R 0 [.int .i64 p, .int .i64 q, .int .i64 r]).cell? ⟨M, 8, none⟩ = some (.int .i64 i) ∧ (w'.setCells R 0 [.int .i64 p, .int .i64 q, .int .i64 r]).cell? ⟨V, 0, none⟩ = some (.int .i64 x) ∧ (w'.setCells R 0 [.int .i64 p, .int .i64 q, .int .i64 r]).cell? ⟨V, 1, none⟩ = some (.int .i64 y) ∧ (w'.setCells R 0 [.int .i64 p, .int .i64 q, .int .i64 r]).cell? ⟨V, 2, none⟩ = some (.int .i64 z)) := Lib.hid fun w' hb => ⟨((HM.out.later hb).far nMR).at 0 _ rfl, ((HM.out.later hb).far nMR).at 1 _ rfl, ((HM.out.later hb).far nMR).at 2 _ rfl, ((HM.out.later hb).far nMR).at 3 _ rfl, ((HM.out.later hb).far nMR).at 4 _ rfl, ((HM.out.later hb).far nMR).at 5 _ rfl, ((HM.out.later hb).far nMR).at 6 _ rfl, ((HM.out.later hb).far nMR).at 7 _ rfl, ((HM.out.later hb).far nMR).at 8 _ rfl, ((HV.out.later hb).far nVR).at 0 _ rfl, ((HV.out.later hb).far nVR).at 1 _ rfl, ((HV.out.later hb).far nVR).at 2 _ rfl⟩
  go_region_held3 (fun w' => w'.cell? ⟨M, 0, none⟩ = some (.int .i64 a) ∧ w'.cell? ⟨M, 1, none⟩ = some (.int .i64 b) ∧ w'.cell? ⟨M, 2, none⟩ = some (.int .i64 c) ∧ w'.cell? ⟨M, 3, none⟩ = some (.int .i64 d) ∧ w'.cell? ⟨M, 4, none⟩ = some (.int .i64 e) ∧ w'.cell? ⟨M, 5, none⟩ = some (.int .i64 f) ∧ w'.cell? ⟨M, 6, none⟩ = some (.int .i64 g) ∧ w'.cell? ⟨M, 7, none⟩ = some (.int .i64 h) ∧ w'.cell? ⟨M, 8, none⟩ = some (.int .i64 i) ∧ w'.cell? ⟨V, 0, none⟩ = some (.int .i64 x) ∧ w'.cell? ⟨V, 1, none⟩ = some (.int .i64 y) ∧ w'.cell? ⟨V, 2, none⟩ = some (.int .i64 z)) (first | exact SH.out _ (by assumption) | exact SH.out _ (Below.al (by assumption)) | exact SF.out _ (by assumption)) (first | (go_at_call 117; (with_reducible refine (k0.out _).mono ?_); rintro e w1 ⟨rfl, h1⟩; have bw1 : Below W0.heap.size W0 w1 := Below.go hBd h1; have oR := HR.out.later bw1; have R0w1 := oR.at 0 _ rfl; have Rf0w1 := oR.ok 0 (by decide); have R1w1 := oR.at 1 _ rfl; have Rf1w1 := oR.ok 1 (by decide); have R2w1 := oR.at 2 _ rfl; have Rf2w1 := oR.ok 2 (by decide); have Rlw1 := oR.lt; clear oR; clear h1) | (go_at_call 117; (with_reducible refine (k1.out _).mono ?_); rintro e w2 ⟨rfl, h1⟩; have bw2 : Below W0.heap.size W0 w2 := Below.go bw1 h1; have oR := HR.out.later bw2; have R0w2 := oR.at 0 _ rfl; have Rf0w2 := oR.ok 0 (by decide); have R1w2 := oR.at 1 _ rfl; have Rf1w2 := oR.ok 1 (by decide); have R2w2 := oR.at 2 _ rfl; have Rf2w2 := oR.ok 2 (by decide); have Rlw2 := oR.lt; clear oR; clear h1) | (go_at_call 117; (with_reducible refine (k2.out _).mono ?_); rintro e w3 ⟨rfl, h1⟩; have bw3 : Below W0.heap.size W0 w3 := Below.go bw2 h1; have oR := HR.out.later bw3; have R0w3 := oR.at 0 _ rfl; have Rf0w3 := oR.ok 0 (by decide); have R1w3 := oR.at 1 _ rfl; have Rf1w3 := oR.ok 1 (by decide); have R2w3 := oR.at 2 _ rfl; have Rf2w3 := oR.ok 2 (by decide); have Rlw3 := oR.lt; clear oR; clear h1))
  have hB3 : Below w.heap.size w w3 := Below.go hB0 bw3
  clear hB0 hBd bw1 bw2 bw3 HM HV HR k0 k1 k2 SH SF
  go_wp2
  exact bodyPost_ret (v := (.agg #[.int .i64 p, .int .i64 q, .int .i64 r])) (by simp [results, Try.results107, go_sem, R0w3, R1w3, R2w3]) rfl ⟨rfl, (by repeat (first | (with_reducible exact Below.refl _ _) | (with_reducible assumption) | (with_reducible refine below_drewN ?_ _) | (with_reducible refine Below.drew ?_) | (with_reducible refine Below.alloc ?_ ?_ _) | (with_reducible refine Below.setCell ?_ ?_ _) | (with_reducible exact Nat.le_refl _) | exact Nat.le_succ _ | (simp; done) | (simp; omega) | omega | fail))⟩
end Go.Proofs.Ytgggngcgcpmkbaa
