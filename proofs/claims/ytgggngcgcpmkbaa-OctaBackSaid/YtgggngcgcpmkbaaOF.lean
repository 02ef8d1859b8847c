/- Package octa: directions of vectors. -/
import Derived.Test.YtgggngcgcpmkbaaOD
import Derived.Deep.DeepCutAuto
import Derived.Deep.RegionHeld3
namespace Go.Proofs.Ytgggngcgcpmkbaa
set_option linter.unusedVariables false
set_option maxRecDepth 2000
set_option linter.unusedSimpArgs false
open Go.RowKit
attribute [local go_sem] setCell_twice setCell_pair

/-- a vector's part by the greatest one, rounded down -/
def qP (x m : Int) : Int := if 16384 * x / m < -16384 then -16384 else 16384 * x / m
theorem cpart_core (x m q : Int) (p : Nat) (hx : in64 x) (hm : in64 m) (hq : -16385 ≤ q ∧ q ≤ 16384) (w : World) (hc : w.cell? ⟨p, 0, none⟩ = some (.int .i64 m))
    (md : Hid (∀ w, Calls Try.prog 71 #[.int .i64 16384, .int .i64 x, .int .i64 m] w fun e w' => e = .returned (.int .i64 q) ∧ Below w.heap.size w w')) :
    Calls Try.prog 70 #[.int .i64 x, .pointer (some ⟨p, 0, none⟩)] w fun e w' => e = .returned (.int .i64 (if q < -16384 then -16384 else q)) ∧ Below w.heap.size w w' := by
  go_enter Try.func70, Try.ntmps70
  go_wp2_with (fail)
  go_at_call 71; refine (md.out _).mono ?_; rintro e w1 ⟨rfl, hb⟩
  go_wp2
  all_goals (go_ret; exact ⟨rfl, hb⟩)
def mostOk (t m : Int) : Prop := t ≤ m ∧ (-m ≤ t ∨ m = 9223372036854775807 ∧ t = -m - 1)
theorem most_bd (x y z : Int) (hx : in64 x) (hy : in64 y) (hz : in64 z) : 0 ≤ mostF x y z ∧ mostF x y z ≤ 9223372036854775807 ∧ mostOk x (mostF x y z) ∧ mostOk y (mostF x y z) ∧ mostOk z (mostF x y z) := by
  unfold in64 at hx hy hz
  have a : ∀ t, -9223372036854775808 ≤ t ∧ t ≤ 9223372036854775807 → 0 ≤ absF t ∧ absF t ≤ 9223372036854775807 ∧ t ≤ absF t ∧ (-absF t ≤ t ∨ absF t = 9223372036854775807 ∧ t = -absF t - 1) := fun t ht => by
    unfold absF sat
    split
    · split
      · omega
      · split <;> omega
    · omega
  have ax := a x hx
  have ay := a y hy
  have az := a z hz
  unfold mostOk mostF
  omega
theorem part_bd (x m : Int) (hm : 1 ≤ m) (h : mostOk x m) : -16385 ≤ 16384 * x / m ∧ 16384 * x / m ≤ 16384 := by
  obtain ⟨h1, h2⟩ := h
  refine ⟨?_, Int.ediv_le_of_le_mul (by omega) (Int.mul_le_mul_of_nonneg_left h1 (by decide))⟩
  rcases h2 with h2 | ⟨rfl, rfl⟩
  · have : -16384 ≤ 16384 * x / m := Int.le_ediv_of_mul_le (by omega) (by rw [show -16384 * m = 16384 * -m by omega]; exact Int.mul_le_mul_of_nonneg_left h2 (by decide))
    omega
  · decide
theorem cpart_any (x m : Int) (p : Nat) (hx : in64 x) (hm : in64 m) (h1 : 1 ≤ m) (hb : -16385 ≤ 16384 * x / m ∧ 16384 * x / m ≤ 16384) (w : World) (hc : w.cell? ⟨p, 0, none⟩ = some (.int .i64 m)) :
    Calls Try.prog 70 #[.int .i64 x, .pointer (some ⟨p, 0, none⟩)] w fun e w' => e = .returned (.int .i64 (qP x m)) ∧ Below w.heap.size w w' := by
  have md := fun w => MulDiv_any 16384 x m (16384 * x / m) (16384 * x % m) (by omega) (by omega) hx.1 hx.2 hm.1 hm.2 (by omega) (Int.mul_ediv_add_emod _ _).symm (fun _ => ⟨Int.emod_nonneg _ (by omega), Int.emod_lt_of_pos _ (by omega)⟩) (by omega) w
  rw [sat_in _ (by omega) (by omega)] at md
  exact cpart_core x m _ p hx hm hb w hc (Lib.hid md)

theorem OQuant_no (x y z : Int) (w : World) (mo : Hid (∀ w, Calls Try.prog 69 #[(.agg #[.int .i64 x, .int .i64 y, .int .i64 z])] w fun e w' => e = .returned (.int .i64 0) ∧ Below w.heap.size w w')) : Calls Try.prog 24 #[(.agg #[.int .i64 x, .int .i64 y, .int .i64 z])] w fun e w' => e = .returned (.tuple #[(.agg #[.int .i64 0, .int .i64 0, .int .i64 0]), .int .i64 2]) ∧ Below w.heap.size w w' := by
  have hmf : ∀ (fn : Fn) (first cap : Array Value) (w : World), (Instr.makeFunc fn first cap).run Try.prog w = .ok (.func fn first cap) w := fun _ _ _ _ => rfl
  go_enter Try.func24, Try.ntmps24
  go_wp2_with (fail)
  obtain ⟨W0, hW⟩ : ∃ W0, W0 = ((w.alloc (.cells #[.int .i64 x, .int .i64 y, .int .i64 z] 36)).alloc (.cells #[.int .i64 0, .int .i64 0, .int .i64 0] 24)) := ⟨_, rfl⟩
  have hB0 : Below w.heap.size w W0 := hW ▸ (Below.al (Below.al (Below.refl _ _)))
  have HV : Hid (Own w.heap.size [.int .i64 x, .int .i64 y, .int .i64 z] W0) := Lib.hid (hW ▸ (Own.newAt (by simp)).alloc)
  have HR : Hid (Own (w.heap.size + 1) [.int .i64 0, .int .i64 0, .int .i64 0] W0) := Lib.hid (hW ▸ (Own.newAt (by simp)))
  rw [← hW]
  clear hW
  obtain ⟨R, eR⟩ : ∃ X, X = (w.heap.size + 1) := ⟨_, rfl⟩
  rw [← eR] at HR ⊢
  have Rw : w.heap.size ≤ R := by omega
  obtain ⟨V, eV⟩ : ∃ X, X = w.heap.size := ⟨_, rfl⟩
  rw [← eV] at HV ⊢
  have Vw : w.heap.size ≤ V := by omega
  have nVR : V ≠ R := by omega
  have nRV : R ≠ V := by omega
  clear eV eR
  go_at_call 69; refine (mo.out _).mono ?_; rintro e w1 ⟨rfl, hb⟩
  replace HV := Lib.hid (HV.out.later hb); replace HR := Lib.hid (HR.out.later hb)
  have hB := Below.go hB0 hb
  clear hb hB0
  go_upto_region 3 with fail
  obtain ⟨W5, hW⟩ : ∃ W5, W5 = (w1.alloc (.cells #[.int .i64 0] 34)) := ⟨_, rfl⟩
  have hq : Below w1.heap.size w1 W5 := hW ▸ (Below.al (Below.refl _ _))
  have HM : Hid (Own w1.heap.size [.int .i64 0] W5) := Lib.hid (hW ▸ (Own.newAt (by simp)))
  rw [← hW]
  clear hW
  obtain ⟨M, eM⟩ : ∃ X, X = w1.heap.size := ⟨_, rfl⟩
  rw [← eM] at HM ⊢
  have Mw : w1.heap.size ≤ M := by omega
  clear eM
  replace HR := Lib.hid (HR.out.later hq)
  have hB5 : Below w.heap.size w W5 := Below.go hB hq
  clear hq hB Mw HM HV
  have oR := HR.out
  have R0 := oR.at 0 _ rfl
  have Rf0 := oR.ok 0 (by simp)
  have R1 := oR.at 1 _ rfl
  have Rf1 := oR.ok 1 (by simp)
  have R2 := oR.at 2 _ rfl
  have Rf2 := oR.ok 2 (by simp)
  have Rl := oR.lt
  clear oR
  go_wp2_with (fail)
  have hB := Below.refl W5.heap.size W5
  rw [show (((W5.setCell ⟨R, 0, none⟩ (.int .i64 0)).setCell ⟨R, 1, none⟩ (.int .i64 0)).setCell ⟨R, 2, none⟩ (.int .i64 0)) = W5.setCells R 0 [.int .i64 0, .int .i64 0, .int .i64 0] from rfl]
  have HRn : Hid (Own R [.int .i64 0, .int .i64 0, .int .i64 0] (W5.setCells R 0 [.int .i64 0, .int .i64 0, .int .i64 0])) := Lib.hid (Own.store (vs := [.int .i64 0, .int .i64 0, .int .i64 0]) (HR.out.later hB) rfl)
  have W6b : Below w.heap.size w (W5.setCells R 0 [.int .i64 0, .int .i64 0, .int .i64 0]) := Below.setCells hB5 Rw [.int .i64 0, .int .i64 0, .int .i64 0] 0
  generalize (W5.setCells R 0 [.int .i64 0, .int .i64 0, .int .i64 0]) = W6 at *
  clear HR hB
  have HR := HRn
  clear HRn
  clear R0 R1 R2 Rf0 Rf1 Rf2 Rl
  have oR := HR.out
  have R0 := oR.at 0 _ rfl
  have R1 := oR.at 1 _ rfl
  have R2 := oR.at 2 _ rfl
  have Rl := oR.lt
  clear oR
  exact bodyPost_ret (v := (.tuple #[(.agg #[.int .i64 0, .int .i64 0, .int .i64 0]), .int .i64 2])) (by simp [results, Try.results24, go_sem, R0, R1, R2]) rfl ⟨rfl, W6b⟩
set_option maxHeartbeats 4000000 in
theorem OQuant_yes (x y z m X Y Z : Int) (h1 : 1 ≤ m) (w : World) (mo : Hid (∀ w, Calls Try.prog 69 #[(.agg #[.int .i64 x, .int .i64 y, .int .i64 z])] w fun e w' => e = .returned (.int .i64 m) ∧ Below w.heap.size w w'))
    (cx : Hid (∀ (p : Nat) (w : World), w.cell? ⟨p, 0, none⟩ = some (.int .i64 m) → Calls Try.prog 70 #[.int .i64 x, .pointer (some ⟨p, 0, none⟩)] w fun e w' => e = .returned (.int .i64 X) ∧ Below w.heap.size w w'))
    (cy : Hid (∀ (p : Nat) (w : World), w.cell? ⟨p, 0, none⟩ = some (.int .i64 m) → Calls Try.prog 70 #[.int .i64 y, .pointer (some ⟨p, 0, none⟩)] w fun e w' => e = .returned (.int .i64 Y) ∧ Below w.heap.size w w'))
    (cz : Hid (∀ (p : Nat) (w : World), w.cell? ⟨p, 0, none⟩ = some (.int .i64 m) → Calls Try.prog 70 #[.int .i64 z, .pointer (some ⟨p, 0, none⟩)] w fun e w' => e = .returned (.int .i64 Z) ∧ Below w.heap.size w w')) :
    Calls Try.prog 24 #[(.agg #[.int .i64 x, .int .i64 y, .int .i64 z])] w fun e w' => e = .returned (.tuple #[(.agg #[.int .i64 X, .int .i64 Y, .int .i64 Z]), .int .i64 0]) ∧ Below w.heap.size w w' := by
  have hmf : ∀ (fn : Fn) (first cap : Array Value) (w : World), (Instr.makeFunc fn first cap).run Try.prog w = .ok (.func fn first cap) w := fun _ _ _ _ => rfl
  go_enter Try.func24, Try.ntmps24
  go_wp2_with (fail)
  obtain ⟨W0, hW⟩ : ∃ W0, W0 = ((w.alloc (.cells #[.int .i64 x, .int .i64 y, .int .i64 z] 36)).alloc (.cells #[.int .i64 0, .int .i64 0, .int .i64 0] 24)) := ⟨_, rfl⟩
  have hB0 : Below w.heap.size w W0 := hW ▸ (Below.al (Below.al (Below.refl _ _)))
  have HV : Hid (Own w.heap.size [.int .i64 x, .int .i64 y, .int .i64 z] W0) := Lib.hid (hW ▸ (Own.newAt (by simp)).alloc)
  have HR : Hid (Own (w.heap.size + 1) [.int .i64 0, .int .i64 0, .int .i64 0] W0) := Lib.hid (hW ▸ (Own.newAt (by simp)))
  rw [← hW]
  clear hW
  obtain ⟨R, eR⟩ : ∃ X, X = (w.heap.size + 1) := ⟨_, rfl⟩
  rw [← eR] at HR ⊢
  have Rw : w.heap.size ≤ R := by omega
  obtain ⟨V, eV⟩ : ∃ X, X = w.heap.size := ⟨_, rfl⟩
  rw [← eV] at HV ⊢
  have Vw : w.heap.size ≤ V := by omega
  have nVR : V ≠ R := by omega
  have nRV : R ≠ V := by omega
  clear eV eR
  go_at_call 69; refine (mo.out _).mono ?_; rintro e w1 ⟨rfl, hb⟩
  replace HV := Lib.hid (HV.out.later hb); replace HR := Lib.hid (HR.out.later hb)
  have hB := Below.go hB0 hb
  clear hb hB0
  go_upto_region 5 with fail
  obtain ⟨W5, hW⟩ : ∃ W5, W5 = (w1.alloc (.cells #[.int .i64 m] 34)) := ⟨_, rfl⟩
  have hq : Below w1.heap.size w1 W5 := hW ▸ (Below.al (Below.refl _ _))
  have HM : Hid (Own w1.heap.size [.int .i64 m] W5) := Lib.hid (hW ▸ (Own.newAt (by simp)))
  rw [← hW]
  clear hW
  obtain ⟨M, eM⟩ : ∃ X, X = w1.heap.size := ⟨_, rfl⟩
  rw [← eM] at HM ⊢
  have Mw : w1.heap.size ≤ M := by omega
  clear eM
  have nMR : M ≠ R := by have := HR.out.lt; omega
  have Mw2 : w.heap.size ≤ M := by have := hB.size; omega
  replace HV := Lib.hid (HV.out.later hq); replace HR := Lib.hid (HR.out.later hq)
  have hB5 : Below w.heap.size w W5 := Below.go hB hq
  clear hq hB Mw
  have hBd : Below W5.heap.size W5 W5.drew := (Below.refl _ _).drew
  have SH : Hid (∀ w', Below W5.heap.size W5 w' → w'.cell? ⟨V, 0, none⟩ = some (.int .i64 x) ∧ w'.cell? ⟨V, 1, none⟩ = some (.int .i64 y) ∧ w'.cell? ⟨V, 2, none⟩ = some (.int .i64 z) ∧ w'.cell? ⟨M, 0, none⟩ = some (.int .i64 m)) := Lib.hid fun w' hb => ⟨(HV.out.later hb).at 0 _ rfl, (HV.out.later hb).at 1 _ rfl, (HV.out.later hb).at 2 _ rfl, (HM.out.later hb).at 0 _ rfl⟩
  have SF : Hid (∀ w', Below W5.heap.size W5 w' → (w'.setCells R 0 [.int .i64 X, .int .i64 Y, .int .i64 Z]).cell? ⟨V, 0, none⟩ = some (.int .i64 x) ∧ (w'.setCells R 0 [.int .i64 X, .int .i64 Y, .int .i64 Z]).cell? ⟨V, 1, none⟩ = some (.int .i64 y) ∧ (w'.setCells R 0 [.int .i64 X, .int .i64 Y, .int .i64 Z]).cell? ⟨V, 2, none⟩ = some (.int .i64 z) ∧ (w'.setCells R 0 [.int .i64 X, .int .i64 Y, .int .i64 Z]).cell? ⟨M, 0, none⟩ = some (.int .i64 m)) := Lib.hid fun w' hb => ⟨((HV.out.later hb).far nVR).at 0 _ rfl, ((HV.out.later hb).far nVR).at 1 _ rfl, ((HV.out.later hb).far nVR).at 2 _ rfl, ((HM.out.later hb).far nMR).at 0 _ rfl⟩
  go_region_held3 (fun w' => w'.cell? ⟨V, 0, none⟩ = some (.int .i64 x) ∧ w'.cell? ⟨V, 1, none⟩ = some (.int .i64 y) ∧ w'.cell? ⟨V, 2, none⟩ = some (.int .i64 z) ∧ w'.cell? ⟨M, 0, none⟩ = some (.int .i64 m)) (first | exact SH.out _ (by assumption) | exact SH.out _ (Below.al (by assumption)) | exact SF.out _ (by assumption)) (first | (go_at_call 70; (with_reducible refine (cx.out _ _ ((HM.out.later hBd).at 0 _ rfl)).mono ?_); rintro e w2 ⟨rfl, h1⟩; have bw2 : Below W5.heap.size W5 w2 := Below.go hBd h1; have oR := HR.out.later bw2; have R0w2 := oR.at 0 _ rfl; have Rf0w2 := oR.ok 0 (by simp); have R1w2 := oR.at 1 _ rfl; have Rf1w2 := oR.ok 1 (by simp); have R2w2 := oR.at 2 _ rfl; have Rf2w2 := oR.ok 2 (by simp); have Rlw2 := oR.lt; clear oR; clear h1) | (go_at_call 70; (with_reducible refine (cy.out _ _ ((HM.out.later bw2).at 0 _ rfl)).mono ?_); rintro e w3 ⟨rfl, h1⟩; have bw3 : Below W5.heap.size W5 w3 := Below.go bw2 h1; have oR := HR.out.later bw3; have R0w3 := oR.at 0 _ rfl; have Rf0w3 := oR.ok 0 (by simp); have R1w3 := oR.at 1 _ rfl; have Rf1w3 := oR.ok 1 (by simp); have R2w3 := oR.at 2 _ rfl; have Rf2w3 := oR.ok 2 (by simp); have Rlw3 := oR.lt; clear oR; clear h1) | (go_at_call 70; (with_reducible refine (cz.out _ _ ((HM.out.later bw3).at 0 _ rfl)).mono ?_); rintro e w4 ⟨rfl, h1⟩; have bw4 : Below W5.heap.size W5 w4 := Below.go bw3 h1; have oR := HR.out.later bw4; have R0w4 := oR.at 0 _ rfl; have Rf0w4 := oR.ok 0 (by simp); have R1w4 := oR.at 1 _ rfl; have Rf1w4 := oR.ok 1 (by simp); have R2w4 := oR.at 2 _ rfl; have Rf2w4 := oR.ok 2 (by simp); have Rlw4 := oR.lt; clear oR; clear h1))
  have hB : Below W5.heap.size W5 w4 := bw4
  rw [show (((w4.setCell ⟨R, 0, none⟩ (.int .i64 X)).setCell ⟨R, 1, none⟩ (.int .i64 Y)).setCell ⟨R, 2, none⟩ (.int .i64 Z)) = w4.setCells R 0 [.int .i64 X, .int .i64 Y, .int .i64 Z] from rfl]
  have HRn : Hid (Own R [.int .i64 X, .int .i64 Y, .int .i64 Z] (w4.setCells R 0 [.int .i64 X, .int .i64 Y, .int .i64 Z])) := Lib.hid (Own.store (vs := [.int .i64 X, .int .i64 Y, .int .i64 Z]) (HR.out.later hB) rfl)
  have W6b : Below w.heap.size w (w4.setCells R 0 [.int .i64 X, .int .i64 Y, .int .i64 Z]) := Below.setCells (Below.go hB5 hB) Rw [.int .i64 X, .int .i64 Y, .int .i64 Z] 0
  generalize (w4.setCells R 0 [.int .i64 X, .int .i64 Y, .int .i64 Z]) = W6 at *
  clear HR hB
  have HR := HRn
  clear HRn
  clear R0w2 Rf0w2 R0w3 Rf0w3 R0w4 Rf0w4 R1w2 Rf1w2 R1w3 Rf1w3 R1w4 Rf1w4 R2w2 Rf2w2 R2w3 Rf2w3 R2w4 Rf2w4 SH SF bw2 bw3 bw4 HV HM cx cy cz
  have oR := HR.out
  have R0 := oR.at 0 _ rfl
  have R1 := oR.at 1 _ rfl
  have R2 := oR.at 2 _ rfl
  have Rl := oR.lt
  clear oR
  go_wp2
  exact bodyPost_ret (v := (.tuple #[(.agg #[.int .i64 X, .int .i64 Y, .int .i64 Z]), .int .i64 0])) (by simp [results, Try.results24, go_sem, R0, R1, R2]) rfl ⟨rfl, W6b⟩
def quaV (x y z : Int) : Value := (.tuple #[(.agg #[.int .i64 (qP x (mostF x y z)), .int .i64 (qP y (mostF x y z)), .int .i64 (qP z (mostF x y z))]), .int .i64 0])
theorem OQuant_none (x y z : Int) (hx : in64 x) (hy : in64 y) (hz : in64 z) (h : mostF x y z = 0) (w : World) : Calls Try.prog 24 #[(.agg #[.int .i64 x, .int .i64 y, .int .i64 z])] w fun e w' => e = .returned (.tuple #[(.agg #[.int .i64 0, .int .i64 0, .int .i64 0]), .int .i64 2]) ∧ Below w.heap.size w w' :=
  OQuant_no x y z w (Lib.hid fun w => h ▸ VMost_any x y z hx hy hz w)
theorem OQuant_any (x y z : Int) (hx : in64 x) (hy : in64 y) (hz : in64 z) (h : mostF x y z ≠ 0) (w : World) : Calls Try.prog 24 #[(.agg #[.int .i64 x, .int .i64 y, .int .i64 z])] w fun e w' => e = .returned (quaV x y z) ∧ Below w.heap.size w w' := by
  obtain ⟨m0, m1, ax, ay, az⟩ := most_bd x y z hx hy hz
  have im : in64 (mostF x y z) := by unfold in64; omega
  exact OQuant_yes x y z (mostF x y z) _ _ _ (by omega) w (Lib.hid (VMost_any x y z hx hy hz)) (Lib.hid fun p w hc => cpart_any x _ p hx im (by omega) (part_bd _ _ (by omega) ax) w hc) (Lib.hid fun p w hc => cpart_any y _ p hy im (by omega) (part_bd _ _ (by omega) ay) w hc) (Lib.hid fun p w hc => cpart_any z _ p hz im (by omega) (part_bd _ _ (by omega) az) w hc)
end Go.Proofs.Ytgggngcgcpmkbaa
