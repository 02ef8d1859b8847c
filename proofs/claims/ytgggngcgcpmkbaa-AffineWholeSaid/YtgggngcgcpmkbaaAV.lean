/- umbralaw04.AffineWhole: the walk. -/
import Derived.Test.YtgggngcgcpmkbaaAM
import Derived.Deep.DeepCutAuto
import Derived.LoopN
namespace Go.Proofs.Ytgggngcgcpmkbaa
set_option linter.unusedVariables false
set_option maxRecDepth 2000
set_option linter.unusedSimpArgs false
open Go.RowKit
attribute [local go_sem] setCell_twice setCell_pair

/-- too far by now -/
def farB (a : Bool) (W : Int) : Bool := a || decide (65536 < W) || decide (W < -65536)
theorem wp_norm {P : Program} {c : Code} {Q : Exit → Act → World → Prop} {a : Act} {w : World} (R : Act → World → Prop) (first : ∀ (J K' : Act → World → Prop), (∀ a' w', R a' w' → J a' w') → (∀ a' w', Met J a' w' → K' a' w') → c.wp P (Exit.then K' Q) a w) (rest : ∀ a' w', R a' w' → Q .normal a' w') : c.wp P Q a w := by
  refine wp_mono (first R R (fun _ _ q => q) (fun _ _ q => q)) ?_
  intro e a' w' hq
  cases e with
  | normal => exact rest _ _ hq
  | exit id => exact hq
  | goto l => exact hq
  | ret => exact hq
  | panic ch => exact hq
  | outgrown => exact hq

set_option maxHeartbeats 16000000 in
theorem Whole_core (m0 m1 m2 m3 m4 m5 m6 m7 m8 M0 M1 M2 M3 M4 M5 M6 M7 M8 t0 t1 t2 q0 q1 q2 T0_ T1_ T2_ p0 p1 p2 p3 p4 p5 p6 p7 p8 s0 s1 s2 v0 v1 v2 W0_ W1_ W2_ X Y Z c : Int) (w : World)
    (f0 : Hid (∀ w, Calls Try.prog 58 #[.int .i64 m0] w fun e w' => e = .returned (.int .i64 M0) ∧ Below w.heap.size w w'))
    (f1 : Hid (∀ w, Calls Try.prog 58 #[.int .i64 m1] w fun e w' => e = .returned (.int .i64 M1) ∧ Below w.heap.size w w'))
    (f2 : Hid (∀ w, Calls Try.prog 58 #[.int .i64 m2] w fun e w' => e = .returned (.int .i64 M2) ∧ Below w.heap.size w w'))
    (f3 : Hid (∀ w, Calls Try.prog 58 #[.int .i64 m3] w fun e w' => e = .returned (.int .i64 M3) ∧ Below w.heap.size w w'))
    (f4 : Hid (∀ w, Calls Try.prog 58 #[.int .i64 m4] w fun e w' => e = .returned (.int .i64 M4) ∧ Below w.heap.size w w'))
    (f5 : Hid (∀ w, Calls Try.prog 58 #[.int .i64 m5] w fun e w' => e = .returned (.int .i64 M5) ∧ Below w.heap.size w w'))
    (f6 : Hid (∀ w, Calls Try.prog 58 #[.int .i64 m6] w fun e w' => e = .returned (.int .i64 M6) ∧ Below w.heap.size w w'))
    (f7 : Hid (∀ w, Calls Try.prog 58 #[.int .i64 m7] w fun e w' => e = .returned (.int .i64 M7) ∧ Below w.heap.size w w'))
    (f8 : Hid (∀ w, Calls Try.prog 58 #[.int .i64 m8] w fun e w' => e = .returned (.int .i64 M8) ∧ Below w.heap.size w w'))
    (vo : Hid (∀ w, Calls Try.prog 59 #[(.agg #[.int .i64 t0, .int .i64 t1, .int .i64 t2])] w fun e w' => e = .returned (.agg #[.int .i64 T0_, .int .i64 T1_, .int .i64 T2_]) ∧ Below w.heap.size w w'))
    (pl : Hid (∀ w, Calls Try.prog 60 #[(.agg #[.int .i64 M0, .int .i64 M1, .int .i64 M2, .int .i64 M3, .int .i64 M4, .int .i64 M5, .int .i64 M6, .int .i64 M7, .int .i64 M8, .int .i64 T0_, .int .i64 T1_, .int .i64 T2_]), (.agg #[.int .i64 q0, .int .i64 q1, .int .i64 q2])] w fun e w' => e = .returned (.tuple #[(.agg #[.int .i64 X, .int .i64 Y, .int .i64 Z]), .int .i64 c]) ∧ Below w.heap.size w w'))
    (wk : Hid (∀ w, Calls Try.prog 55 #[] w fun e w' => e = .returned (.bool true) ∧ Below w.heap.size w w'))
    (cm0 : Hid (wrap64 m0 = m0))
    (cm1 : Hid (wrap64 m1 = m1))
    (cm2 : Hid (wrap64 m2 = m2))
    (cm3 : Hid (wrap64 m3 = m3))
    (cm4 : Hid (wrap64 m4 = m4))
    (cm5 : Hid (wrap64 m5 = m5))
    (cm6 : Hid (wrap64 m6 = m6))
    (cm7 : Hid (wrap64 m7 = m7))
    (cm8 : Hid (wrap64 m8 = m8))
    (ct0 : Hid (wrap64 t0 = t0))
    (ct1 : Hid (wrap64 t1 = t1))
    (ct2 : Hid (wrap64 t2 = t2))
    (cq0 : Hid (wrap64 q0 = q0))
    (cq1 : Hid (wrap64 q1 = q1))
    (cq2 : Hid (wrap64 q2 = q2))
    (hp0 : Hid (wrap64 (m0 * q0) = p0))
    (hp1 : Hid (wrap64 (m1 * q1) = p1))
    (hp2 : Hid (wrap64 (m2 * q2) = p2))
    (hp3 : Hid (wrap64 (m3 * q0) = p3))
    (hp4 : Hid (wrap64 (m4 * q1) = p4))
    (hp5 : Hid (wrap64 (m5 * q2) = p5))
    (hp6 : Hid (wrap64 (m6 * q0) = p6))
    (hp7 : Hid (wrap64 (m7 * q1) = p7))
    (hp8 : Hid (wrap64 (m8 * q2) = p8))
    (hs0 : Hid (wrap64 (p0 + p1) = s0))
    (hs1 : Hid (wrap64 (p3 + p4) = s1))
    (hs2 : Hid (wrap64 (p6 + p7) = s2))
    (hu0 : Hid (wrap64 (s0 + p2) = v0))
    (hu1 : Hid (wrap64 (s1 + p5) = v1))
    (hu2 : Hid (wrap64 (s2 + p8) = v2))
    (hw0 : Hid (wrap64 (v0 + t0) = W0_))
    (hw1 : Hid (wrap64 (v1 + t1) = W1_))
    (hw2 : Hid (wrap64 (v2 + t2) = W2_))
    (hfin : Hid ((farB (farB (farB false W0_) W1_) W2_ = true ∧ X = 0 ∧ Y = 0 ∧ Z = 0 ∧ c = 8) ∨ (farB (farB (farB false W0_) W1_) W2_ = false ∧ X = W0_ ∧ Y = W1_ ∧ Z = W2_ ∧ c = 0))) :
    Calls Try.prog 14 #[(.agg #[.int .i8 m0, .int .i8 m1, .int .i8 m2, .int .i8 m3, .int .i8 m4, .int .i8 m5, .int .i8 m6, .int .i8 m7, .int .i8 m8]), (.agg #[.int .i16 t0, .int .i16 t1, .int .i16 t2]), (.agg #[.int .i8 q0, .int .i8 q1, .int .i8 q2])] w fun e w' => e = .returned (.bool true) ∧ Below w.heap.size w w' := by
  go_enter Try.func14, Try.ntmps14
  go_upto_region 2 with fail
  obtain ⟨W0, hW⟩ : ∃ W0, W0 = ((((w.alloc (.cells #[.int .i8 m0, .int .i8 m1, .int .i8 m2, .int .i8 m3, .int .i8 m4, .int .i8 m5, .int .i8 m6, .int .i8 m7, .int .i8 m8] 93)).alloc (.cells #[.int .i16 t0, .int .i16 t1, .int .i16 t2] 95)).alloc (.cells #[.int .i8 q0, .int .i8 q1, .int .i8 q2] 96)).alloc (.cells #[.int .i64 0, .int .i64 0, .int .i64 0, .int .i64 0, .int .i64 0, .int .i64 0, .int .i64 0, .int .i64 0, .int .i64 0, .int .i64 0, .int .i64 0, .int .i64 0] 80)) := ⟨_, rfl⟩
  have hB0 : Below w.heap.size w W0 := hW ▸ (Below.al (Below.al (Below.al (Below.al (Below.refl _ _)))))
  have HA : Hid (Own w.heap.size [.int .i8 m0, .int .i8 m1, .int .i8 m2, .int .i8 m3, .int .i8 m4, .int .i8 m5, .int .i8 m6, .int .i8 m7, .int .i8 m8] W0) := Lib.hid (hW ▸ (Own.newAt (by simp)).alloc.alloc.alloc)
  have HB : Hid (Own (w.heap.size + 1) [.int .i16 t0, .int .i16 t1, .int .i16 t2] W0) := Lib.hid (hW ▸ (Own.newAt (by simp)).alloc.alloc)
  have HQ : Hid (Own ((w.heap.size + 1) + 1) [.int .i8 q0, .int .i8 q1, .int .i8 q2] W0) := Lib.hid (hW ▸ (Own.newAt (by simp)).alloc)
  have HD : Hid (Own (((w.heap.size + 1) + 1) + 1) [.int .i64 0, .int .i64 0, .int .i64 0, .int .i64 0, .int .i64 0, .int .i64 0, .int .i64 0, .int .i64 0, .int .i64 0, .int .i64 0, .int .i64 0, .int .i64 0] W0) := Lib.hid (hW ▸ (Own.newAt (by simp)))
  rw [← hW]
  clear hW
  obtain ⟨D, eD⟩ : ∃ X, X = (((w.heap.size + 1) + 1) + 1) := ⟨_, rfl⟩
  rw [← eD] at HD ⊢
  have Dw : w.heap.size ≤ D := by omega
  obtain ⟨Q, eQ⟩ : ∃ X, X = ((w.heap.size + 1) + 1) := ⟨_, rfl⟩
  rw [← eQ] at HQ ⊢
  have Qw : w.heap.size ≤ Q := by omega
  obtain ⟨B, eB⟩ : ∃ X, X = (w.heap.size + 1) := ⟨_, rfl⟩
  rw [← eB] at HB ⊢
  have Bw : w.heap.size ≤ B := by omega
  obtain ⟨A, eA⟩ : ∃ X, X = w.heap.size := ⟨_, rfl⟩
  rw [← eA] at HA ⊢
  have Aw : w.heap.size ≤ A := by omega
  have nAB : A ≠ B := by omega
  have nBA : B ≠ A := by omega
  have nAQ : A ≠ Q := by omega
  have nQA : Q ≠ A := by omega
  have nAD : A ≠ D := by omega
  have nDA : D ≠ A := by omega
  have nBQ : B ≠ Q := by omega
  have nQB : Q ≠ B := by omega
  have nBD : B ≠ D := by omega
  have nDB : D ≠ B := by omega
  have nQD : Q ≠ D := by omega
  have nDQ : D ≠ Q := by omega
  clear eA eB eQ eD
  have oA := HA.out
  have A0 := oA.at 0 _ rfl
  have A1 := oA.at 1 _ rfl
  have A2 := oA.at 2 _ rfl
  have A3 := oA.at 3 _ rfl
  have A4 := oA.at 4 _ rfl
  have A5 := oA.at 5 _ rfl
  have A6 := oA.at 6 _ rfl
  have A7 := oA.at 7 _ rfl
  have A8 := oA.at 8 _ rfl
  have Al := oA.lt
  clear oA
  go_wp2_with (fail)
  clear A0 A1 A2 A3 A4 A5 A6 A7 A8 Al
  refine wp_loop_rounds 10 ?_
  rw [rounds_succ]
  have ix : ∀ w, (Instr.index 93 (.agg #[.int .i8 m0, .int .i8 m1, .int .i8 m2, .int .i8 m3, .int .i8 m4, .int .i8 m5, .int .i8 m6, .int .i8 m7, .int .i8 m8]) (.int .i64 0)).run Try.prog w = .ok (.int .i8 m0) w := fun _ => by kernel_rfl
  have cv := cm0.out
  go_upto_region 6 with (go_at_call 58; refine (f0.out _).mono ?_; rintro e y0 ⟨rfl, hB⟩; have oD := HD.out.later hB; have Dk := oD.at 0 _ rfl; have Dfk := oD.ok 0 (by simp); clear oD)
  clear ix cv Dk Dfk
  rw [show (y0.setCell ⟨D, 0, none⟩ (.int .i64 M0)) = y0.setCells D 0 [.int .i64 M0] from rfl]
  have HDn : Hid (Own D [.int .i64 M0, .int .i64 0, .int .i64 0, .int .i64 0, .int .i64 0, .int .i64 0, .int .i64 0, .int .i64 0, .int .i64 0, .int .i64 0, .int .i64 0, .int .i64 0] (y0.setCells D 0 [.int .i64 M0])) := Lib.hid (show Own D (over _ 0 [.int .i64 M0]) _ from Own.part (HD.out.later hB) (by simp))
  have HAn : Hid (Own A [.int .i8 m0, .int .i8 m1, .int .i8 m2, .int .i8 m3, .int .i8 m4, .int .i8 m5, .int .i8 m6, .int .i8 m7, .int .i8 m8] (y0.setCells D 0 [.int .i64 M0])) := Lib.hid (Own.far (o := 0) (vs := [.int .i64 M0]) (HA.out.later hB) nAD)
  have HBn : Hid (Own B [.int .i16 t0, .int .i16 t1, .int .i16 t2] (y0.setCells D 0 [.int .i64 M0])) := Lib.hid (Own.far (o := 0) (vs := [.int .i64 M0]) (HB.out.later hB) nBD)
  have HQn : Hid (Own Q [.int .i8 q0, .int .i8 q1, .int .i8 q2] (y0.setCells D 0 [.int .i64 M0])) := Lib.hid (Own.far (o := 0) (vs := [.int .i64 M0]) (HQ.out.later hB) nQD)
  have Y0b : Below w.heap.size w (y0.setCells D 0 [.int .i64 M0]) := Below.setCells (Below.go hB0 hB) Dw [.int .i64 M0] 0
  generalize (y0.setCells D 0 [.int .i64 M0]) = Y0 at *
  clear HD HA HB HQ hB
  have HD := HDn
  clear HDn
  have HA := HAn
  clear HAn
  have HB := HBn
  clear HBn
  have HQ := HQn
  clear HQn
  clear hB0 f0
  go_wp2_with (fail)
  rw [rounds_succ]
  have ix : ∀ w, (Instr.index 93 (.agg #[.int .i8 m0, .int .i8 m1, .int .i8 m2, .int .i8 m3, .int .i8 m4, .int .i8 m5, .int .i8 m6, .int .i8 m7, .int .i8 m8]) (.int .i64 1)).run Try.prog w = .ok (.int .i8 m1) w := fun _ => by kernel_rfl
  have cv := cm1.out
  go_upto_region 6 with (go_at_call 58; refine (f1.out _).mono ?_; rintro e y1 ⟨rfl, hB⟩; have oD := HD.out.later hB; have Dk := oD.at 1 _ rfl; have Dfk := oD.ok 1 (by simp); clear oD)
  clear ix cv Dk Dfk
  rw [show (y1.setCell ⟨D, 1, none⟩ (.int .i64 M1)) = y1.setCells D 1 [.int .i64 M1] from rfl]
  have HDn : Hid (Own D [.int .i64 M0, .int .i64 M1, .int .i64 0, .int .i64 0, .int .i64 0, .int .i64 0, .int .i64 0, .int .i64 0, .int .i64 0, .int .i64 0, .int .i64 0, .int .i64 0] (y1.setCells D 1 [.int .i64 M1])) := Lib.hid (show Own D (over _ 1 [.int .i64 M1]) _ from Own.part (HD.out.later hB) (by simp))
  have HAn : Hid (Own A [.int .i8 m0, .int .i8 m1, .int .i8 m2, .int .i8 m3, .int .i8 m4, .int .i8 m5, .int .i8 m6, .int .i8 m7, .int .i8 m8] (y1.setCells D 1 [.int .i64 M1])) := Lib.hid (Own.far (o := 1) (vs := [.int .i64 M1]) (HA.out.later hB) nAD)
  have HBn : Hid (Own B [.int .i16 t0, .int .i16 t1, .int .i16 t2] (y1.setCells D 1 [.int .i64 M1])) := Lib.hid (Own.far (o := 1) (vs := [.int .i64 M1]) (HB.out.later hB) nBD)
  have HQn : Hid (Own Q [.int .i8 q0, .int .i8 q1, .int .i8 q2] (y1.setCells D 1 [.int .i64 M1])) := Lib.hid (Own.far (o := 1) (vs := [.int .i64 M1]) (HQ.out.later hB) nQD)
  have Y1b : Below w.heap.size w (y1.setCells D 1 [.int .i64 M1]) := Below.setCells (Below.go Y0b hB) Dw [.int .i64 M1] 1
  generalize (y1.setCells D 1 [.int .i64 M1]) = Y1 at *
  clear HD HA HB HQ hB
  have HD := HDn
  clear HDn
  have HA := HAn
  clear HAn
  have HB := HBn
  clear HBn
  have HQ := HQn
  clear HQn
  clear Y0b f1
  go_wp2_with (fail)
  rw [rounds_succ]
  have ix : ∀ w, (Instr.index 93 (.agg #[.int .i8 m0, .int .i8 m1, .int .i8 m2, .int .i8 m3, .int .i8 m4, .int .i8 m5, .int .i8 m6, .int .i8 m7, .int .i8 m8]) (.int .i64 2)).run Try.prog w = .ok (.int .i8 m2) w := fun _ => by kernel_rfl
  have cv := cm2.out
  go_upto_region 6 with (go_at_call 58; refine (f2.out _).mono ?_; rintro e y2 ⟨rfl, hB⟩; have oD := HD.out.later hB; have Dk := oD.at 2 _ rfl; have Dfk := oD.ok 2 (by simp); clear oD)
  clear ix cv Dk Dfk
  rw [show (y2.setCell ⟨D, 2, none⟩ (.int .i64 M2)) = y2.setCells D 2 [.int .i64 M2] from rfl]
  have HDn : Hid (Own D [.int .i64 M0, .int .i64 M1, .int .i64 M2, .int .i64 0, .int .i64 0, .int .i64 0, .int .i64 0, .int .i64 0, .int .i64 0, .int .i64 0, .int .i64 0, .int .i64 0] (y2.setCells D 2 [.int .i64 M2])) := Lib.hid (show Own D (over _ 2 [.int .i64 M2]) _ from Own.part (HD.out.later hB) (by simp))
  have HAn : Hid (Own A [.int .i8 m0, .int .i8 m1, .int .i8 m2, .int .i8 m3, .int .i8 m4, .int .i8 m5, .int .i8 m6, .int .i8 m7, .int .i8 m8] (y2.setCells D 2 [.int .i64 M2])) := Lib.hid (Own.far (o := 2) (vs := [.int .i64 M2]) (HA.out.later hB) nAD)
  have HBn : Hid (Own B [.int .i16 t0, .int .i16 t1, .int .i16 t2] (y2.setCells D 2 [.int .i64 M2])) := Lib.hid (Own.far (o := 2) (vs := [.int .i64 M2]) (HB.out.later hB) nBD)
  have HQn : Hid (Own Q [.int .i8 q0, .int .i8 q1, .int .i8 q2] (y2.setCells D 2 [.int .i64 M2])) := Lib.hid (Own.far (o := 2) (vs := [.int .i64 M2]) (HQ.out.later hB) nQD)
  have Y2b : Below w.heap.size w (y2.setCells D 2 [.int .i64 M2]) := Below.setCells (Below.go Y1b hB) Dw [.int .i64 M2] 2
  generalize (y2.setCells D 2 [.int .i64 M2]) = Y2 at *
  clear HD HA HB HQ hB
  have HD := HDn
  clear HDn
  have HA := HAn
  clear HAn
  have HB := HBn
  clear HBn
  have HQ := HQn
  clear HQn
  clear Y1b f2
  go_wp2_with (fail)
  rw [rounds_succ]
  have ix : ∀ w, (Instr.index 93 (.agg #[.int .i8 m0, .int .i8 m1, .int .i8 m2, .int .i8 m3, .int .i8 m4, .int .i8 m5, .int .i8 m6, .int .i8 m7, .int .i8 m8]) (.int .i64 3)).run Try.prog w = .ok (.int .i8 m3) w := fun _ => by kernel_rfl
  have cv := cm3.out
  go_upto_region 6 with (go_at_call 58; refine (f3.out _).mono ?_; rintro e y3 ⟨rfl, hB⟩; have oD := HD.out.later hB; have Dk := oD.at 3 _ rfl; have Dfk := oD.ok 3 (by simp); clear oD)
  clear ix cv Dk Dfk
  rw [show (y3.setCell ⟨D, 3, none⟩ (.int .i64 M3)) = y3.setCells D 3 [.int .i64 M3] from rfl]
  have HDn : Hid (Own D [.int .i64 M0, .int .i64 M1, .int .i64 M2, .int .i64 M3, .int .i64 0, .int .i64 0, .int .i64 0, .int .i64 0, .int .i64 0, .int .i64 0, .int .i64 0, .int .i64 0] (y3.setCells D 3 [.int .i64 M3])) := Lib.hid (show Own D (over _ 3 [.int .i64 M3]) _ from Own.part (HD.out.later hB) (by simp))
  have HAn : Hid (Own A [.int .i8 m0, .int .i8 m1, .int .i8 m2, .int .i8 m3, .int .i8 m4, .int .i8 m5, .int .i8 m6, .int .i8 m7, .int .i8 m8] (y3.setCells D 3 [.int .i64 M3])) := Lib.hid (Own.far (o := 3) (vs := [.int .i64 M3]) (HA.out.later hB) nAD)
  have HBn : Hid (Own B [.int .i16 t0, .int .i16 t1, .int .i16 t2] (y3.setCells D 3 [.int .i64 M3])) := Lib.hid (Own.far (o := 3) (vs := [.int .i64 M3]) (HB.out.later hB) nBD)
  have HQn : Hid (Own Q [.int .i8 q0, .int .i8 q1, .int .i8 q2] (y3.setCells D 3 [.int .i64 M3])) := Lib.hid (Own.far (o := 3) (vs := [.int .i64 M3]) (HQ.out.later hB) nQD)
  have Y3b : Below w.heap.size w (y3.setCells D 3 [.int .i64 M3]) := Below.setCells (Below.go Y2b hB) Dw [.int .i64 M3] 3
  generalize (y3.setCells D 3 [.int .i64 M3]) = Y3 at *
  clear HD HA HB HQ hB
  have HD := HDn
  clear HDn
  have HA := HAn
  clear HAn
  have HB := HBn
  clear HBn
  have HQ := HQn
  clear HQn
  clear Y2b f3
  go_wp2_with (fail)
  rw [rounds_succ]
  have ix : ∀ w, (Instr.index 93 (.agg #[.int .i8 m0, .int .i8 m1, .int .i8 m2, .int .i8 m3, .int .i8 m4, .int .i8 m5, .int .i8 m6, .int .i8 m7, .int .i8 m8]) (.int .i64 4)).run Try.prog w = .ok (.int .i8 m4) w := fun _ => by kernel_rfl
  have cv := cm4.out
  go_upto_region 6 with (go_at_call 58; refine (f4.out _).mono ?_; rintro e y4 ⟨rfl, hB⟩; have oD := HD.out.later hB; have Dk := oD.at 4 _ rfl; have Dfk := oD.ok 4 (by simp); clear oD)
  clear ix cv Dk Dfk
  rw [show (y4.setCell ⟨D, 4, none⟩ (.int .i64 M4)) = y4.setCells D 4 [.int .i64 M4] from rfl]
  have HDn : Hid (Own D [.int .i64 M0, .int .i64 M1, .int .i64 M2, .int .i64 M3, .int .i64 M4, .int .i64 0, .int .i64 0, .int .i64 0, .int .i64 0, .int .i64 0, .int .i64 0, .int .i64 0] (y4.setCells D 4 [.int .i64 M4])) := Lib.hid (show Own D (over _ 4 [.int .i64 M4]) _ from Own.part (HD.out.later hB) (by simp))
  have HAn : Hid (Own A [.int .i8 m0, .int .i8 m1, .int .i8 m2, .int .i8 m3, .int .i8 m4, .int .i8 m5, .int .i8 m6, .int .i8 m7, .int .i8 m8] (y4.setCells D 4 [.int .i64 M4])) := Lib.hid (Own.far (o := 4) (vs := [.int .i64 M4]) (HA.out.later hB) nAD)
  have HBn : Hid (Own B [.int .i16 t0, .int .i16 t1, .int .i16 t2] (y4.setCells D 4 [.int .i64 M4])) := Lib.hid (Own.far (o := 4) (vs := [.int .i64 M4]) (HB.out.later hB) nBD)
  have HQn : Hid (Own Q [.int .i8 q0, .int .i8 q1, .int .i8 q2] (y4.setCells D 4 [.int .i64 M4])) := Lib.hid (Own.far (o := 4) (vs := [.int .i64 M4]) (HQ.out.later hB) nQD)
  have Y4b : Below w.heap.size w (y4.setCells D 4 [.int .i64 M4]) := Below.setCells (Below.go Y3b hB) Dw [.int .i64 M4] 4
  generalize (y4.setCells D 4 [.int .i64 M4]) = Y4 at *
  clear HD HA HB HQ hB
  have HD := HDn
  clear HDn
  have HA := HAn
  clear HAn
  have HB := HBn
  clear HBn
  have HQ := HQn
  clear HQn
  clear Y3b f4
  go_wp2_with (fail)
  rw [rounds_succ]
  have ix : ∀ w, (Instr.index 93 (.agg #[.int .i8 m0, .int .i8 m1, .int .i8 m2, .int .i8 m3, .int .i8 m4, .int .i8 m5, .int .i8 m6, .int .i8 m7, .int .i8 m8]) (.int .i64 5)).run Try.prog w = .ok (.int .i8 m5) w := fun _ => by kernel_rfl
  have cv := cm5.out
  go_upto_region 6 with (go_at_call 58; refine (f5.out _).mono ?_; rintro e y5 ⟨rfl, hB⟩; have oD := HD.out.later hB; have Dk := oD.at 5 _ rfl; have Dfk := oD.ok 5 (by simp); clear oD)
  clear ix cv Dk Dfk
  rw [show (y5.setCell ⟨D, 5, none⟩ (.int .i64 M5)) = y5.setCells D 5 [.int .i64 M5] from rfl]
  have HDn : Hid (Own D [.int .i64 M0, .int .i64 M1, .int .i64 M2, .int .i64 M3, .int .i64 M4, .int .i64 M5, .int .i64 0, .int .i64 0, .int .i64 0, .int .i64 0, .int .i64 0, .int .i64 0] (y5.setCells D 5 [.int .i64 M5])) := Lib.hid (show Own D (over _ 5 [.int .i64 M5]) _ from Own.part (HD.out.later hB) (by simp))
  have HAn : Hid (Own A [.int .i8 m0, .int .i8 m1, .int .i8 m2, .int .i8 m3, .int .i8 m4, .int .i8 m5, .int .i8 m6, .int .i8 m7, .int .i8 m8] (y5.setCells D 5 [.int .i64 M5])) := Lib.hid (Own.far (o := 5) (vs := [.int .i64 M5]) (HA.out.later hB) nAD)
  have HBn : Hid (Own B [.int .i16 t0, .int .i16 t1, .int .i16 t2] (y5.setCells D 5 [.int .i64 M5])) := Lib.hid (Own.far (o := 5) (vs := [.int .i64 M5]) (HB.out.later hB) nBD)
  have HQn : Hid (Own Q [.int .i8 q0, .int .i8 q1, .int .i8 q2] (y5.setCells D 5 [.int .i64 M5])) := Lib.hid (Own.far (o := 5) (vs := [.int .i64 M5]) (HQ.out.later hB) nQD)
  have Y5b : Below w.heap.size w (y5.setCells D 5 [.int .i64 M5]) := Below.setCells (Below.go Y4b hB) Dw [.int .i64 M5] 5
  generalize (y5.setCells D 5 [.int .i64 M5]) = Y5 at *
  clear HD HA HB HQ hB
  have HD := HDn
  clear HDn
  have HA := HAn
  clear HAn
  have HB := HBn
  clear HBn
  have HQ := HQn
  clear HQn
  clear Y4b f5
  go_wp2_with (fail)
  rw [rounds_succ]
  have ix : ∀ w, (Instr.index 93 (.agg #[.int .i8 m0, .int .i8 m1, .int .i8 m2, .int .i8 m3, .int .i8 m4, .int .i8 m5, .int .i8 m6, .int .i8 m7, .int .i8 m8]) (.int .i64 6)).run Try.prog w = .ok (.int .i8 m6) w := fun _ => by kernel_rfl
  have cv := cm6.out
  go_upto_region 6 with (go_at_call 58; refine (f6.out _).mono ?_; rintro e y6 ⟨rfl, hB⟩; have oD := HD.out.later hB; have Dk := oD.at 6 _ rfl; have Dfk := oD.ok 6 (by simp); clear oD)
  clear ix cv Dk Dfk
  rw [show (y6.setCell ⟨D, 6, none⟩ (.int .i64 M6)) = y6.setCells D 6 [.int .i64 M6] from rfl]
  have HDn : Hid (Own D [.int .i64 M0, .int .i64 M1, .int .i64 M2, .int .i64 M3, .int .i64 M4, .int .i64 M5, .int .i64 M6, .int .i64 0, .int .i64 0, .int .i64 0, .int .i64 0, .int .i64 0] (y6.setCells D 6 [.int .i64 M6])) := Lib.hid (show Own D (over _ 6 [.int .i64 M6]) _ from Own.part (HD.out.later hB) (by simp))
  have HAn : Hid (Own A [.int .i8 m0, .int .i8 m1, .int .i8 m2, .int .i8 m3, .int .i8 m4, .int .i8 m5, .int .i8 m6, .int .i8 m7, .int .i8 m8] (y6.setCells D 6 [.int .i64 M6])) := Lib.hid (Own.far (o := 6) (vs := [.int .i64 M6]) (HA.out.later hB) nAD)
  have HBn : Hid (Own B [.int .i16 t0, .int .i16 t1, .int .i16 t2] (y6.setCells D 6 [.int .i64 M6])) := Lib.hid (Own.far (o := 6) (vs := [.int .i64 M6]) (HB.out.later hB) nBD)
  have HQn : Hid (Own Q [.int .i8 q0, .int .i8 q1, .int .i8 q2] (y6.setCells D 6 [.int .i64 M6])) := Lib.hid (Own.far (o := 6) (vs := [.int .i64 M6]) (HQ.out.later hB) nQD)
  have Y6b : Below w.heap.size w (y6.setCells D 6 [.int .i64 M6]) := Below.setCells (Below.go Y5b hB) Dw [.int .i64 M6] 6
  generalize (y6.setCells D 6 [.int .i64 M6]) = Y6 at *
  clear HD HA HB HQ hB
  have HD := HDn
  clear HDn
  have HA := HAn
  clear HAn
  have HB := HBn
  clear HBn
  have HQ := HQn
  clear HQn
  clear Y5b f6
  go_wp2_with (fail)
  rw [rounds_succ]
  have ix : ∀ w, (Instr.index 93 (.agg #[.int .i8 m0, .int .i8 m1, .int .i8 m2, .int .i8 m3, .int .i8 m4, .int .i8 m5, .int .i8 m6, .int .i8 m7, .int .i8 m8]) (.int .i64 7)).run Try.prog w = .ok (.int .i8 m7) w := fun _ => by kernel_rfl
  have cv := cm7.out
  go_upto_region 6 with (go_at_call 58; refine (f7.out _).mono ?_; rintro e y7 ⟨rfl, hB⟩; have oD := HD.out.later hB; have Dk := oD.at 7 _ rfl; have Dfk := oD.ok 7 (by simp); clear oD)
  clear ix cv Dk Dfk
  rw [show (y7.setCell ⟨D, 7, none⟩ (.int .i64 M7)) = y7.setCells D 7 [.int .i64 M7] from rfl]
  have HDn : Hid (Own D [.int .i64 M0, .int .i64 M1, .int .i64 M2, .int .i64 M3, .int .i64 M4, .int .i64 M5, .int .i64 M6, .int .i64 M7, .int .i64 0, .int .i64 0, .int .i64 0, .int .i64 0] (y7.setCells D 7 [.int .i64 M7])) := Lib.hid (show Own D (over _ 7 [.int .i64 M7]) _ from Own.part (HD.out.later hB) (by simp))
  have HAn : Hid (Own A [.int .i8 m0, .int .i8 m1, .int .i8 m2, .int .i8 m3, .int .i8 m4, .int .i8 m5, .int .i8 m6, .int .i8 m7, .int .i8 m8] (y7.setCells D 7 [.int .i64 M7])) := Lib.hid (Own.far (o := 7) (vs := [.int .i64 M7]) (HA.out.later hB) nAD)
  have HBn : Hid (Own B [.int .i16 t0, .int .i16 t1, .int .i16 t2] (y7.setCells D 7 [.int .i64 M7])) := Lib.hid (Own.far (o := 7) (vs := [.int .i64 M7]) (HB.out.later hB) nBD)
  have HQn : Hid (Own Q [.int .i8 q0, .int .i8 q1, .int .i8 q2] (y7.setCells D 7 [.int .i64 M7])) := Lib.hid (Own.far (o := 7) (vs := [.int .i64 M7]) (HQ.out.later hB) nQD)
  have Y7b : Below w.heap.size w (y7.setCells D 7 [.int .i64 M7]) := Below.setCells (Below.go Y6b hB) Dw [.int .i64 M7] 7
  generalize (y7.setCells D 7 [.int .i64 M7]) = Y7 at *
  clear HD HA HB HQ hB
  have HD := HDn
  clear HDn
  have HA := HAn
  clear HAn
  have HB := HBn
  clear HBn
  have HQ := HQn
  clear HQn
  clear Y6b f7
  go_wp2_with (fail)
  rw [rounds_succ]
  have ix : ∀ w, (Instr.index 93 (.agg #[.int .i8 m0, .int .i8 m1, .int .i8 m2, .int .i8 m3, .int .i8 m4, .int .i8 m5, .int .i8 m6, .int .i8 m7, .int .i8 m8]) (.int .i64 8)).run Try.prog w = .ok (.int .i8 m8) w := fun _ => by kernel_rfl
  have cv := cm8.out
  go_upto_region 6 with (go_at_call 58; refine (f8.out _).mono ?_; rintro e y8 ⟨rfl, hB⟩; have oD := HD.out.later hB; have Dk := oD.at 8 _ rfl; have Dfk := oD.ok 8 (by simp); clear oD)
  clear ix cv Dk Dfk
  rw [show (y8.setCell ⟨D, 8, none⟩ (.int .i64 M8)) = y8.setCells D 8 [.int .i64 M8] from rfl]
  have HDn : Hid (Own D [.int .i64 M0, .int .i64 M1, .int .i64 M2, .int .i64 M3, .int .i64 M4, .int .i64 M5, .int .i64 M6, .int .i64 M7, .int .i64 M8, .int .i64 0, .int .i64 0, .int .i64 0] (y8.setCells D 8 [.int .i64 M8])) := Lib.hid (show Own D (over _ 8 [.int .i64 M8]) _ from Own.part (HD.out.later hB) (by simp))
  have HAn : Hid (Own A [.int .i8 m0, .int .i8 m1, .int .i8 m2, .int .i8 m3, .int .i8 m4, .int .i8 m5, .int .i8 m6, .int .i8 m7, .int .i8 m8] (y8.setCells D 8 [.int .i64 M8])) := Lib.hid (Own.far (o := 8) (vs := [.int .i64 M8]) (HA.out.later hB) nAD)
  have HBn : Hid (Own B [.int .i16 t0, .int .i16 t1, .int .i16 t2] (y8.setCells D 8 [.int .i64 M8])) := Lib.hid (Own.far (o := 8) (vs := [.int .i64 M8]) (HB.out.later hB) nBD)
  have HQn : Hid (Own Q [.int .i8 q0, .int .i8 q1, .int .i8 q2] (y8.setCells D 8 [.int .i64 M8])) := Lib.hid (Own.far (o := 8) (vs := [.int .i64 M8]) (HQ.out.later hB) nQD)
  have Y8b : Below w.heap.size w (y8.setCells D 8 [.int .i64 M8]) := Below.setCells (Below.go Y7b hB) Dw [.int .i64 M8] 8
  generalize (y8.setCells D 8 [.int .i64 M8]) = Y8 at *
  clear HD HA HB HQ hB
  have HD := HDn
  clear HDn
  have HA := HAn
  clear HAn
  have HB := HBn
  clear HBn
  have HQ := HQn
  clear HQn
  clear Y7b f8
  go_wp2_with (fail)
  rw [rounds_succ]
  have oB := HB.out
  have B0 := oB.at 0 _ rfl
  have B1 := oB.at 1 _ rfl
  have B2 := oB.at 2 _ rfl
  have Bl := oB.lt
  clear oB
  have cv0 := ct0.out; have cv1 := ct1.out; have cv2 := ct2.out
  go_upto_region 8 with (go_at_call 59; refine (vo.out _).mono ?_; rintro e y9 ⟨rfl, hB⟩; have oD := HD.out.later hB; have D9 := oD.at 9 _ rfl; have D10 := oD.at 10 _ rfl; have D11 := oD.at 11 _ rfl; have Df9 := oD.ok 9 (by simp); have Df10 := oD.ok 10 (by simp); have Df11 := oD.ok 11 (by simp); clear oD)
  clear cv0 cv1 cv2 B0 B1 B2 Bl D9 D10 D11 Df9 Df10 Df11 vo
  rw [show (((y9.setCell ⟨D, 9, none⟩ (.int .i64 T0_)).setCell ⟨D, 10, none⟩ (.int .i64 T1_)).setCell ⟨D, 11, none⟩ (.int .i64 T2_)) = y9.setCells D 9 [.int .i64 T0_, .int .i64 T1_, .int .i64 T2_] from rfl]
  have HDn : Hid (Own D [.int .i64 M0, .int .i64 M1, .int .i64 M2, .int .i64 M3, .int .i64 M4, .int .i64 M5, .int .i64 M6, .int .i64 M7, .int .i64 M8, .int .i64 T0_, .int .i64 T1_, .int .i64 T2_] (y9.setCells D 9 [.int .i64 T0_, .int .i64 T1_, .int .i64 T2_])) := Lib.hid (show Own D (over _ 9 [.int .i64 T0_, .int .i64 T1_, .int .i64 T2_]) _ from Own.part (HD.out.later hB) (by simp))
  have HAn : Hid (Own A [.int .i8 m0, .int .i8 m1, .int .i8 m2, .int .i8 m3, .int .i8 m4, .int .i8 m5, .int .i8 m6, .int .i8 m7, .int .i8 m8] (y9.setCells D 9 [.int .i64 T0_, .int .i64 T1_, .int .i64 T2_])) := Lib.hid (Own.far (o := 9) (vs := [.int .i64 T0_, .int .i64 T1_, .int .i64 T2_]) (HA.out.later hB) nAD)
  have HBn : Hid (Own B [.int .i16 t0, .int .i16 t1, .int .i16 t2] (y9.setCells D 9 [.int .i64 T0_, .int .i64 T1_, .int .i64 T2_])) := Lib.hid (Own.far (o := 9) (vs := [.int .i64 T0_, .int .i64 T1_, .int .i64 T2_]) (HB.out.later hB) nBD)
  have HQn : Hid (Own Q [.int .i8 q0, .int .i8 q1, .int .i8 q2] (y9.setCells D 9 [.int .i64 T0_, .int .i64 T1_, .int .i64 T2_])) := Lib.hid (Own.far (o := 9) (vs := [.int .i64 T0_, .int .i64 T1_, .int .i64 T2_]) (HQ.out.later hB) nQD)
  have Y9b : Below w.heap.size w (y9.setCells D 9 [.int .i64 T0_, .int .i64 T1_, .int .i64 T2_]) := Below.setCells (Below.go Y8b hB) Dw [.int .i64 T0_, .int .i64 T1_, .int .i64 T2_] 9
  generalize (y9.setCells D 9 [.int .i64 T0_, .int .i64 T1_, .int .i64 T2_]) = Y9 at *
  clear HD HA HB HQ hB
  have HD := HDn
  clear HDn
  have HA := HAn
  clear HAn
  have HB := HBn
  clear HBn
  have HQ := HQn
  clear HQn
  clear Y8b
  have oD := HD.out
  have D0 := oD.at 0 _ rfl
  have D1 := oD.at 1 _ rfl
  have D2 := oD.at 2 _ rfl
  have D3 := oD.at 3 _ rfl
  have D4 := oD.at 4 _ rfl
  have D5 := oD.at 5 _ rfl
  have D6 := oD.at 6 _ rfl
  have D7 := oD.at 7 _ rfl
  have D8 := oD.at 8 _ rfl
  have D9 := oD.at 9 _ rfl
  have D10 := oD.at 10 _ rfl
  have D11 := oD.at 11 _ rfl
  have Dl := oD.lt
  clear oD
  have oQ := HQ.out
  have Q0 := oQ.at 0 _ rfl
  have Q1 := oQ.at 1 _ rfl
  have Q2 := oQ.at 2 _ rfl
  have Ql := oQ.lt
  clear oQ
  have cv0 := cq0.out; have cv1 := cq1.out; have cv2 := cq2.out
  go_upto_region 9 with (go_at_call 60; refine (pl.out _).mono ?_; rintro e y10 ⟨rfl, hb⟩)
  clear cv0 cv1 cv2 Q0 Q1 Q2 Ql Dl D0 D1 D2 D3 D4 D5 D6 D7 D8 D9 D10 D11 pl
  replace HA := Lib.hid (HA.out.later hb); replace HB := Lib.hid (HB.out.later hb); replace HQ := Lib.hid (HQ.out.later hb)
  have gB : Below w.heap.size w y10 := Below.go Y9b hb
  clear hb Y9b HD
  obtain ⟨Z0, hW⟩ : ∃ Z0, Z0 = (y10.alloc (.cells #[.int .i64 X, .int .i64 Y, .int .i64 Z] 24)) := ⟨_, rfl⟩
  have hq : Below y10.heap.size y10 Z0 := hW ▸ (Below.al (Below.refl _ _))
  have HN : Hid (Own y10.heap.size [.int .i64 X, .int .i64 Y, .int .i64 Z] Z0) := Lib.hid (hW ▸ (Own.newAt (by simp)))
  rw [← hW]
  clear hW
  obtain ⟨N, eN⟩ : ∃ X, X = y10.heap.size := ⟨_, rfl⟩
  rw [← eN] at HN ⊢
  have Nw : y10.heap.size ≤ N := by omega
  clear eN
  have nAN : A ≠ N := by have := HA.out.lt; omega
  have nBN : B ≠ N := by have := HB.out.lt; omega
  have nQN : Q ≠ N := by have := HQ.out.lt; omega
  replace HA := Lib.hid (HA.out.later hq); replace HB := Lib.hid (HB.out.later hq); replace HQ := Lib.hid (HQ.out.later hq)
  have gC : Below w.heap.size w Z0 := Below.go gB hq
  clear hq gB Nw
  go_upto_region 10 with fail
  obtain ⟨Z1, hW⟩ : ∃ Z1, Z1 = (Z0.alloc (.cells #[.int .i64 0, .int .i64 0, .int .i64 0] 100)) := ⟨_, rfl⟩
  have hq : Below Z0.heap.size Z0 Z1 := hW ▸ (Below.al (Below.refl _ _))
  have HE : Hid (Own Z0.heap.size [.int .i64 0, .int .i64 0, .int .i64 0] Z1) := Lib.hid (hW ▸ (Own.newAt (by simp)))
  rw [← hW]
  clear hW
  obtain ⟨E, eE⟩ : ∃ X, X = Z0.heap.size := ⟨_, rfl⟩
  rw [← eE] at HE ⊢
  have Ew : Z0.heap.size ≤ E := by omega
  clear eE
  have nAE : A ≠ E := by have := HA.out.lt; omega
  have nBE : B ≠ E := by have := HB.out.lt; omega
  have nQE : Q ≠ E := by have := HQ.out.lt; omega
  have nNE : N ≠ E := by have := HN.out.lt; omega
  have Ew2 : w.heap.size ≤ E := by have := gC.size; omega
  replace Ew := Ew2
  replace HA := Lib.hid (HA.out.later hq); replace HB := Lib.hid (HB.out.later hq); replace HQ := Lib.hid (HQ.out.later hq); replace HN := Lib.hid (HN.out.later hq)
  have gD : Below w.heap.size w Z1 := Below.go gC hq
  clear hq gC Ew2
  go_wp2_with (fail)
  refine wp_loop_rounds 4 ?_
  rw [rounds_succ]
  go_wp2_with (fail)
  refine wp_region_fun 39 (by kernel_rfl) (by kernel_rfl) rfl (fun s b => ⟨#[(.agg #[.int .i8 m0, .int .i8 m1, .int .i8 m2, .int .i8 m3, .int .i8 m4, .int .i8 m5, .int .i8 m6, .int .i8 m7, .int .i8 m8]), (.agg #[.int .i16 t0, .int .i16 t1, .int .i16 t2]), (.agg #[.int .i8 q0, .int .i8 q1, .int .i8 q2]), .pointer (some ⟨A, 0, none⟩), .pointer (some ⟨B, 0, none⟩), .pointer (some ⟨Q, 0, none⟩), .bool false, .pointer (some ⟨D, 0, none⟩), .int .i64 8, .int .i8 m8, .pointer (some ⟨N, 0, none⟩), .int .i64 c, .pointer (some ⟨E, 0, none⟩), .bool false, .int .i64 0, (.agg #[.int .i8 m0, .int .i8 m1, .int .i8 m2, .int .i8 m3, .int .i8 m4, .int .i8 m5, .int .i8 m6, .int .i8 m7, .int .i8 m8]), .int .i64 9, .bool false, .int .i64 8, .int .i8 m8, .int .i64 8, .int .i8 m8, .int .i64 m8, .int .i64 M8, .pointer (some ⟨D, 0, none⟩), .pointer (some ⟨D, 8, none⟩), .int .i64 9, .pointer (some ⟨B, 0, none⟩), .int .i16 t0, .int .i64 t0, .pointer (some ⟨B, 1, none⟩), .int .i16 t1, .int .i64 t1, .pointer (some ⟨B, 2, none⟩), .int .i16 t2, .int .i64 t2, (.agg #[.int .i64 t0, .int .i64 t1, .int .i64 t2]), (.agg #[.int .i64 T0_, .int .i64 T1_, .int .i64 T2_]), .pointer (some ⟨D, 9, none⟩), .tuple #[(.agg #[.int .i64 X, .int .i64 Y, .int .i64 Z]), .int .i64 c], (.agg #[.int .i64 M0, .int .i64 M1, .int .i64 M2, .int .i64 M3, .int .i64 M4, .int .i64 M5, .int .i64 M6, .int .i64 M7, .int .i64 M8, .int .i64 T0_, .int .i64 T1_, .int .i64 T2_]), .pointer (some ⟨Q, 0, none⟩), .int .i8 q0, .int .i64 q0, .pointer (some ⟨Q, 1, none⟩), .int .i8 q1, .int .i64 q1, .pointer (some ⟨Q, 2, none⟩), .int .i8 q2, .int .i64 q2, (.agg #[.int .i64 q0, .int .i64 q1, .int .i64 q2]), .tuple #[(.agg #[.int .i64 X, .int .i64 Y, .int .i64 Z]), .int .i64 c], (.agg #[.int .i64 X, .int .i64 Y, .int .i64 Z]), .int .i64 c, (.agg #[.int .i64 0, .int .i64 0, .int .i64 0]), .int .i64 0, .bool true, .int .i64 0, s 58, s 59, s 60, s 61, s 62, s 63, s 64, s 65, s 66, s 67, s 68, s 69, s 70, s 71, s 72, s 73, s 74, s 75, s 76, s 77, s 78, s 79, s 80, s 81, s 82, s 83, s 84, s 85, s 86, s 87, s 88, s 89, s 90, s 91, s 92, s 93, s 94, s 95, undef, undef, undef, undef, undef, undef, undef, undef, undef, undef, undef, undef, undef, undef, undef, undef, undef, undef, undef, undef, undef, undef, undef, undef, undef, undef, undef, undef, undef, undef, undef, undef, undef, undef, undef, undef, undef, undef, undef, undef, undef], []⟩) (fun d s b w => (d 38 = false → Below Z1.heap.size Z1 w) ∧ (d 0 = true → s 58 = .int .i64 0) ∧ (d 1 = true → s 59 = .int .i64 0) ∧ (d 2 = true → s 60 = .int .i64 0) ∧ (d 3 = true → s 61 = .pointer (some ⟨A, 0, none⟩)) ∧ (d 4 = true → s 62 = .int .i8 m0) ∧ (d 5 = true → s 63 = .int .i64 m0) ∧ (d 6 = true → s 64 = .pointer (some ⟨Q, 0, none⟩)) ∧ (d 7 = true → s 65 = .int .i8 q0) ∧ (d 8 = true → s 66 = .int .i64 q0) ∧ (d 9 = true → s 67 = .int .i64 p0) ∧ (d 10 = true → s 68 = .int .i64 0) ∧ (d 11 = true → s 69 = .int .i64 0) ∧ (d 12 = true → s 70 = .int .i64 1) ∧ (d 13 = true → s 71 = .pointer (some ⟨A, 1, none⟩)) ∧ (d 14 = true → s 72 = .int .i8 m1) ∧ (d 15 = true → s 73 = .int .i64 m1) ∧ (d 16 = true → s 74 = .pointer (some ⟨Q, 1, none⟩)) ∧ (d 17 = true → s 75 = .int .i8 q1) ∧ (d 18 = true → s 76 = .int .i64 q1) ∧ (d 19 = true → s 77 = .int .i64 p1) ∧ (d 20 = true → s 78 = .int .i64 s0) ∧ (d 21 = true → s 79 = .int .i64 0) ∧ (d 22 = true → s 80 = .int .i64 0) ∧ (d 23 = true → s 81 = .int .i64 2) ∧ (d 24 = true → s 82 = .pointer (some ⟨A, 2, none⟩)) ∧ (d 25 = true → s 83 = .int .i8 m2) ∧ (d 26 = true → s 84 = .int .i64 m2) ∧ (d 27 = true → s 85 = .pointer (some ⟨Q, 2, none⟩)) ∧ (d 28 = true → s 86 = .int .i8 q2) ∧ (d 29 = true → s 87 = .int .i64 q2) ∧ (d 30 = true → s 88 = .int .i64 p2) ∧ (d 31 = true → s 89 = .int .i64 v0) ∧ (d 32 = true → s 90 = .int .i64 0) ∧ (d 33 = true → s 91 = .pointer (some ⟨B, 0, none⟩)) ∧ (d 34 = true → s 92 = .int .i16 t0) ∧ (d 35 = true → s 93 = .int .i64 t0) ∧ (d 36 = true → s 94 = .int .i64 W0_) ∧ (d 37 = true → s 95 = .pointer (some ⟨E, 0, none⟩)) ∧ (d 38 = true → ∀ j, j < 38 → d j = true) ∧ (d 38 = true → ∃ w2, Below Z1.heap.size Z1 w2 ∧ w = w2.setCells E 0 [.int .i64 W0_])) rfl ?h0z0 (?stz0 : StepsF _ _ _ _ 39 _ _ [0, 1, 2, 3, 4, 5, 6, 7, 8, 9, 10, 11, 12, 13, 14, 15, 16, 17, 18, 19, 20, 21, 22, 23, 24, 25, 26, 27, 28, 29, 30, 31, 32, 33, 34, 35, 36, 37, 38]) ?dnz0
  case h0z0 => exact ⟨fun _ => Below.drew (Below.refl _ _), (fun h => nomatch h), (fun h => nomatch h), (fun h => nomatch h), (fun h => nomatch h), (fun h => nomatch h), (fun h => nomatch h), (fun h => nomatch h), (fun h => nomatch h), (fun h => nomatch h), (fun h => nomatch h), (fun h => nomatch h), (fun h => nomatch h), (fun h => nomatch h), (fun h => nomatch h), (fun h => nomatch h), (fun h => nomatch h), (fun h => nomatch h), (fun h => nomatch h), (fun h => nomatch h), (fun h => nomatch h), (fun h => nomatch h), (fun h => nomatch h), (fun h => nomatch h), (fun h => nomatch h), (fun h => nomatch h), (fun h => nomatch h), (fun h => nomatch h), (fun h => nomatch h), (fun h => nomatch h), (fun h => nomatch h), (fun h => nomatch h), (fun h => nomatch h), (fun h => nomatch h), (fun h => nomatch h), (fun h => nomatch h), (fun h => nomatch h), (fun h => nomatch h), (fun h => nomatch h), (fun h => nomatch h), (fun h => nomatch h)⟩
  case stz0 =>
    refine StepsF.cons (o := _) rfl (ws := []) (by kernel_rfl) (by decide) (fun d s b w hF hd hw K hK => ?_) ?_
    · have hk : d 38 = false := by cases e : d 38 with | false => rfl | true => exact absurd ((p39_ hF.out) e 0 (by decide)) (by simp [hd])
      have hB : Below Z1.heap.size Z1 w := (p0_ hF.out) hk
      dsimp only
      go_simp
      exact hK.out (ups s 58 (.int .i64 0)) b _ ⟨(fun _ => hB), (fun _ => rfl), (p2_ hF.out), (p3_ hF.out), (p4_ hF.out), (p5_ hF.out), (p6_ hF.out), (p7_ hF.out), (p8_ hF.out), (p9_ hF.out), (p10_ hF.out), (p11_ hF.out), (p12_ hF.out), (p13_ hF.out), (p14_ hF.out), (p15_ hF.out), (p16_ hF.out), (p17_ hF.out), (p18_ hF.out), (p19_ hF.out), (p20_ hF.out), (p21_ hF.out), (p22_ hF.out), (p23_ hF.out), (p24_ hF.out), (p25_ hF.out), (p26_ hF.out), (p27_ hF.out), (p28_ hF.out), (p29_ hF.out), (p30_ hF.out), (p31_ hF.out), (p32_ hF.out), (p33_ hF.out), (p34_ hF.out), (p35_ hF.out), (p36_ hF.out), (p37_ hF.out), (p38_ hF.out), (fun h => absurd ((p39_ hF.out) h 0 (by decide)) (by simp [hd])), (fun h => absurd ((p39_ hF.out) h 0 (by decide)) (by simp [hd]))⟩
    refine StepsF.cons (o := _) rfl (ws := []) (by kernel_rfl) (by decide) (fun d s b w hF hd hw K hK => ?_) ?_
    · have hk : d 38 = false := by cases e : d 38 with | false => rfl | true => exact absurd ((p39_ hF.out) e 1 (by decide)) (by simp [hd])
      have hB : Below Z1.heap.size Z1 w := (p0_ hF.out) hk
      dsimp only
      go_simp
      exact hK.out (ups s 59 (.int .i64 0)) b _ ⟨(fun _ => hB), (p1_ hF.out), (fun _ => rfl), (p3_ hF.out), (p4_ hF.out), (p5_ hF.out), (p6_ hF.out), (p7_ hF.out), (p8_ hF.out), (p9_ hF.out), (p10_ hF.out), (p11_ hF.out), (p12_ hF.out), (p13_ hF.out), (p14_ hF.out), (p15_ hF.out), (p16_ hF.out), (p17_ hF.out), (p18_ hF.out), (p19_ hF.out), (p20_ hF.out), (p21_ hF.out), (p22_ hF.out), (p23_ hF.out), (p24_ hF.out), (p25_ hF.out), (p26_ hF.out), (p27_ hF.out), (p28_ hF.out), (p29_ hF.out), (p30_ hF.out), (p31_ hF.out), (p32_ hF.out), (p33_ hF.out), (p34_ hF.out), (p35_ hF.out), (p36_ hF.out), (p37_ hF.out), (p38_ hF.out), (fun h => absurd ((p39_ hF.out) h 1 (by decide)) (by simp [hd])), (fun h => absurd ((p39_ hF.out) h 1 (by decide)) (by simp [hd]))⟩
    refine StepsF.cons (o := _) rfl (ws := [1]) (by kernel_rfl) (by decide) (fun d s b w hF hd hw K hK => ?_) ?_
    · have hk : d 38 = false := by cases e : d 38 with | false => rfl | true => exact absurd ((p39_ hF.out) e 2 (by decide)) (by simp [hd])
      have hB : Below Z1.heap.size Z1 w := (p0_ hF.out) hk
      have e1 : s 59 = .int .i64 0 := (p2_ hF.out) (hw 1 (by decide))
      dsimp only
      go_simp
      exact hK.out (ups (ups s 59 (.int .i64 0)) 60 (.int .i64 0)) b _ ⟨(fun _ => hB), (p1_ hF.out), (fun _ => rfl), (fun _ => rfl), (p4_ hF.out), (p5_ hF.out), (p6_ hF.out), (p7_ hF.out), (p8_ hF.out), (p9_ hF.out), (p10_ hF.out), (p11_ hF.out), (p12_ hF.out), (p13_ hF.out), (p14_ hF.out), (p15_ hF.out), (p16_ hF.out), (p17_ hF.out), (p18_ hF.out), (p19_ hF.out), (p20_ hF.out), (p21_ hF.out), (p22_ hF.out), (p23_ hF.out), (p24_ hF.out), (p25_ hF.out), (p26_ hF.out), (p27_ hF.out), (p28_ hF.out), (p29_ hF.out), (p30_ hF.out), (p31_ hF.out), (p32_ hF.out), (p33_ hF.out), (p34_ hF.out), (p35_ hF.out), (p36_ hF.out), (p37_ hF.out), (p38_ hF.out), (fun h => absurd ((p39_ hF.out) h 2 (by decide)) (by simp [hd])), (fun h => absurd ((p39_ hF.out) h 2 (by decide)) (by simp [hd]))⟩
    refine StepsF.cons (o := _) rfl (ws := [2]) (by kernel_rfl) (by decide) (fun d s b w hF hd hw K hK => ?_) ?_
    · have hk : d 38 = false := by cases e : d 38 with | false => rfl | true => exact absurd ((p39_ hF.out) e 3 (by decide)) (by simp [hd])
      have hB : Below Z1.heap.size Z1 w := (p0_ hF.out) hk
      have e2 : s 60 = .int .i64 0 := (p3_ hF.out) (hw 2 (by decide))
      dsimp only
      go_simp
      exact hK.out (ups (ups s 60 (.int .i64 0)) 61 (.pointer (some ⟨A, 0, none⟩))) b _ ⟨(fun _ => hB), (p1_ hF.out), (p2_ hF.out), (fun _ => rfl), (fun _ => rfl), (p5_ hF.out), (p6_ hF.out), (p7_ hF.out), (p8_ hF.out), (p9_ hF.out), (p10_ hF.out), (p11_ hF.out), (p12_ hF.out), (p13_ hF.out), (p14_ hF.out), (p15_ hF.out), (p16_ hF.out), (p17_ hF.out), (p18_ hF.out), (p19_ hF.out), (p20_ hF.out), (p21_ hF.out), (p22_ hF.out), (p23_ hF.out), (p24_ hF.out), (p25_ hF.out), (p26_ hF.out), (p27_ hF.out), (p28_ hF.out), (p29_ hF.out), (p30_ hF.out), (p31_ hF.out), (p32_ hF.out), (p33_ hF.out), (p34_ hF.out), (p35_ hF.out), (p36_ hF.out), (p37_ hF.out), (p38_ hF.out), (fun h => absurd ((p39_ hF.out) h 3 (by decide)) (by simp [hd])), (fun h => absurd ((p39_ hF.out) h 3 (by decide)) (by simp [hd]))⟩
    refine StepsF.cons (o := _) rfl (ws := [3]) (by kernel_rfl) (by decide) (fun d s b w hF hd hw K hK => ?_) ?_
    · have hk : d 38 = false := by cases e : d 38 with | false => rfl | true => exact absurd ((p39_ hF.out) e 4 (by decide)) (by simp [hd])
      have hB : Below Z1.heap.size Z1 w := (p0_ hF.out) hk
      have e3 : s 61 = .pointer (some ⟨A, 0, none⟩) := (p4_ hF.out) (hw 3 (by decide))
      dsimp only
      have oxa := HA.out.later hB
      have xa0 := oxa.at 0 _ rfl
      have xa1 := oxa.at 1 _ rfl
      have xa2 := oxa.at 2 _ rfl
      clear oxa
      have oxq := HQ.out.later hB
      have xq0 := oxq.at 0 _ rfl
      have xq1 := oxq.at 1 _ rfl
      have xq2 := oxq.at 2 _ rfl
      clear oxq
      have oxb := HB.out.later hB
      have xb0 := oxb.at 0 _ rfl
      clear oxb
      go_simp
      exact hK.out (ups (ups s 61 (.pointer (some ⟨A, 0, none⟩))) 62 (.int .i8 m0)) b _ ⟨(fun _ => hB), (p1_ hF.out), (p2_ hF.out), (p3_ hF.out), (fun _ => rfl), (fun _ => rfl), (p6_ hF.out), (p7_ hF.out), (p8_ hF.out), (p9_ hF.out), (p10_ hF.out), (p11_ hF.out), (p12_ hF.out), (p13_ hF.out), (p14_ hF.out), (p15_ hF.out), (p16_ hF.out), (p17_ hF.out), (p18_ hF.out), (p19_ hF.out), (p20_ hF.out), (p21_ hF.out), (p22_ hF.out), (p23_ hF.out), (p24_ hF.out), (p25_ hF.out), (p26_ hF.out), (p27_ hF.out), (p28_ hF.out), (p29_ hF.out), (p30_ hF.out), (p31_ hF.out), (p32_ hF.out), (p33_ hF.out), (p34_ hF.out), (p35_ hF.out), (p36_ hF.out), (p37_ hF.out), (p38_ hF.out), (fun h => absurd ((p39_ hF.out) h 4 (by decide)) (by simp [hd])), (fun h => absurd ((p39_ hF.out) h 4 (by decide)) (by simp [hd]))⟩
    refine StepsF.cons (o := _) rfl (ws := [4]) (by kernel_rfl) (by decide) (fun d s b w hF hd hw K hK => ?_) ?_
    · have hk : d 38 = false := by cases e : d 38 with | false => rfl | true => exact absurd ((p39_ hF.out) e 5 (by decide)) (by simp [hd])
      have hB : Below Z1.heap.size Z1 w := (p0_ hF.out) hk
      have e4 : s 62 = .int .i8 m0 := (p5_ hF.out) (hw 4 (by decide))
      dsimp only
      have cv := cm0.out
      go_simp
      first | rw [cv] | rw [IntWalk.i64_left, cv] | simp only [IntWalk.i64_left, cv] | (trace_state; fail)
      exact hK.out (ups (ups s 62 (.int .i8 m0)) 63 (.int .i64 m0)) b _ ⟨(fun _ => hB), (p1_ hF.out), (p2_ hF.out), (p3_ hF.out), (p4_ hF.out), (fun _ => rfl), (fun _ => rfl), (p7_ hF.out), (p8_ hF.out), (p9_ hF.out), (p10_ hF.out), (p11_ hF.out), (p12_ hF.out), (p13_ hF.out), (p14_ hF.out), (p15_ hF.out), (p16_ hF.out), (p17_ hF.out), (p18_ hF.out), (p19_ hF.out), (p20_ hF.out), (p21_ hF.out), (p22_ hF.out), (p23_ hF.out), (p24_ hF.out), (p25_ hF.out), (p26_ hF.out), (p27_ hF.out), (p28_ hF.out), (p29_ hF.out), (p30_ hF.out), (p31_ hF.out), (p32_ hF.out), (p33_ hF.out), (p34_ hF.out), (p35_ hF.out), (p36_ hF.out), (p37_ hF.out), (p38_ hF.out), (fun h => absurd ((p39_ hF.out) h 5 (by decide)) (by simp [hd])), (fun h => absurd ((p39_ hF.out) h 5 (by decide)) (by simp [hd]))⟩
    refine StepsF.cons (o := _) rfl (ws := []) (by kernel_rfl) (by decide) (fun d s b w hF hd hw K hK => ?_) ?_
    · have hk : d 38 = false := by cases e : d 38 with | false => rfl | true => exact absurd ((p39_ hF.out) e 6 (by decide)) (by simp [hd])
      have hB : Below Z1.heap.size Z1 w := (p0_ hF.out) hk
      dsimp only
      go_simp
      exact hK.out (ups s 64 (.pointer (some ⟨Q, 0, none⟩))) b _ ⟨(fun _ => hB), (p1_ hF.out), (p2_ hF.out), (p3_ hF.out), (p4_ hF.out), (p5_ hF.out), (p6_ hF.out), (fun _ => rfl), (p8_ hF.out), (p9_ hF.out), (p10_ hF.out), (p11_ hF.out), (p12_ hF.out), (p13_ hF.out), (p14_ hF.out), (p15_ hF.out), (p16_ hF.out), (p17_ hF.out), (p18_ hF.out), (p19_ hF.out), (p20_ hF.out), (p21_ hF.out), (p22_ hF.out), (p23_ hF.out), (p24_ hF.out), (p25_ hF.out), (p26_ hF.out), (p27_ hF.out), (p28_ hF.out), (p29_ hF.out), (p30_ hF.out), (p31_ hF.out), (p32_ hF.out), (p33_ hF.out), (p34_ hF.out), (p35_ hF.out), (p36_ hF.out), (p37_ hF.out), (p38_ hF.out), (fun h => absurd ((p39_ hF.out) h 6 (by decide)) (by simp [hd])), (fun h => absurd ((p39_ hF.out) h 6 (by decide)) (by simp [hd]))⟩
    refine StepsF.cons (o := _) rfl (ws := [6]) (by kernel_rfl) (by decide) (fun d s b w hF hd hw K hK => ?_) ?_
    · have hk : d 38 = false := by cases e : d 38 with | false => rfl | true => exact absurd ((p39_ hF.out) e 7 (by decide)) (by simp [hd])
      have hB : Below Z1.heap.size Z1 w := (p0_ hF.out) hk
      have e6 : s 64 = .pointer (some ⟨Q, 0, none⟩) := (p7_ hF.out) (hw 6 (by decide))
      dsimp only
      have oxa := HA.out.later hB
      have xa0 := oxa.at 0 _ rfl
      have xa1 := oxa.at 1 _ rfl
      have xa2 := oxa.at 2 _ rfl
      clear oxa
      have oxq := HQ.out.later hB
      have xq0 := oxq.at 0 _ rfl
      have xq1 := oxq.at 1 _ rfl
      have xq2 := oxq.at 2 _ rfl
      clear oxq
      have oxb := HB.out.later hB
      have xb0 := oxb.at 0 _ rfl
      clear oxb
      go_simp
      exact hK.out (ups (ups s 64 (.pointer (some ⟨Q, 0, none⟩))) 65 (.int .i8 q0)) b _ ⟨(fun _ => hB), (p1_ hF.out), (p2_ hF.out), (p3_ hF.out), (p4_ hF.out), (p5_ hF.out), (p6_ hF.out), (fun _ => rfl), (fun _ => rfl), (p9_ hF.out), (p10_ hF.out), (p11_ hF.out), (p12_ hF.out), (p13_ hF.out), (p14_ hF.out), (p15_ hF.out), (p16_ hF.out), (p17_ hF.out), (p18_ hF.out), (p19_ hF.out), (p20_ hF.out), (p21_ hF.out), (p22_ hF.out), (p23_ hF.out), (p24_ hF.out), (p25_ hF.out), (p26_ hF.out), (p27_ hF.out), (p28_ hF.out), (p29_ hF.out), (p30_ hF.out), (p31_ hF.out), (p32_ hF.out), (p33_ hF.out), (p34_ hF.out), (p35_ hF.out), (p36_ hF.out), (p37_ hF.out), (p38_ hF.out), (fun h => absurd ((p39_ hF.out) h 7 (by decide)) (by simp [hd])), (fun h => absurd ((p39_ hF.out) h 7 (by decide)) (by simp [hd]))⟩
    refine StepsF.cons (o := _) rfl (ws := [7]) (by kernel_rfl) (by decide) (fun d s b w hF hd hw K hK => ?_) ?_
    · have hk : d 38 = false := by cases e : d 38 with | false => rfl | true => exact absurd ((p39_ hF.out) e 8 (by decide)) (by simp [hd])
      have hB : Below Z1.heap.size Z1 w := (p0_ hF.out) hk
      have e7 : s 65 = .int .i8 q0 := (p8_ hF.out) (hw 7 (by decide))
      dsimp only
      have cv := cq0.out
      go_simp
      first | rw [cv] | rw [IntWalk.i64_left, cv] | simp only [IntWalk.i64_left, cv] | (trace_state; fail)
      exact hK.out (ups (ups s 65 (.int .i8 q0)) 66 (.int .i64 q0)) b _ ⟨(fun _ => hB), (p1_ hF.out), (p2_ hF.out), (p3_ hF.out), (p4_ hF.out), (p5_ hF.out), (p6_ hF.out), (p7_ hF.out), (fun _ => rfl), (fun _ => rfl), (p10_ hF.out), (p11_ hF.out), (p12_ hF.out), (p13_ hF.out), (p14_ hF.out), (p15_ hF.out), (p16_ hF.out), (p17_ hF.out), (p18_ hF.out), (p19_ hF.out), (p20_ hF.out), (p21_ hF.out), (p22_ hF.out), (p23_ hF.out), (p24_ hF.out), (p25_ hF.out), (p26_ hF.out), (p27_ hF.out), (p28_ hF.out), (p29_ hF.out), (p30_ hF.out), (p31_ hF.out), (p32_ hF.out), (p33_ hF.out), (p34_ hF.out), (p35_ hF.out), (p36_ hF.out), (p37_ hF.out), (p38_ hF.out), (fun h => absurd ((p39_ hF.out) h 8 (by decide)) (by simp [hd])), (fun h => absurd ((p39_ hF.out) h 8 (by decide)) (by simp [hd]))⟩
    refine StepsF.cons (o := _) rfl (ws := [5, 8]) (by kernel_rfl) (by decide) (fun d s b w hF hd hw K hK => ?_) ?_
    · have hk : d 38 = false := by cases e : d 38 with | false => rfl | true => exact absurd ((p39_ hF.out) e 9 (by decide)) (by simp [hd])
      have hB : Below Z1.heap.size Z1 w := (p0_ hF.out) hk
      have e5 : s 63 = .int .i64 m0 := (p6_ hF.out) (hw 5 (by decide))
      have e8 : s 66 = .int .i64 q0 := (p9_ hF.out) (hw 8 (by decide))
      dsimp only
      have cv := hp0.out
      go_simp
      first | rw [cv] | rw [IntWalk.i64_left, cv] | simp only [IntWalk.i64_left, cv] | (trace_state; fail)
      exact hK.out (ups (ups (ups s 63 (.int .i64 m0)) 66 (.int .i64 q0)) 67 (.int .i64 p0)) b _ ⟨(fun _ => hB), (p1_ hF.out), (p2_ hF.out), (p3_ hF.out), (p4_ hF.out), (p5_ hF.out), (fun _ => rfl), (p7_ hF.out), (p8_ hF.out), (fun _ => rfl), (fun _ => rfl), (p11_ hF.out), (p12_ hF.out), (p13_ hF.out), (p14_ hF.out), (p15_ hF.out), (p16_ hF.out), (p17_ hF.out), (p18_ hF.out), (p19_ hF.out), (p20_ hF.out), (p21_ hF.out), (p22_ hF.out), (p23_ hF.out), (p24_ hF.out), (p25_ hF.out), (p26_ hF.out), (p27_ hF.out), (p28_ hF.out), (p29_ hF.out), (p30_ hF.out), (p31_ hF.out), (p32_ hF.out), (p33_ hF.out), (p34_ hF.out), (p35_ hF.out), (p36_ hF.out), (p37_ hF.out), (p38_ hF.out), (fun h => absurd ((p39_ hF.out) h 9 (by decide)) (by simp [hd])), (fun h => absurd ((p39_ hF.out) h 9 (by decide)) (by simp [hd]))⟩
    refine StepsF.cons (o := _) rfl (ws := []) (by kernel_rfl) (by decide) (fun d s b w hF hd hw K hK => ?_) ?_
    · have hk : d 38 = false := by cases e : d 38 with | false => rfl | true => exact absurd ((p39_ hF.out) e 10 (by decide)) (by simp [hd])
      have hB : Below Z1.heap.size Z1 w := (p0_ hF.out) hk
      dsimp only
      go_simp
      exact hK.out (ups s 68 (.int .i64 0)) b _ ⟨(fun _ => hB), (p1_ hF.out), (p2_ hF.out), (p3_ hF.out), (p4_ hF.out), (p5_ hF.out), (p6_ hF.out), (p7_ hF.out), (p8_ hF.out), (p9_ hF.out), (p10_ hF.out), (fun _ => rfl), (p12_ hF.out), (p13_ hF.out), (p14_ hF.out), (p15_ hF.out), (p16_ hF.out), (p17_ hF.out), (p18_ hF.out), (p19_ hF.out), (p20_ hF.out), (p21_ hF.out), (p22_ hF.out), (p23_ hF.out), (p24_ hF.out), (p25_ hF.out), (p26_ hF.out), (p27_ hF.out), (p28_ hF.out), (p29_ hF.out), (p30_ hF.out), (p31_ hF.out), (p32_ hF.out), (p33_ hF.out), (p34_ hF.out), (p35_ hF.out), (p36_ hF.out), (p37_ hF.out), (p38_ hF.out), (fun h => absurd ((p39_ hF.out) h 10 (by decide)) (by simp [hd])), (fun h => absurd ((p39_ hF.out) h 10 (by decide)) (by simp [hd]))⟩
    refine StepsF.cons (o := _) rfl (ws := [10]) (by kernel_rfl) (by decide) (fun d s b w hF hd hw K hK => ?_) ?_
    · have hk : d 38 = false := by cases e : d 38 with | false => rfl | true => exact absurd ((p39_ hF.out) e 11 (by decide)) (by simp [hd])
      have hB : Below Z1.heap.size Z1 w := (p0_ hF.out) hk
      have e10 : s 68 = .int .i64 0 := (p11_ hF.out) (hw 10 (by decide))
      dsimp only
      go_simp
      exact hK.out (ups (ups s 68 (.int .i64 0)) 69 (.int .i64 0)) b _ ⟨(fun _ => hB), (p1_ hF.out), (p2_ hF.out), (p3_ hF.out), (p4_ hF.out), (p5_ hF.out), (p6_ hF.out), (p7_ hF.out), (p8_ hF.out), (p9_ hF.out), (p10_ hF.out), (fun _ => rfl), (fun _ => rfl), (p13_ hF.out), (p14_ hF.out), (p15_ hF.out), (p16_ hF.out), (p17_ hF.out), (p18_ hF.out), (p19_ hF.out), (p20_ hF.out), (p21_ hF.out), (p22_ hF.out), (p23_ hF.out), (p24_ hF.out), (p25_ hF.out), (p26_ hF.out), (p27_ hF.out), (p28_ hF.out), (p29_ hF.out), (p30_ hF.out), (p31_ hF.out), (p32_ hF.out), (p33_ hF.out), (p34_ hF.out), (p35_ hF.out), (p36_ hF.out), (p37_ hF.out), (p38_ hF.out), (fun h => absurd ((p39_ hF.out) h 11 (by decide)) (by simp [hd])), (fun h => absurd ((p39_ hF.out) h 11 (by decide)) (by simp [hd]))⟩
    refine StepsF.cons (o := _) rfl (ws := [11]) (by kernel_rfl) (by decide) (fun d s b w hF hd hw K hK => ?_) ?_
    · have hk : d 38 = false := by cases e : d 38 with | false => rfl | true => exact absurd ((p39_ hF.out) e 12 (by decide)) (by simp [hd])
      have hB : Below Z1.heap.size Z1 w := (p0_ hF.out) hk
      have e11 : s 69 = .int .i64 0 := (p12_ hF.out) (hw 11 (by decide))
      dsimp only
      go_simp
      exact hK.out (ups (ups s 69 (.int .i64 0)) 70 (.int .i64 1)) b _ ⟨(fun _ => hB), (p1_ hF.out), (p2_ hF.out), (p3_ hF.out), (p4_ hF.out), (p5_ hF.out), (p6_ hF.out), (p7_ hF.out), (p8_ hF.out), (p9_ hF.out), (p10_ hF.out), (p11_ hF.out), (fun _ => rfl), (fun _ => rfl), (p14_ hF.out), (p15_ hF.out), (p16_ hF.out), (p17_ hF.out), (p18_ hF.out), (p19_ hF.out), (p20_ hF.out), (p21_ hF.out), (p22_ hF.out), (p23_ hF.out), (p24_ hF.out), (p25_ hF.out), (p26_ hF.out), (p27_ hF.out), (p28_ hF.out), (p29_ hF.out), (p30_ hF.out), (p31_ hF.out), (p32_ hF.out), (p33_ hF.out), (p34_ hF.out), (p35_ hF.out), (p36_ hF.out), (p37_ hF.out), (p38_ hF.out), (fun h => absurd ((p39_ hF.out) h 12 (by decide)) (by simp [hd])), (fun h => absurd ((p39_ hF.out) h 12 (by decide)) (by simp [hd]))⟩
    refine StepsF.cons (o := _) rfl (ws := [12]) (by kernel_rfl) (by decide) (fun d s b w hF hd hw K hK => ?_) ?_
    · have hk : d 38 = false := by cases e : d 38 with | false => rfl | true => exact absurd ((p39_ hF.out) e 13 (by decide)) (by simp [hd])
      have hB : Below Z1.heap.size Z1 w := (p0_ hF.out) hk
      have e12 : s 70 = .int .i64 1 := (p13_ hF.out) (hw 12 (by decide))
      dsimp only
      go_simp
      exact hK.out (ups (ups s 70 (.int .i64 1)) 71 (.pointer (some ⟨A, 1, none⟩))) b _ ⟨(fun _ => hB), (p1_ hF.out), (p2_ hF.out), (p3_ hF.out), (p4_ hF.out), (p5_ hF.out), (p6_ hF.out), (p7_ hF.out), (p8_ hF.out), (p9_ hF.out), (p10_ hF.out), (p11_ hF.out), (p12_ hF.out), (fun _ => rfl), (fun _ => rfl), (p15_ hF.out), (p16_ hF.out), (p17_ hF.out), (p18_ hF.out), (p19_ hF.out), (p20_ hF.out), (p21_ hF.out), (p22_ hF.out), (p23_ hF.out), (p24_ hF.out), (p25_ hF.out), (p26_ hF.out), (p27_ hF.out), (p28_ hF.out), (p29_ hF.out), (p30_ hF.out), (p31_ hF.out), (p32_ hF.out), (p33_ hF.out), (p34_ hF.out), (p35_ hF.out), (p36_ hF.out), (p37_ hF.out), (p38_ hF.out), (fun h => absurd ((p39_ hF.out) h 13 (by decide)) (by simp [hd])), (fun h => absurd ((p39_ hF.out) h 13 (by decide)) (by simp [hd]))⟩
    refine StepsF.cons (o := _) rfl (ws := [13]) (by kernel_rfl) (by decide) (fun d s b w hF hd hw K hK => ?_) ?_
    · have hk : d 38 = false := by cases e : d 38 with | false => rfl | true => exact absurd ((p39_ hF.out) e 14 (by decide)) (by simp [hd])
      have hB : Below Z1.heap.size Z1 w := (p0_ hF.out) hk
      have e13 : s 71 = .pointer (some ⟨A, 1, none⟩) := (p14_ hF.out) (hw 13 (by decide))
      dsimp only
      have oxa := HA.out.later hB
      have xa0 := oxa.at 0 _ rfl
      have xa1 := oxa.at 1 _ rfl
      have xa2 := oxa.at 2 _ rfl
      clear oxa
      have oxq := HQ.out.later hB
      have xq0 := oxq.at 0 _ rfl
      have xq1 := oxq.at 1 _ rfl
      have xq2 := oxq.at 2 _ rfl
      clear oxq
      have oxb := HB.out.later hB
      have xb0 := oxb.at 0 _ rfl
      clear oxb
      go_simp
      exact hK.out (ups (ups s 71 (.pointer (some ⟨A, 1, none⟩))) 72 (.int .i8 m1)) b _ ⟨(fun _ => hB), (p1_ hF.out), (p2_ hF.out), (p3_ hF.out), (p4_ hF.out), (p5_ hF.out), (p6_ hF.out), (p7_ hF.out), (p8_ hF.out), (p9_ hF.out), (p10_ hF.out), (p11_ hF.out), (p12_ hF.out), (p13_ hF.out), (fun _ => rfl), (fun _ => rfl), (p16_ hF.out), (p17_ hF.out), (p18_ hF.out), (p19_ hF.out), (p20_ hF.out), (p21_ hF.out), (p22_ hF.out), (p23_ hF.out), (p24_ hF.out), (p25_ hF.out), (p26_ hF.out), (p27_ hF.out), (p28_ hF.out), (p29_ hF.out), (p30_ hF.out), (p31_ hF.out), (p32_ hF.out), (p33_ hF.out), (p34_ hF.out), (p35_ hF.out), (p36_ hF.out), (p37_ hF.out), (p38_ hF.out), (fun h => absurd ((p39_ hF.out) h 14 (by decide)) (by simp [hd])), (fun h => absurd ((p39_ hF.out) h 14 (by decide)) (by simp [hd]))⟩
    refine StepsF.cons (o := _) rfl (ws := [14]) (by kernel_rfl) (by decide) (fun d s b w hF hd hw K hK => ?_) ?_
    · have hk : d 38 = false := by cases e : d 38 with | false => rfl | true => exact absurd ((p39_ hF.out) e 15 (by decide)) (by simp [hd])
      have hB : Below Z1.heap.size Z1 w := (p0_ hF.out) hk
      have e14 : s 72 = .int .i8 m1 := (p15_ hF.out) (hw 14 (by decide))
      dsimp only
      have cv := cm1.out
      go_simp
      first | rw [cv] | rw [IntWalk.i64_left, cv] | simp only [IntWalk.i64_left, cv] | (trace_state; fail)
      exact hK.out (ups (ups s 72 (.int .i8 m1)) 73 (.int .i64 m1)) b _ ⟨(fun _ => hB), (p1_ hF.out), (p2_ hF.out), (p3_ hF.out), (p4_ hF.out), (p5_ hF.out), (p6_ hF.out), (p7_ hF.out), (p8_ hF.out), (p9_ hF.out), (p10_ hF.out), (p11_ hF.out), (p12_ hF.out), (p13_ hF.out), (p14_ hF.out), (fun _ => rfl), (fun _ => rfl), (p17_ hF.out), (p18_ hF.out), (p19_ hF.out), (p20_ hF.out), (p21_ hF.out), (p22_ hF.out), (p23_ hF.out), (p24_ hF.out), (p25_ hF.out), (p26_ hF.out), (p27_ hF.out), (p28_ hF.out), (p29_ hF.out), (p30_ hF.out), (p31_ hF.out), (p32_ hF.out), (p33_ hF.out), (p34_ hF.out), (p35_ hF.out), (p36_ hF.out), (p37_ hF.out), (p38_ hF.out), (fun h => absurd ((p39_ hF.out) h 15 (by decide)) (by simp [hd])), (fun h => absurd ((p39_ hF.out) h 15 (by decide)) (by simp [hd]))⟩
    refine StepsF.cons (o := _) rfl (ws := []) (by kernel_rfl) (by decide) (fun d s b w hF hd hw K hK => ?_) ?_
    · have hk : d 38 = false := by cases e : d 38 with | false => rfl | true => exact absurd ((p39_ hF.out) e 16 (by decide)) (by simp [hd])
      have hB : Below Z1.heap.size Z1 w := (p0_ hF.out) hk
      dsimp only
      go_simp
      exact hK.out (ups s 74 (.pointer (some ⟨Q, 1, none⟩))) b _ ⟨(fun _ => hB), (p1_ hF.out), (p2_ hF.out), (p3_ hF.out), (p4_ hF.out), (p5_ hF.out), (p6_ hF.out), (p7_ hF.out), (p8_ hF.out), (p9_ hF.out), (p10_ hF.out), (p11_ hF.out), (p12_ hF.out), (p13_ hF.out), (p14_ hF.out), (p15_ hF.out), (p16_ hF.out), (fun _ => rfl), (p18_ hF.out), (p19_ hF.out), (p20_ hF.out), (p21_ hF.out), (p22_ hF.out), (p23_ hF.out), (p24_ hF.out), (p25_ hF.out), (p26_ hF.out), (p27_ hF.out), (p28_ hF.out), (p29_ hF.out), (p30_ hF.out), (p31_ hF.out), (p32_ hF.out), (p33_ hF.out), (p34_ hF.out), (p35_ hF.out), (p36_ hF.out), (p37_ hF.out), (p38_ hF.out), (fun h => absurd ((p39_ hF.out) h 16 (by decide)) (by simp [hd])), (fun h => absurd ((p39_ hF.out) h 16 (by decide)) (by simp [hd]))⟩
    refine StepsF.cons (o := _) rfl (ws := [16]) (by kernel_rfl) (by decide) (fun d s b w hF hd hw K hK => ?_) ?_
    · have hk : d 38 = false := by cases e : d 38 with | false => rfl | true => exact absurd ((p39_ hF.out) e 17 (by decide)) (by simp [hd])
      have hB : Below Z1.heap.size Z1 w := (p0_ hF.out) hk
      have e16 : s 74 = .pointer (some ⟨Q, 1, none⟩) := (p17_ hF.out) (hw 16 (by decide))
      dsimp only
      have oxa := HA.out.later hB
      have xa0 := oxa.at 0 _ rfl
      have xa1 := oxa.at 1 _ rfl
      have xa2 := oxa.at 2 _ rfl
      clear oxa
      have oxq := HQ.out.later hB
      have xq0 := oxq.at 0 _ rfl
      have xq1 := oxq.at 1 _ rfl
      have xq2 := oxq.at 2 _ rfl
      clear oxq
      have oxb := HB.out.later hB
      have xb0 := oxb.at 0 _ rfl
      clear oxb
      go_simp
      exact hK.out (ups (ups s 74 (.pointer (some ⟨Q, 1, none⟩))) 75 (.int .i8 q1)) b _ ⟨(fun _ => hB), (p1_ hF.out), (p2_ hF.out), (p3_ hF.out), (p4_ hF.out), (p5_ hF.out), (p6_ hF.out), (p7_ hF.out), (p8_ hF.out), (p9_ hF.out), (p10_ hF.out), (p11_ hF.out), (p12_ hF.out), (p13_ hF.out), (p14_ hF.out), (p15_ hF.out), (p16_ hF.out), (fun _ => rfl), (fun _ => rfl), (p19_ hF.out), (p20_ hF.out), (p21_ hF.out), (p22_ hF.out), (p23_ hF.out), (p24_ hF.out), (p25_ hF.out), (p26_ hF.out), (p27_ hF.out), (p28_ hF.out), (p29_ hF.out), (p30_ hF.out), (p31_ hF.out), (p32_ hF.out), (p33_ hF.out), (p34_ hF.out), (p35_ hF.out), (p36_ hF.out), (p37_ hF.out), (p38_ hF.out), (fun h => absurd ((p39_ hF.out) h 17 (by decide)) (by simp [hd])), (fun h => absurd ((p39_ hF.out) h 17 (by decide)) (by simp [hd]))⟩
    refine StepsF.cons (o := _) rfl (ws := [17]) (by kernel_rfl) (by decide) (fun d s b w hF hd hw K hK => ?_) ?_
    · have hk : d 38 = false := by cases e : d 38 with | false => rfl | true => exact absurd ((p39_ hF.out) e 18 (by decide)) (by simp [hd])
      have hB : Below Z1.heap.size Z1 w := (p0_ hF.out) hk
      have e17 : s 75 = .int .i8 q1 := (p18_ hF.out) (hw 17 (by decide))
      dsimp only
      have cv := cq1.out
      go_simp
      first | rw [cv] | rw [IntWalk.i64_left, cv] | simp only [IntWalk.i64_left, cv] | (trace_state; fail)
      exact hK.out (ups (ups s 75 (.int .i8 q1)) 76 (.int .i64 q1)) b _ ⟨(fun _ => hB), (p1_ hF.out), (p2_ hF.out), (p3_ hF.out), (p4_ hF.out), (p5_ hF.out), (p6_ hF.out), (p7_ hF.out), (p8_ hF.out), (p9_ hF.out), (p10_ hF.out), (p11_ hF.out), (p12_ hF.out), (p13_ hF.out), (p14_ hF.out), (p15_ hF.out), (p16_ hF.out), (p17_ hF.out), (fun _ => rfl), (fun _ => rfl), (p20_ hF.out), (p21_ hF.out), (p22_ hF.out), (p23_ hF.out), (p24_ hF.out), (p25_ hF.out), (p26_ hF.out), (p27_ hF.out), (p28_ hF.out), (p29_ hF.out), (p30_ hF.out), (p31_ hF.out), (p32_ hF.out), (p33_ hF.out), (p34_ hF.out), (p35_ hF.out), (p36_ hF.out), (p37_ hF.out), (p38_ hF.out), (fun h => absurd ((p39_ hF.out) h 18 (by decide)) (by simp [hd])), (fun h => absurd ((p39_ hF.out) h 18 (by decide)) (by simp [hd]))⟩
    refine StepsF.cons (o := _) rfl (ws := [15, 18]) (by kernel_rfl) (by decide) (fun d s b w hF hd hw K hK => ?_) ?_
    · have hk : d 38 = false := by cases e : d 38 with | false => rfl | true => exact absurd ((p39_ hF.out) e 19 (by decide)) (by simp [hd])
      have hB : Below Z1.heap.size Z1 w := (p0_ hF.out) hk
      have e15 : s 73 = .int .i64 m1 := (p16_ hF.out) (hw 15 (by decide))
      have e18 : s 76 = .int .i64 q1 := (p19_ hF.out) (hw 18 (by decide))
      dsimp only
      have cv := hp1.out
      go_simp
      first | rw [cv] | rw [IntWalk.i64_left, cv] | simp only [IntWalk.i64_left, cv] | (trace_state; fail)
      exact hK.out (ups (ups (ups s 73 (.int .i64 m1)) 76 (.int .i64 q1)) 77 (.int .i64 p1)) b _ ⟨(fun _ => hB), (p1_ hF.out), (p2_ hF.out), (p3_ hF.out), (p4_ hF.out), (p5_ hF.out), (p6_ hF.out), (p7_ hF.out), (p8_ hF.out), (p9_ hF.out), (p10_ hF.out), (p11_ hF.out), (p12_ hF.out), (p13_ hF.out), (p14_ hF.out), (p15_ hF.out), (fun _ => rfl), (p17_ hF.out), (p18_ hF.out), (fun _ => rfl), (fun _ => rfl), (p21_ hF.out), (p22_ hF.out), (p23_ hF.out), (p24_ hF.out), (p25_ hF.out), (p26_ hF.out), (p27_ hF.out), (p28_ hF.out), (p29_ hF.out), (p30_ hF.out), (p31_ hF.out), (p32_ hF.out), (p33_ hF.out), (p34_ hF.out), (p35_ hF.out), (p36_ hF.out), (p37_ hF.out), (p38_ hF.out), (fun h => absurd ((p39_ hF.out) h 19 (by decide)) (by simp [hd])), (fun h => absurd ((p39_ hF.out) h 19 (by decide)) (by simp [hd]))⟩
    refine StepsF.cons (o := _) rfl (ws := [9, 19]) (by kernel_rfl) (by decide) (fun d s b w hF hd hw K hK => ?_) ?_
    · have hk : d 38 = false := by cases e : d 38 with | false => rfl | true => exact absurd ((p39_ hF.out) e 20 (by decide)) (by simp [hd])
      have hB : Below Z1.heap.size Z1 w := (p0_ hF.out) hk
      have e9 : s 67 = .int .i64 p0 := (p10_ hF.out) (hw 9 (by decide))
      have e19 : s 77 = .int .i64 p1 := (p20_ hF.out) (hw 19 (by decide))
      dsimp only
      have cv := hs0.out
      go_simp
      first | rw [cv] | rw [IntWalk.i64_left, cv] | simp only [IntWalk.i64_left, cv] | (trace_state; fail)
      exact hK.out (ups (ups (ups s 67 (.int .i64 p0)) 77 (.int .i64 p1)) 78 (.int .i64 s0)) b _ ⟨(fun _ => hB), (p1_ hF.out), (p2_ hF.out), (p3_ hF.out), (p4_ hF.out), (p5_ hF.out), (p6_ hF.out), (p7_ hF.out), (p8_ hF.out), (p9_ hF.out), (fun _ => rfl), (p11_ hF.out), (p12_ hF.out), (p13_ hF.out), (p14_ hF.out), (p15_ hF.out), (p16_ hF.out), (p17_ hF.out), (p18_ hF.out), (p19_ hF.out), (fun _ => rfl), (fun _ => rfl), (p22_ hF.out), (p23_ hF.out), (p24_ hF.out), (p25_ hF.out), (p26_ hF.out), (p27_ hF.out), (p28_ hF.out), (p29_ hF.out), (p30_ hF.out), (p31_ hF.out), (p32_ hF.out), (p33_ hF.out), (p34_ hF.out), (p35_ hF.out), (p36_ hF.out), (p37_ hF.out), (p38_ hF.out), (fun h => absurd ((p39_ hF.out) h 20 (by decide)) (by simp [hd])), (fun h => absurd ((p39_ hF.out) h 20 (by decide)) (by simp [hd]))⟩
    refine StepsF.cons (o := _) rfl (ws := []) (by kernel_rfl) (by decide) (fun d s b w hF hd hw K hK => ?_) ?_
    · have hk : d 38 = false := by cases e : d 38 with | false => rfl | true => exact absurd ((p39_ hF.out) e 21 (by decide)) (by simp [hd])
      have hB : Below Z1.heap.size Z1 w := (p0_ hF.out) hk
      dsimp only
      go_simp
      exact hK.out (ups s 79 (.int .i64 0)) b _ ⟨(fun _ => hB), (p1_ hF.out), (p2_ hF.out), (p3_ hF.out), (p4_ hF.out), (p5_ hF.out), (p6_ hF.out), (p7_ hF.out), (p8_ hF.out), (p9_ hF.out), (p10_ hF.out), (p11_ hF.out), (p12_ hF.out), (p13_ hF.out), (p14_ hF.out), (p15_ hF.out), (p16_ hF.out), (p17_ hF.out), (p18_ hF.out), (p19_ hF.out), (p20_ hF.out), (p21_ hF.out), (fun _ => rfl), (p23_ hF.out), (p24_ hF.out), (p25_ hF.out), (p26_ hF.out), (p27_ hF.out), (p28_ hF.out), (p29_ hF.out), (p30_ hF.out), (p31_ hF.out), (p32_ hF.out), (p33_ hF.out), (p34_ hF.out), (p35_ hF.out), (p36_ hF.out), (p37_ hF.out), (p38_ hF.out), (fun h => absurd ((p39_ hF.out) h 21 (by decide)) (by simp [hd])), (fun h => absurd ((p39_ hF.out) h 21 (by decide)) (by simp [hd]))⟩
    refine StepsF.cons (o := _) rfl (ws := [21]) (by kernel_rfl) (by decide) (fun d s b w hF hd hw K hK => ?_) ?_
    · have hk : d 38 = false := by cases e : d 38 with | false => rfl | true => exact absurd ((p39_ hF.out) e 22 (by decide)) (by simp [hd])
      have hB : Below Z1.heap.size Z1 w := (p0_ hF.out) hk
      have e21 : s 79 = .int .i64 0 := (p22_ hF.out) (hw 21 (by decide))
      dsimp only
      go_simp
      exact hK.out (ups (ups s 79 (.int .i64 0)) 80 (.int .i64 0)) b _ ⟨(fun _ => hB), (p1_ hF.out), (p2_ hF.out), (p3_ hF.out), (p4_ hF.out), (p5_ hF.out), (p6_ hF.out), (p7_ hF.out), (p8_ hF.out), (p9_ hF.out), (p10_ hF.out), (p11_ hF.out), (p12_ hF.out), (p13_ hF.out), (p14_ hF.out), (p15_ hF.out), (p16_ hF.out), (p17_ hF.out), (p18_ hF.out), (p19_ hF.out), (p20_ hF.out), (p21_ hF.out), (fun _ => rfl), (fun _ => rfl), (p24_ hF.out), (p25_ hF.out), (p26_ hF.out), (p27_ hF.out), (p28_ hF.out), (p29_ hF.out), (p30_ hF.out), (p31_ hF.out), (p32_ hF.out), (p33_ hF.out), (p34_ hF.out), (p35_ hF.out), (p36_ hF.out), (p37_ hF.out), (p38_ hF.out), (fun h => absurd ((p39_ hF.out) h 22 (by decide)) (by simp [hd])), (fun h => absurd ((p39_ hF.out) h 22 (by decide)) (by simp [hd]))⟩
    refine StepsF.cons (o := _) rfl (ws := [22]) (by kernel_rfl) (by decide) (fun d s b w hF hd hw K hK => ?_) ?_
    · have hk : d 38 = false := by cases e : d 38 with | false => rfl | true => exact absurd ((p39_ hF.out) e 23 (by decide)) (by simp [hd])
      have hB : Below Z1.heap.size Z1 w := (p0_ hF.out) hk
      have e22 : s 80 = .int .i64 0 := (p23_ hF.out) (hw 22 (by decide))
      dsimp only
      go_simp
      exact hK.out (ups (ups s 80 (.int .i64 0)) 81 (.int .i64 2)) b _ ⟨(fun _ => hB), (p1_ hF.out), (p2_ hF.out), (p3_ hF.out), (p4_ hF.out), (p5_ hF.out), (p6_ hF.out), (p7_ hF.out), (p8_ hF.out), (p9_ hF.out), (p10_ hF.out), (p11_ hF.out), (p12_ hF.out), (p13_ hF.out), (p14_ hF.out), (p15_ hF.out), (p16_ hF.out), (p17_ hF.out), (p18_ hF.out), (p19_ hF.out), (p20_ hF.out), (p21_ hF.out), (p22_ hF.out), (fun _ => rfl), (fun _ => rfl), (p25_ hF.out), (p26_ hF.out), (p27_ hF.out), (p28_ hF.out), (p29_ hF.out), (p30_ hF.out), (p31_ hF.out), (p32_ hF.out), (p33_ hF.out), (p34_ hF.out), (p35_ hF.out), (p36_ hF.out), (p37_ hF.out), (p38_ hF.out), (fun h => absurd ((p39_ hF.out) h 23 (by decide)) (by simp [hd])), (fun h => absurd ((p39_ hF.out) h 23 (by decide)) (by simp [hd]))⟩
    refine StepsF.cons (o := _) rfl (ws := [23]) (by kernel_rfl) (by decide) (fun d s b w hF hd hw K hK => ?_) ?_
    · have hk : d 38 = false := by cases e : d 38 with | false => rfl | true => exact absurd ((p39_ hF.out) e 24 (by decide)) (by simp [hd])
      have hB : Below Z1.heap.size Z1 w := (p0_ hF.out) hk
      have e23 : s 81 = .int .i64 2 := (p24_ hF.out) (hw 23 (by decide))
      dsimp only
      go_simp
      exact hK.out (ups (ups s 81 (.int .i64 2)) 82 (.pointer (some ⟨A, 2, none⟩))) b _ ⟨(fun _ => hB), (p1_ hF.out), (p2_ hF.out), (p3_ hF.out), (p4_ hF.out), (p5_ hF.out), (p6_ hF.out), (p7_ hF.out), (p8_ hF.out), (p9_ hF.out), (p10_ hF.out), (p11_ hF.out), (p12_ hF.out), (p13_ hF.out), (p14_ hF.out), (p15_ hF.out), (p16_ hF.out), (p17_ hF.out), (p18_ hF.out), (p19_ hF.out), (p20_ hF.out), (p21_ hF.out), (p22_ hF.out), (p23_ hF.out), (fun _ => rfl), (fun _ => rfl), (p26_ hF.out), (p27_ hF.out), (p28_ hF.out), (p29_ hF.out), (p30_ hF.out), (p31_ hF.out), (p32_ hF.out), (p33_ hF.out), (p34_ hF.out), (p35_ hF.out), (p36_ hF.out), (p37_ hF.out), (p38_ hF.out), (fun h => absurd ((p39_ hF.out) h 24 (by decide)) (by simp [hd])), (fun h => absurd ((p39_ hF.out) h 24 (by decide)) (by simp [hd]))⟩
    refine StepsF.cons (o := _) rfl (ws := [24]) (by kernel_rfl) (by decide) (fun d s b w hF hd hw K hK => ?_) ?_
    · have hk : d 38 = false := by cases e : d 38 with | false => rfl | true => exact absurd ((p39_ hF.out) e 25 (by decide)) (by simp [hd])
      have hB : Below Z1.heap.size Z1 w := (p0_ hF.out) hk
      have e24 : s 82 = .pointer (some ⟨A, 2, none⟩) := (p25_ hF.out) (hw 24 (by decide))
      dsimp only
      have oxa := HA.out.later hB
      have xa0 := oxa.at 0 _ rfl
      have xa1 := oxa.at 1 _ rfl
      have xa2 := oxa.at 2 _ rfl
      clear oxa
      have oxq := HQ.out.later hB
      have xq0 := oxq.at 0 _ rfl
      have xq1 := oxq.at 1 _ rfl
      have xq2 := oxq.at 2 _ rfl
      clear oxq
      have oxb := HB.out.later hB
      have xb0 := oxb.at 0 _ rfl
      clear oxb
      go_simp
      exact hK.out (ups (ups s 82 (.pointer (some ⟨A, 2, none⟩))) 83 (.int .i8 m2)) b _ ⟨(fun _ => hB), (p1_ hF.out), (p2_ hF.out), (p3_ hF.out), (p4_ hF.out), (p5_ hF.out), (p6_ hF.out), (p7_ hF.out), (p8_ hF.out), (p9_ hF.out), (p10_ hF.out), (p11_ hF.out), (p12_ hF.out), (p13_ hF.out), (p14_ hF.out), (p15_ hF.out), (p16_ hF.out), (p17_ hF.out), (p18_ hF.out), (p19_ hF.out), (p20_ hF.out), (p21_ hF.out), (p22_ hF.out), (p23_ hF.out), (p24_ hF.out), (fun _ => rfl), (fun _ => rfl), (p27_ hF.out), (p28_ hF.out), (p29_ hF.out), (p30_ hF.out), (p31_ hF.out), (p32_ hF.out), (p33_ hF.out), (p34_ hF.out), (p35_ hF.out), (p36_ hF.out), (p37_ hF.out), (p38_ hF.out), (fun h => absurd ((p39_ hF.out) h 25 (by decide)) (by simp [hd])), (fun h => absurd ((p39_ hF.out) h 25 (by decide)) (by simp [hd]))⟩
    refine StepsF.cons (o := _) rfl (ws := [25]) (by kernel_rfl) (by decide) (fun d s b w hF hd hw K hK => ?_) ?_
    · have hk : d 38 = false := by cases e : d 38 with | false => rfl | true => exact absurd ((p39_ hF.out) e 26 (by decide)) (by simp [hd])
      have hB : Below Z1.heap.size Z1 w := (p0_ hF.out) hk
      have e25 : s 83 = .int .i8 m2 := (p26_ hF.out) (hw 25 (by decide))
      dsimp only
      have cv := cm2.out
      go_simp
      first | rw [cv] | rw [IntWalk.i64_left, cv] | simp only [IntWalk.i64_left, cv] | (trace_state; fail)
      exact hK.out (ups (ups s 83 (.int .i8 m2)) 84 (.int .i64 m2)) b _ ⟨(fun _ => hB), (p1_ hF.out), (p2_ hF.out), (p3_ hF.out), (p4_ hF.out), (p5_ hF.out), (p6_ hF.out), (p7_ hF.out), (p8_ hF.out), (p9_ hF.out), (p10_ hF.out), (p11_ hF.out), (p12_ hF.out), (p13_ hF.out), (p14_ hF.out), (p15_ hF.out), (p16_ hF.out), (p17_ hF.out), (p18_ hF.out), (p19_ hF.out), (p20_ hF.out), (p21_ hF.out), (p22_ hF.out), (p23_ hF.out), (p24_ hF.out), (p25_ hF.out), (fun _ => rfl), (fun _ => rfl), (p28_ hF.out), (p29_ hF.out), (p30_ hF.out), (p31_ hF.out), (p32_ hF.out), (p33_ hF.out), (p34_ hF.out), (p35_ hF.out), (p36_ hF.out), (p37_ hF.out), (p38_ hF.out), (fun h => absurd ((p39_ hF.out) h 26 (by decide)) (by simp [hd])), (fun h => absurd ((p39_ hF.out) h 26 (by decide)) (by simp [hd]))⟩
    refine StepsF.cons (o := _) rfl (ws := []) (by kernel_rfl) (by decide) (fun d s b w hF hd hw K hK => ?_) ?_
    · have hk : d 38 = false := by cases e : d 38 with | false => rfl | true => exact absurd ((p39_ hF.out) e 27 (by decide)) (by simp [hd])
      have hB : Below Z1.heap.size Z1 w := (p0_ hF.out) hk
      dsimp only
      go_simp
      exact hK.out (ups s 85 (.pointer (some ⟨Q, 2, none⟩))) b _ ⟨(fun _ => hB), (p1_ hF.out), (p2_ hF.out), (p3_ hF.out), (p4_ hF.out), (p5_ hF.out), (p6_ hF.out), (p7_ hF.out), (p8_ hF.out), (p9_ hF.out), (p10_ hF.out), (p11_ hF.out), (p12_ hF.out), (p13_ hF.out), (p14_ hF.out), (p15_ hF.out), (p16_ hF.out), (p17_ hF.out), (p18_ hF.out), (p19_ hF.out), (p20_ hF.out), (p21_ hF.out), (p22_ hF.out), (p23_ hF.out), (p24_ hF.out), (p25_ hF.out), (p26_ hF.out), (p27_ hF.out), (fun _ => rfl), (p29_ hF.out), (p30_ hF.out), (p31_ hF.out), (p32_ hF.out), (p33_ hF.out), (p34_ hF.out), (p35_ hF.out), (p36_ hF.out), (p37_ hF.out), (p38_ hF.out), (fun h => absurd ((p39_ hF.out) h 27 (by decide)) (by simp [hd])), (fun h => absurd ((p39_ hF.out) h 27 (by decide)) (by simp [hd]))⟩
    refine StepsF.cons (o := _) rfl (ws := [27]) (by kernel_rfl) (by decide) (fun d s b w hF hd hw K hK => ?_) ?_
    · have hk : d 38 = false := by cases e : d 38 with | false => rfl | true => exact absurd ((p39_ hF.out) e 28 (by decide)) (by simp [hd])
      have hB : Below Z1.heap.size Z1 w := (p0_ hF.out) hk
      have e27 : s 85 = .pointer (some ⟨Q, 2, none⟩) := (p28_ hF.out) (hw 27 (by decide))
      dsimp only
      have oxa := HA.out.later hB
      have xa0 := oxa.at 0 _ rfl
      have xa1 := oxa.at 1 _ rfl
      have xa2 := oxa.at 2 _ rfl
      clear oxa
      have oxq := HQ.out.later hB
      have xq0 := oxq.at 0 _ rfl
      have xq1 := oxq.at 1 _ rfl
      have xq2 := oxq.at 2 _ rfl
      clear oxq
      have oxb := HB.out.later hB
      have xb0 := oxb.at 0 _ rfl
      clear oxb
      go_simp
      exact hK.out (ups (ups s 85 (.pointer (some ⟨Q, 2, none⟩))) 86 (.int .i8 q2)) b _ ⟨(fun _ => hB), (p1_ hF.out), (p2_ hF.out), (p3_ hF.out), (p4_ hF.out), (p5_ hF.out), (p6_ hF.out), (p7_ hF.out), (p8_ hF.out), (p9_ hF.out), (p10_ hF.out), (p11_ hF.out), (p12_ hF.out), (p13_ hF.out), (p14_ hF.out), (p15_ hF.out), (p16_ hF.out), (p17_ hF.out), (p18_ hF.out), (p19_ hF.out), (p20_ hF.out), (p21_ hF.out), (p22_ hF.out), (p23_ hF.out), (p24_ hF.out), (p25_ hF.out), (p26_ hF.out), (p27_ hF.out), (fun _ => rfl), (fun _ => rfl), (p30_ hF.out), (p31_ hF.out), (p32_ hF.out), (p33_ hF.out), (p34_ hF.out), (p35_ hF.out), (p36_ hF.out), (p37_ hF.out), (p38_ hF.out), (fun h => absurd ((p39_ hF.out) h 28 (by decide)) (by simp [hd])), (fun h => absurd ((p39_ hF.out) h 28 (by decide)) (by simp [hd]))⟩
    refine StepsF.cons (o := _) rfl (ws := [28]) (by kernel_rfl) (by decide) (fun d s b w hF hd hw K hK => ?_) ?_
    · have hk : d 38 = false := by cases e : d 38 with | false => rfl | true => exact absurd ((p39_ hF.out) e 29 (by decide)) (by simp [hd])
      have hB : Below Z1.heap.size Z1 w := (p0_ hF.out) hk
      have e28 : s 86 = .int .i8 q2 := (p29_ hF.out) (hw 28 (by decide))
      dsimp only
      have cv := cq2.out
      go_simp
      first | rw [cv] | rw [IntWalk.i64_left, cv] | simp only [IntWalk.i64_left, cv] | (trace_state; fail)
      exact hK.out (ups (ups s 86 (.int .i8 q2)) 87 (.int .i64 q2)) b _ ⟨(fun _ => hB), (p1_ hF.out), (p2_ hF.out), (p3_ hF.out), (p4_ hF.out), (p5_ hF.out), (p6_ hF.out), (p7_ hF.out), (p8_ hF.out), (p9_ hF.out), (p10_ hF.out), (p11_ hF.out), (p12_ hF.out), (p13_ hF.out), (p14_ hF.out), (p15_ hF.out), (p16_ hF.out), (p17_ hF.out), (p18_ hF.out), (p19_ hF.out), (p20_ hF.out), (p21_ hF.out), (p22_ hF.out), (p23_ hF.out), (p24_ hF.out), (p25_ hF.out), (p26_ hF.out), (p27_ hF.out), (p28_ hF.out), (fun _ => rfl), (fun _ => rfl), (p31_ hF.out), (p32_ hF.out), (p33_ hF.out), (p34_ hF.out), (p35_ hF.out), (p36_ hF.out), (p37_ hF.out), (p38_ hF.out), (fun h => absurd ((p39_ hF.out) h 29 (by decide)) (by simp [hd])), (fun h => absurd ((p39_ hF.out) h 29 (by decide)) (by simp [hd]))⟩
    refine StepsF.cons (o := _) rfl (ws := [26, 29]) (by kernel_rfl) (by decide) (fun d s b w hF hd hw K hK => ?_) ?_
    · have hk : d 38 = false := by cases e : d 38 with | false => rfl | true => exact absurd ((p39_ hF.out) e 30 (by decide)) (by simp [hd])
      have hB : Below Z1.heap.size Z1 w := (p0_ hF.out) hk
      have e26 : s 84 = .int .i64 m2 := (p27_ hF.out) (hw 26 (by decide))
      have e29 : s 87 = .int .i64 q2 := (p30_ hF.out) (hw 29 (by decide))
      dsimp only
      have cv := hp2.out
      go_simp
      first | rw [cv] | rw [IntWalk.i64_left, cv] | simp only [IntWalk.i64_left, cv] | (trace_state; fail)
      exact hK.out (ups (ups (ups s 84 (.int .i64 m2)) 87 (.int .i64 q2)) 88 (.int .i64 p2)) b _ ⟨(fun _ => hB), (p1_ hF.out), (p2_ hF.out), (p3_ hF.out), (p4_ hF.out), (p5_ hF.out), (p6_ hF.out), (p7_ hF.out), (p8_ hF.out), (p9_ hF.out), (p10_ hF.out), (p11_ hF.out), (p12_ hF.out), (p13_ hF.out), (p14_ hF.out), (p15_ hF.out), (p16_ hF.out), (p17_ hF.out), (p18_ hF.out), (p19_ hF.out), (p20_ hF.out), (p21_ hF.out), (p22_ hF.out), (p23_ hF.out), (p24_ hF.out), (p25_ hF.out), (p26_ hF.out), (fun _ => rfl), (p28_ hF.out), (p29_ hF.out), (fun _ => rfl), (fun _ => rfl), (p32_ hF.out), (p33_ hF.out), (p34_ hF.out), (p35_ hF.out), (p36_ hF.out), (p37_ hF.out), (p38_ hF.out), (fun h => absurd ((p39_ hF.out) h 30 (by decide)) (by simp [hd])), (fun h => absurd ((p39_ hF.out) h 30 (by decide)) (by simp [hd]))⟩
    refine StepsF.cons (o := _) rfl (ws := [20, 30]) (by kernel_rfl) (by decide) (fun d s b w hF hd hw K hK => ?_) ?_
    · have hk : d 38 = false := by cases e : d 38 with | false => rfl | true => exact absurd ((p39_ hF.out) e 31 (by decide)) (by simp [hd])
      have hB : Below Z1.heap.size Z1 w := (p0_ hF.out) hk
      have e20 : s 78 = .int .i64 s0 := (p21_ hF.out) (hw 20 (by decide))
      have e30 : s 88 = .int .i64 p2 := (p31_ hF.out) (hw 30 (by decide))
      dsimp only
      have cv := hu0.out
      go_simp
      first | rw [cv] | rw [IntWalk.i64_left, cv] | simp only [IntWalk.i64_left, cv] | (trace_state; fail)
      exact hK.out (ups (ups (ups s 78 (.int .i64 s0)) 88 (.int .i64 p2)) 89 (.int .i64 v0)) b _ ⟨(fun _ => hB), (p1_ hF.out), (p2_ hF.out), (p3_ hF.out), (p4_ hF.out), (p5_ hF.out), (p6_ hF.out), (p7_ hF.out), (p8_ hF.out), (p9_ hF.out), (p10_ hF.out), (p11_ hF.out), (p12_ hF.out), (p13_ hF.out), (p14_ hF.out), (p15_ hF.out), (p16_ hF.out), (p17_ hF.out), (p18_ hF.out), (p19_ hF.out), (p20_ hF.out), (fun _ => rfl), (p22_ hF.out), (p23_ hF.out), (p24_ hF.out), (p25_ hF.out), (p26_ hF.out), (p27_ hF.out), (p28_ hF.out), (p29_ hF.out), (p30_ hF.out), (fun _ => rfl), (fun _ => rfl), (p33_ hF.out), (p34_ hF.out), (p35_ hF.out), (p36_ hF.out), (p37_ hF.out), (p38_ hF.out), (fun h => absurd ((p39_ hF.out) h 31 (by decide)) (by simp [hd])), (fun h => absurd ((p39_ hF.out) h 31 (by decide)) (by simp [hd]))⟩
    refine StepsF.cons (o := _) rfl (ws := []) (by kernel_rfl) (by decide) (fun d s b w hF hd hw K hK => ?_) ?_
    · have hk : d 38 = false := by cases e : d 38 with | false => rfl | true => exact absurd ((p39_ hF.out) e 32 (by decide)) (by simp [hd])
      have hB : Below Z1.heap.size Z1 w := (p0_ hF.out) hk
      dsimp only
      go_simp
      exact hK.out (ups s 90 (.int .i64 0)) b _ ⟨(fun _ => hB), (p1_ hF.out), (p2_ hF.out), (p3_ hF.out), (p4_ hF.out), (p5_ hF.out), (p6_ hF.out), (p7_ hF.out), (p8_ hF.out), (p9_ hF.out), (p10_ hF.out), (p11_ hF.out), (p12_ hF.out), (p13_ hF.out), (p14_ hF.out), (p15_ hF.out), (p16_ hF.out), (p17_ hF.out), (p18_ hF.out), (p19_ hF.out), (p20_ hF.out), (p21_ hF.out), (p22_ hF.out), (p23_ hF.out), (p24_ hF.out), (p25_ hF.out), (p26_ hF.out), (p27_ hF.out), (p28_ hF.out), (p29_ hF.out), (p30_ hF.out), (p31_ hF.out), (p32_ hF.out), (fun _ => rfl), (p34_ hF.out), (p35_ hF.out), (p36_ hF.out), (p37_ hF.out), (p38_ hF.out), (fun h => absurd ((p39_ hF.out) h 32 (by decide)) (by simp [hd])), (fun h => absurd ((p39_ hF.out) h 32 (by decide)) (by simp [hd]))⟩
    refine StepsF.cons (o := _) rfl (ws := [32]) (by kernel_rfl) (by decide) (fun d s b w hF hd hw K hK => ?_) ?_
    · have hk : d 38 = false := by cases e : d 38 with | false => rfl | true => exact absurd ((p39_ hF.out) e 33 (by decide)) (by simp [hd])
      have hB : Below Z1.heap.size Z1 w := (p0_ hF.out) hk
      have e32 : s 90 = .int .i64 0 := (p33_ hF.out) (hw 32 (by decide))
      dsimp only
      go_simp
      exact hK.out (ups (ups s 90 (.int .i64 0)) 91 (.pointer (some ⟨B, 0, none⟩))) b _ ⟨(fun _ => hB), (p1_ hF.out), (p2_ hF.out), (p3_ hF.out), (p4_ hF.out), (p5_ hF.out), (p6_ hF.out), (p7_ hF.out), (p8_ hF.out), (p9_ hF.out), (p10_ hF.out), (p11_ hF.out), (p12_ hF.out), (p13_ hF.out), (p14_ hF.out), (p15_ hF.out), (p16_ hF.out), (p17_ hF.out), (p18_ hF.out), (p19_ hF.out), (p20_ hF.out), (p21_ hF.out), (p22_ hF.out), (p23_ hF.out), (p24_ hF.out), (p25_ hF.out), (p26_ hF.out), (p27_ hF.out), (p28_ hF.out), (p29_ hF.out), (p30_ hF.out), (p31_ hF.out), (p32_ hF.out), (fun _ => rfl), (fun _ => rfl), (p35_ hF.out), (p36_ hF.out), (p37_ hF.out), (p38_ hF.out), (fun h => absurd ((p39_ hF.out) h 33 (by decide)) (by simp [hd])), (fun h => absurd ((p39_ hF.out) h 33 (by decide)) (by simp [hd]))⟩
    refine StepsF.cons (o := _) rfl (ws := [33]) (by kernel_rfl) (by decide) (fun d s b w hF hd hw K hK => ?_) ?_
    · have hk : d 38 = false := by cases e : d 38 with | false => rfl | true => exact absurd ((p39_ hF.out) e 34 (by decide)) (by simp [hd])
      have hB : Below Z1.heap.size Z1 w := (p0_ hF.out) hk
      have e33 : s 91 = .pointer (some ⟨B, 0, none⟩) := (p34_ hF.out) (hw 33 (by decide))
      dsimp only
      have oxa := HA.out.later hB
      have xa0 := oxa.at 0 _ rfl
      have xa1 := oxa.at 1 _ rfl
      have xa2 := oxa.at 2 _ rfl
      clear oxa
      have oxq := HQ.out.later hB
      have xq0 := oxq.at 0 _ rfl
      have xq1 := oxq.at 1 _ rfl
      have xq2 := oxq.at 2 _ rfl
      clear oxq
      have oxb := HB.out.later hB
      have xb0 := oxb.at 0 _ rfl
      clear oxb
      go_simp
      exact hK.out (ups (ups s 91 (.pointer (some ⟨B, 0, none⟩))) 92 (.int .i16 t0)) b _ ⟨(fun _ => hB), (p1_ hF.out), (p2_ hF.out), (p3_ hF.out), (p4_ hF.out), (p5_ hF.out), (p6_ hF.out), (p7_ hF.out), (p8_ hF.out), (p9_ hF.out), (p10_ hF.out), (p11_ hF.out), (p12_ hF.out), (p13_ hF.out), (p14_ hF.out), (p15_ hF.out), (p16_ hF.out), (p17_ hF.out), (p18_ hF.out), (p19_ hF.out), (p20_ hF.out), (p21_ hF.out), (p22_ hF.out), (p23_ hF.out), (p24_ hF.out), (p25_ hF.out), (p26_ hF.out), (p27_ hF.out), (p28_ hF.out), (p29_ hF.out), (p30_ hF.out), (p31_ hF.out), (p32_ hF.out), (p33_ hF.out), (fun _ => rfl), (fun _ => rfl), (p36_ hF.out), (p37_ hF.out), (p38_ hF.out), (fun h => absurd ((p39_ hF.out) h 34 (by decide)) (by simp [hd])), (fun h => absurd ((p39_ hF.out) h 34 (by decide)) (by simp [hd]))⟩
    refine StepsF.cons (o := _) rfl (ws := [34]) (by kernel_rfl) (by decide) (fun d s b w hF hd hw K hK => ?_) ?_
    · have hk : d 38 = false := by cases e : d 38 with | false => rfl | true => exact absurd ((p39_ hF.out) e 35 (by decide)) (by simp [hd])
      have hB : Below Z1.heap.size Z1 w := (p0_ hF.out) hk
      have e34 : s 92 = .int .i16 t0 := (p35_ hF.out) (hw 34 (by decide))
      dsimp only
      have cv := ct0.out
      go_simp
      first | rw [cv] | rw [IntWalk.i64_left, cv] | simp only [IntWalk.i64_left, cv] | (trace_state; fail)
      exact hK.out (ups (ups s 92 (.int .i16 t0)) 93 (.int .i64 t0)) b _ ⟨(fun _ => hB), (p1_ hF.out), (p2_ hF.out), (p3_ hF.out), (p4_ hF.out), (p5_ hF.out), (p6_ hF.out), (p7_ hF.out), (p8_ hF.out), (p9_ hF.out), (p10_ hF.out), (p11_ hF.out), (p12_ hF.out), (p13_ hF.out), (p14_ hF.out), (p15_ hF.out), (p16_ hF.out), (p17_ hF.out), (p18_ hF.out), (p19_ hF.out), (p20_ hF.out), (p21_ hF.out), (p22_ hF.out), (p23_ hF.out), (p24_ hF.out), (p25_ hF.out), (p26_ hF.out), (p27_ hF.out), (p28_ hF.out), (p29_ hF.out), (p30_ hF.out), (p31_ hF.out), (p32_ hF.out), (p33_ hF.out), (p34_ hF.out), (fun _ => rfl), (fun _ => rfl), (p37_ hF.out), (p38_ hF.out), (fun h => absurd ((p39_ hF.out) h 35 (by decide)) (by simp [hd])), (fun h => absurd ((p39_ hF.out) h 35 (by decide)) (by simp [hd]))⟩
    refine StepsF.cons (o := _) rfl (ws := [31, 35]) (by kernel_rfl) (by decide) (fun d s b w hF hd hw K hK => ?_) ?_
    · have hk : d 38 = false := by cases e : d 38 with | false => rfl | true => exact absurd ((p39_ hF.out) e 36 (by decide)) (by simp [hd])
      have hB : Below Z1.heap.size Z1 w := (p0_ hF.out) hk
      have e31 : s 89 = .int .i64 v0 := (p32_ hF.out) (hw 31 (by decide))
      have e35 : s 93 = .int .i64 t0 := (p36_ hF.out) (hw 35 (by decide))
      dsimp only
      have cv := hw0.out
      go_simp
      first | rw [cv] | rw [IntWalk.i64_left, cv] | simp only [IntWalk.i64_left, cv] | (trace_state; fail)
      exact hK.out (ups (ups (ups s 89 (.int .i64 v0)) 93 (.int .i64 t0)) 94 (.int .i64 W0_)) b _ ⟨(fun _ => hB), (p1_ hF.out), (p2_ hF.out), (p3_ hF.out), (p4_ hF.out), (p5_ hF.out), (p6_ hF.out), (p7_ hF.out), (p8_ hF.out), (p9_ hF.out), (p10_ hF.out), (p11_ hF.out), (p12_ hF.out), (p13_ hF.out), (p14_ hF.out), (p15_ hF.out), (p16_ hF.out), (p17_ hF.out), (p18_ hF.out), (p19_ hF.out), (p20_ hF.out), (p21_ hF.out), (p22_ hF.out), (p23_ hF.out), (p24_ hF.out), (p25_ hF.out), (p26_ hF.out), (p27_ hF.out), (p28_ hF.out), (p29_ hF.out), (p30_ hF.out), (p31_ hF.out), (fun _ => rfl), (p33_ hF.out), (p34_ hF.out), (p35_ hF.out), (fun _ => rfl), (fun _ => rfl), (p38_ hF.out), (fun h => absurd ((p39_ hF.out) h 36 (by decide)) (by simp [hd])), (fun h => absurd ((p39_ hF.out) h 36 (by decide)) (by simp [hd]))⟩
    refine StepsF.cons (o := _) rfl (ws := [0, 0, 1, 2, 3, 4, 5, 6, 7, 8, 9, 10, 11, 12, 13, 14, 15, 16, 17, 18, 19, 20, 21, 22, 23, 24, 25, 26, 27, 28, 29, 30, 31, 32, 33, 34, 35, 36]) (by kernel_rfl) (by decide) (fun d s b w hF hd hw K hK => ?_) ?_
    · have hk : d 38 = false := by cases e : d 38 with | false => rfl | true => exact absurd ((p39_ hF.out) e 37 (by decide)) (by simp [hd])
      have hB : Below Z1.heap.size Z1 w := (p0_ hF.out) hk
      have e0 : s 58 = .int .i64 0 := (p1_ hF.out) (hw 0 (by decide))
      have e1 : s 59 = .int .i64 0 := (p2_ hF.out) (hw 1 (by decide))
      have e2 : s 60 = .int .i64 0 := (p3_ hF.out) (hw 2 (by decide))
      have e3 : s 61 = .pointer (some ⟨A, 0, none⟩) := (p4_ hF.out) (hw 3 (by decide))
      have e4 : s 62 = .int .i8 m0 := (p5_ hF.out) (hw 4 (by decide))
      have e5 : s 63 = .int .i64 m0 := (p6_ hF.out) (hw 5 (by decide))
      have e6 : s 64 = .pointer (some ⟨Q, 0, none⟩) := (p7_ hF.out) (hw 6 (by decide))
      have e7 : s 65 = .int .i8 q0 := (p8_ hF.out) (hw 7 (by decide))
      have e8 : s 66 = .int .i64 q0 := (p9_ hF.out) (hw 8 (by decide))
      have e9 : s 67 = .int .i64 p0 := (p10_ hF.out) (hw 9 (by decide))
      have e10 : s 68 = .int .i64 0 := (p11_ hF.out) (hw 10 (by decide))
      have e11 : s 69 = .int .i64 0 := (p12_ hF.out) (hw 11 (by decide))
      have e12 : s 70 = .int .i64 1 := (p13_ hF.out) (hw 12 (by decide))
      have e13 : s 71 = .pointer (some ⟨A, 1, none⟩) := (p14_ hF.out) (hw 13 (by decide))
      have e14 : s 72 = .int .i8 m1 := (p15_ hF.out) (hw 14 (by decide))
      have e15 : s 73 = .int .i64 m1 := (p16_ hF.out) (hw 15 (by decide))
      have e16 : s 74 = .pointer (some ⟨Q, 1, none⟩) := (p17_ hF.out) (hw 16 (by decide))
      have e17 : s 75 = .int .i8 q1 := (p18_ hF.out) (hw 17 (by decide))
      have e18 : s 76 = .int .i64 q1 := (p19_ hF.out) (hw 18 (by decide))
      have e19 : s 77 = .int .i64 p1 := (p20_ hF.out) (hw 19 (by decide))
      have e20 : s 78 = .int .i64 s0 := (p21_ hF.out) (hw 20 (by decide))
      have e21 : s 79 = .int .i64 0 := (p22_ hF.out) (hw 21 (by decide))
      have e22 : s 80 = .int .i64 0 := (p23_ hF.out) (hw 22 (by decide))
      have e23 : s 81 = .int .i64 2 := (p24_ hF.out) (hw 23 (by decide))
      have e24 : s 82 = .pointer (some ⟨A, 2, none⟩) := (p25_ hF.out) (hw 24 (by decide))
      have e25 : s 83 = .int .i8 m2 := (p26_ hF.out) (hw 25 (by decide))
      have e26 : s 84 = .int .i64 m2 := (p27_ hF.out) (hw 26 (by decide))
      have e27 : s 85 = .pointer (some ⟨Q, 2, none⟩) := (p28_ hF.out) (hw 27 (by decide))
      have e28 : s 86 = .int .i8 q2 := (p29_ hF.out) (hw 28 (by decide))
      have e29 : s 87 = .int .i64 q2 := (p30_ hF.out) (hw 29 (by decide))
      have e30 : s 88 = .int .i64 p2 := (p31_ hF.out) (hw 30 (by decide))
      have e31 : s 89 = .int .i64 v0 := (p32_ hF.out) (hw 31 (by decide))
      have e32 : s 90 = .int .i64 0 := (p33_ hF.out) (hw 32 (by decide))
      have e33 : s 91 = .pointer (some ⟨B, 0, none⟩) := (p34_ hF.out) (hw 33 (by decide))
      have e34 : s 92 = .int .i16 t0 := (p35_ hF.out) (hw 34 (by decide))
      have e35 : s 93 = .int .i64 t0 := (p36_ hF.out) (hw 35 (by decide))
      have e36 : s 94 = .int .i64 W0_ := (p37_ hF.out) (hw 36 (by decide))
      dsimp only
      go_simp
      exact hK.out (ups (ups (ups (ups (ups (ups (ups (ups (ups (ups (ups (ups (ups (ups (ups (ups (ups (ups (ups (ups (ups (ups (ups (ups (ups (ups (ups (ups (ups (ups (ups (ups (ups (ups (ups (ups (ups (ups s 58 (.int .i64 0)) 59 (.int .i64 0)) 60 (.int .i64 0)) 61 (.pointer (some ⟨A, 0, none⟩))) 62 (.int .i8 m0)) 63 (.int .i64 m0)) 64 (.pointer (some ⟨Q, 0, none⟩))) 65 (.int .i8 q0)) 66 (.int .i64 q0)) 67 (.int .i64 p0)) 68 (.int .i64 0)) 69 (.int .i64 0)) 70 (.int .i64 1)) 71 (.pointer (some ⟨A, 1, none⟩))) 72 (.int .i8 m1)) 73 (.int .i64 m1)) 74 (.pointer (some ⟨Q, 1, none⟩))) 75 (.int .i8 q1)) 76 (.int .i64 q1)) 77 (.int .i64 p1)) 78 (.int .i64 s0)) 79 (.int .i64 0)) 80 (.int .i64 0)) 81 (.int .i64 2)) 82 (.pointer (some ⟨A, 2, none⟩))) 83 (.int .i8 m2)) 84 (.int .i64 m2)) 85 (.pointer (some ⟨Q, 2, none⟩))) 86 (.int .i8 q2)) 87 (.int .i64 q2)) 88 (.int .i64 p2)) 89 (.int .i64 v0)) 90 (.int .i64 0)) 91 (.pointer (some ⟨B, 0, none⟩))) 92 (.int .i16 t0)) 93 (.int .i64 t0)) 94 (.int .i64 W0_)) 95 (.pointer (some ⟨E, 0, none⟩))) b _ ⟨(fun _ => hB), (fun _ => rfl), (fun _ => rfl), (fun _ => rfl), (fun _ => rfl), (fun _ => rfl), (fun _ => rfl), (fun _ => rfl), (fun _ => rfl), (fun _ => rfl), (fun _ => rfl), (fun _ => rfl), (fun _ => rfl), (fun _ => rfl), (fun _ => rfl), (fun _ => rfl), (fun _ => rfl), (fun _ => rfl), (fun _ => rfl), (fun _ => rfl), (fun _ => rfl), (fun _ => rfl), (fun _ => rfl), (fun _ => rfl), (fun _ => rfl), (fun _ => rfl), (fun _ => rfl), (fun _ => rfl), (fun _ => rfl), (fun _ => rfl), (fun _ => rfl), (fun _ => rfl), (fun _ => rfl), (fun _ => rfl), (fun _ => rfl), (fun _ => rfl), (fun _ => rfl), (fun _ => rfl), (fun _ => rfl), (fun h => absurd ((p39_ hF.out) h 37 (by decide)) (by simp [hd])), (fun h => absurd ((p39_ hF.out) h 37 (by decide)) (by simp [hd]))⟩
    refine StepsF.cons (o := _) rfl (ws := [37, 36, 0, 1, 2, 3, 4, 5, 6, 7, 8, 9, 10, 11, 12, 13, 14, 15, 16, 17, 18, 19, 20, 21, 22, 23, 24, 25, 26, 27, 28, 29, 30, 31, 32, 33, 34, 35, 36]) (by kernel_rfl) (by decide) (fun d s b w hF hd hw K hK => ?_) ?_
    · have hB : Below Z1.heap.size Z1 w := (p0_ hF.out) hd
      have e0 : s 58 = .int .i64 0 := (p1_ hF.out) (hw 0 (by decide))
      have e1 : s 59 = .int .i64 0 := (p2_ hF.out) (hw 1 (by decide))
      have e2 : s 60 = .int .i64 0 := (p3_ hF.out) (hw 2 (by decide))
      have e3 : s 61 = .pointer (some ⟨A, 0, none⟩) := (p4_ hF.out) (hw 3 (by decide))
      have e4 : s 62 = .int .i8 m0 := (p5_ hF.out) (hw 4 (by decide))
      have e5 : s 63 = .int .i64 m0 := (p6_ hF.out) (hw 5 (by decide))
      have e6 : s 64 = .pointer (some ⟨Q, 0, none⟩) := (p7_ hF.out) (hw 6 (by decide))
      have e7 : s 65 = .int .i8 q0 := (p8_ hF.out) (hw 7 (by decide))
      have e8 : s 66 = .int .i64 q0 := (p9_ hF.out) (hw 8 (by decide))
      have e9 : s 67 = .int .i64 p0 := (p10_ hF.out) (hw 9 (by decide))
      have e10 : s 68 = .int .i64 0 := (p11_ hF.out) (hw 10 (by decide))
      have e11 : s 69 = .int .i64 0 := (p12_ hF.out) (hw 11 (by decide))
      have e12 : s 70 = .int .i64 1 := (p13_ hF.out) (hw 12 (by decide))
      have e13 : s 71 = .pointer (some ⟨A, 1, none⟩) := (p14_ hF.out) (hw 13 (by decide))
      have e14 : s 72 = .int .i8 m1 := (p15_ hF.out) (hw 14 (by decide))
      have e15 : s 73 = .int .i64 m1 := (p16_ hF.out) (hw 15 (by decide))
      have e16 : s 74 = .pointer (some ⟨Q, 1, none⟩) := (p17_ hF.out) (hw 16 (by decide))
      have e17 : s 75 = .int .i8 q1 := (p18_ hF.out) (hw 17 (by decide))
      have e18 : s 76 = .int .i64 q1 := (p19_ hF.out) (hw 18 (by decide))
      have e19 : s 77 = .int .i64 p1 := (p20_ hF.out) (hw 19 (by decide))
      have e20 : s 78 = .int .i64 s0 := (p21_ hF.out) (hw 20 (by decide))
      have e21 : s 79 = .int .i64 0 := (p22_ hF.out) (hw 21 (by decide))
      have e22 : s 80 = .int .i64 0 := (p23_ hF.out) (hw 22 (by decide))
      have e23 : s 81 = .int .i64 2 := (p24_ hF.out) (hw 23 (by decide))
      have e24 : s 82 = .pointer (some ⟨A, 2, none⟩) := (p25_ hF.out) (hw 24 (by decide))
      have e25 : s 83 = .int .i8 m2 := (p26_ hF.out) (hw 25 (by decide))
      have e26 : s 84 = .int .i64 m2 := (p27_ hF.out) (hw 26 (by decide))
      have e27 : s 85 = .pointer (some ⟨Q, 2, none⟩) := (p28_ hF.out) (hw 27 (by decide))
      have e28 : s 86 = .int .i8 q2 := (p29_ hF.out) (hw 28 (by decide))
      have e29 : s 87 = .int .i64 q2 := (p30_ hF.out) (hw 29 (by decide))
      have e30 : s 88 = .int .i64 p2 := (p31_ hF.out) (hw 30 (by decide))
      have e31 : s 89 = .int .i64 v0 := (p32_ hF.out) (hw 31 (by decide))
      have e32 : s 90 = .int .i64 0 := (p33_ hF.out) (hw 32 (by decide))
      have e33 : s 91 = .pointer (some ⟨B, 0, none⟩) := (p34_ hF.out) (hw 33 (by decide))
      have e34 : s 92 = .int .i16 t0 := (p35_ hF.out) (hw 34 (by decide))
      have e35 : s 93 = .int .i64 t0 := (p36_ hF.out) (hw 35 (by decide))
      have e36 : s 94 = .int .i64 W0_ := (p37_ hF.out) (hw 36 (by decide))
      have e37 : s 95 = .pointer (some ⟨E, 0, none⟩) := (p38_ hF.out) (hw 37 (by decide))
      dsimp only
      have oX := HE.out.later hB
      have fr0 := oX.ok 0 (by simp)
      have ce0 := oX.at 0 _ rfl
      clear oX
      go_simp
      exact hK.out (ups (ups (ups (ups (ups (ups (ups (ups (ups (ups (ups (ups (ups (ups (ups (ups (ups (ups (ups (ups (ups (ups (ups (ups (ups (ups (ups (ups (ups (ups (ups (ups (ups (ups (ups (ups (ups (ups s 58 (.int .i64 0)) 59 (.int .i64 0)) 60 (.int .i64 0)) 61 (.pointer (some ⟨A, 0, none⟩))) 62 (.int .i8 m0)) 63 (.int .i64 m0)) 64 (.pointer (some ⟨Q, 0, none⟩))) 65 (.int .i8 q0)) 66 (.int .i64 q0)) 67 (.int .i64 p0)) 68 (.int .i64 0)) 69 (.int .i64 0)) 70 (.int .i64 1)) 71 (.pointer (some ⟨A, 1, none⟩))) 72 (.int .i8 m1)) 73 (.int .i64 m1)) 74 (.pointer (some ⟨Q, 1, none⟩))) 75 (.int .i8 q1)) 76 (.int .i64 q1)) 77 (.int .i64 p1)) 78 (.int .i64 s0)) 79 (.int .i64 0)) 80 (.int .i64 0)) 81 (.int .i64 2)) 82 (.pointer (some ⟨A, 2, none⟩))) 83 (.int .i8 m2)) 84 (.int .i64 m2)) 85 (.pointer (some ⟨Q, 2, none⟩))) 86 (.int .i8 q2)) 87 (.int .i64 q2)) 88 (.int .i64 p2)) 89 (.int .i64 v0)) 90 (.int .i64 0)) 91 (.pointer (some ⟨B, 0, none⟩))) 92 (.int .i16 t0)) 93 (.int .i64 t0)) 94 (.int .i64 W0_)) 95 (.pointer (some ⟨E, 0, none⟩))) b _ ⟨(fun h => nomatch h), (fun _ => rfl), (fun _ => rfl), (fun _ => rfl), (fun _ => rfl), (fun _ => rfl), (fun _ => rfl), (fun _ => rfl), (fun _ => rfl), (fun _ => rfl), (fun _ => rfl), (fun _ => rfl), (fun _ => rfl), (fun _ => rfl), (fun _ => rfl), (fun _ => rfl), (fun _ => rfl), (fun _ => rfl), (fun _ => rfl), (fun _ => rfl), (fun _ => rfl), (fun _ => rfl), (fun _ => rfl), (fun _ => rfl), (fun _ => rfl), (fun _ => rfl), (fun _ => rfl), (fun _ => rfl), (fun _ => rfl), (fun _ => rfl), (fun _ => rfl), (fun _ => rfl), (fun _ => rfl), (fun _ => rfl), (fun _ => rfl), (fun _ => rfl), (fun _ => rfl), (fun _ => rfl), (fun _ => rfl), (fun _ j hj => by have hj2 := hw j (by simp; omega); simp [upd, hj2]), (fun _ => ⟨w, hB, rfl⟩)⟩
    exact StepsF.nil
  intro d s b z0 hF hall
  replace hF := Lib.hid hF
  obtain ⟨z0, hB, rfl⟩ := (q40_ hF.out) (hall 38 (by decide))
  try dsimp only
  have e0 : s 58 = .int .i64 0 := (p1_ hF.out) (hall 0 (by decide))
  have e1 : s 59 = .int .i64 0 := (p2_ hF.out) (hall 1 (by decide))
  have e2 : s 60 = .int .i64 0 := (p3_ hF.out) (hall 2 (by decide))
  have e3 : s 61 = .pointer (some ⟨A, 0, none⟩) := (p4_ hF.out) (hall 3 (by decide))
  have e4 : s 62 = .int .i8 m0 := (p5_ hF.out) (hall 4 (by decide))
  have e5 : s 63 = .int .i64 m0 := (p6_ hF.out) (hall 5 (by decide))
  have e6 : s 64 = .pointer (some ⟨Q, 0, none⟩) := (p7_ hF.out) (hall 6 (by decide))
  have e7 : s 65 = .int .i8 q0 := (p8_ hF.out) (hall 7 (by decide))
  have e8 : s 66 = .int .i64 q0 := (p9_ hF.out) (hall 8 (by decide))
  have e9 : s 67 = .int .i64 p0 := (p10_ hF.out) (hall 9 (by decide))
  have e10 : s 68 = .int .i64 0 := (p11_ hF.out) (hall 10 (by decide))
  have e11 : s 69 = .int .i64 0 := (p12_ hF.out) (hall 11 (by decide))
  have e12 : s 70 = .int .i64 1 := (p13_ hF.out) (hall 12 (by decide))
  have e13 : s 71 = .pointer (some ⟨A, 1, none⟩) := (p14_ hF.out) (hall 13 (by decide))
  have e14 : s 72 = .int .i8 m1 := (p15_ hF.out) (hall 14 (by decide))
  have e15 : s 73 = .int .i64 m1 := (p16_ hF.out) (hall 15 (by decide))
  have e16 : s 74 = .pointer (some ⟨Q, 1, none⟩) := (p17_ hF.out) (hall 16 (by decide))
  have e17 : s 75 = .int .i8 q1 := (p18_ hF.out) (hall 17 (by decide))
  have e18 : s 76 = .int .i64 q1 := (p19_ hF.out) (hall 18 (by decide))
  have e19 : s 77 = .int .i64 p1 := (p20_ hF.out) (hall 19 (by decide))
  have e20 : s 78 = .int .i64 s0 := (p21_ hF.out) (hall 20 (by decide))
  have e21 : s 79 = .int .i64 0 := (p22_ hF.out) (hall 21 (by decide))
  have e22 : s 80 = .int .i64 0 := (p23_ hF.out) (hall 22 (by decide))
  have e23 : s 81 = .int .i64 2 := (p24_ hF.out) (hall 23 (by decide))
  have e24 : s 82 = .pointer (some ⟨A, 2, none⟩) := (p25_ hF.out) (hall 24 (by decide))
  have e25 : s 83 = .int .i8 m2 := (p26_ hF.out) (hall 25 (by decide))
  have e26 : s 84 = .int .i64 m2 := (p27_ hF.out) (hall 26 (by decide))
  have e27 : s 85 = .pointer (some ⟨Q, 2, none⟩) := (p28_ hF.out) (hall 27 (by decide))
  have e28 : s 86 = .int .i8 q2 := (p29_ hF.out) (hall 28 (by decide))
  have e29 : s 87 = .int .i64 q2 := (p30_ hF.out) (hall 29 (by decide))
  have e30 : s 88 = .int .i64 p2 := (p31_ hF.out) (hall 30 (by decide))
  have e31 : s 89 = .int .i64 v0 := (p32_ hF.out) (hall 31 (by decide))
  have e32 : s 90 = .int .i64 0 := (p33_ hF.out) (hall 32 (by decide))
  have e33 : s 91 = .pointer (some ⟨B, 0, none⟩) := (p34_ hF.out) (hall 33 (by decide))
  have e34 : s 92 = .int .i16 t0 := (p35_ hF.out) (hall 34 (by decide))
  have e35 : s 93 = .int .i64 t0 := (p36_ hF.out) (hall 35 (by decide))
  have e36 : s 94 = .int .i64 W0_ := (p37_ hF.out) (hall 36 (by decide))
  have e37 : s 95 = .pointer (some ⟨E, 0, none⟩) := (p38_ hF.out) (hall 37 (by decide))
  rw [e0, e1, e2, e3, e4, e5, e6, e7, e8, e9, e10, e11, e12, e13, e14, e15, e16, e17, e18, e19, e20, e21, e22, e23, e24, e25, e26, e27, e28, e29, e30, e31, e32, e33, e34, e35, e36, e37]
  clear hall hF e0 e1 e2 e3 e4 e5 e6 e7 e8 e9 e10 e11 e12 e13 e14 e15 e16 e17 e18 e19 e20 e21 e22 e23 e24 e25 e26 e27 e28 e29 e30 e31 e32 e33 e34 e35 e36 e37
  clear d s b
  have HEn : Hid (Own E [.int .i64 W0_, .int .i64 0, .int .i64 0] (z0.setCells E 0 [.int .i64 W0_])) := Lib.hid (show Own E (over _ 0 [.int .i64 W0_]) _ from Own.part (HE.out.later hB) (by simp))
  have HAn : Hid (Own A [.int .i8 m0, .int .i8 m1, .int .i8 m2, .int .i8 m3, .int .i8 m4, .int .i8 m5, .int .i8 m6, .int .i8 m7, .int .i8 m8] (z0.setCells E 0 [.int .i64 W0_])) := Lib.hid (Own.far (o := 0) (vs := [.int .i64 W0_]) (HA.out.later hB) nAE)
  have HBn : Hid (Own B [.int .i16 t0, .int .i16 t1, .int .i16 t2] (z0.setCells E 0 [.int .i64 W0_])) := Lib.hid (Own.far (o := 0) (vs := [.int .i64 W0_]) (HB.out.later hB) nBE)
  have HQn : Hid (Own Q [.int .i8 q0, .int .i8 q1, .int .i8 q2] (z0.setCells E 0 [.int .i64 W0_])) := Lib.hid (Own.far (o := 0) (vs := [.int .i64 W0_]) (HQ.out.later hB) nQE)
  have HNn : Hid (Own N [.int .i64 X, .int .i64 Y, .int .i64 Z] (z0.setCells E 0 [.int .i64 W0_])) := Lib.hid (Own.far (o := 0) (vs := [.int .i64 W0_]) (HN.out.later hB) nNE)
  have V0b : Below w.heap.size w (z0.setCells E 0 [.int .i64 W0_]) := Below.setCells (Below.go gD hB) Ew [.int .i64 W0_] 0
  generalize (z0.setCells E 0 [.int .i64 W0_]) = V0 at *
  clear HE HA HB HQ HN hB
  have HE := HEn
  clear HEn
  have HA := HAn
  clear HAn
  have HB := HBn
  clear HBn
  have HQ := HQn
  clear HQn
  have HN := HNn
  clear HNn
  clear gD
  have oE := HE.out
  have E0 := oE.at 0 _ rfl
  have E1 := oE.at 1 _ rfl
  have E2 := oE.at 2 _ rfl
  have El := oE.lt
  clear oE
  go_upto_region 15 with fail
  refine wp_norm (fun a' w' => V0 = w' ∧ ∃ (v u96_0 u97_0 u98_0 u99_0 u100_0 u101_0 u102_0 u103_0 u104_0 u105_0 u106_0 u107_0 u108_0 : Value), v = .bool (farB false W0_) ∧ a' = ⟨#[(.agg #[.int .i8 m0, .int .i8 m1, .int .i8 m2, .int .i8 m3, .int .i8 m4, .int .i8 m5, .int .i8 m6, .int .i8 m7, .int .i8 m8]), (.agg #[.int .i16 t0, .int .i16 t1, .int .i16 t2]), (.agg #[.int .i8 q0, .int .i8 q1, .int .i8 q2]), .pointer (some ⟨A, 0, none⟩), .pointer (some ⟨B, 0, none⟩), .pointer (some ⟨Q, 0, none⟩), .bool false, .pointer (some ⟨D, 0, none⟩), .int .i64 8, .int .i8 m8, .pointer (some ⟨N, 0, none⟩), .int .i64 c, .pointer (some ⟨E, 0, none⟩), v, .int .i64 0, (.agg #[.int .i8 m0, .int .i8 m1, .int .i8 m2, .int .i8 m3, .int .i8 m4, .int .i8 m5, .int .i8 m6, .int .i8 m7, .int .i8 m8]), .int .i64 9, .bool false, .int .i64 8, .int .i8 m8, .int .i64 8, .int .i8 m8, .int .i64 m8, .int .i64 M8, .pointer (some ⟨D, 0, none⟩), .pointer (some ⟨D, 8, none⟩), .int .i64 9, .pointer (some ⟨B, 0, none⟩), .int .i16 t0, .int .i64 t0, .pointer (some ⟨B, 1, none⟩), .int .i16 t1, .int .i64 t1, .pointer (some ⟨B, 2, none⟩), .int .i16 t2, .int .i64 t2, (.agg #[.int .i64 t0, .int .i64 t1, .int .i64 t2]), (.agg #[.int .i64 T0_, .int .i64 T1_, .int .i64 T2_]), .pointer (some ⟨D, 9, none⟩), .tuple #[(.agg #[.int .i64 X, .int .i64 Y, .int .i64 Z]), .int .i64 c], (.agg #[.int .i64 M0, .int .i64 M1, .int .i64 M2, .int .i64 M3, .int .i64 M4, .int .i64 M5, .int .i64 M6, .int .i64 M7, .int .i64 M8, .int .i64 T0_, .int .i64 T1_, .int .i64 T2_]), .pointer (some ⟨Q, 0, none⟩), .int .i8 q0, .int .i64 q0, .pointer (some ⟨Q, 1, none⟩), .int .i8 q1, .int .i64 q1, .pointer (some ⟨Q, 2, none⟩), .int .i8 q2, .int .i64 q2, (.agg #[.int .i64 q0, .int .i64 q1, .int .i64 q2]), .tuple #[(.agg #[.int .i64 X, .int .i64 Y, .int .i64 Z]), .int .i64 c], (.agg #[.int .i64 X, .int .i64 Y, .int .i64 Z]), .int .i64 c, (.agg #[.int .i64 0, .int .i64 0, .int .i64 0]), .int .i64 0, .bool true, .int .i64 0, .int .i64 0, .int .i64 0, .int .i64 0, .pointer (some ⟨A, 0, none⟩), .int .i8 m0, .int .i64 m0, .pointer (some ⟨Q, 0, none⟩), .int .i8 q0, .int .i64 q0, .int .i64 p0, .int .i64 0, .int .i64 0, .int .i64 1, .pointer (some ⟨A, 1, none⟩), .int .i8 m1, .int .i64 m1, .pointer (some ⟨Q, 1, none⟩), .int .i8 q1, .int .i64 q1, .int .i64 p1, .int .i64 s0, .int .i64 0, .int .i64 0, .int .i64 2, .pointer (some ⟨A, 2, none⟩), .int .i8 m2, .int .i64 m2, .pointer (some ⟨Q, 2, none⟩), .int .i8 q2, .int .i64 q2, .int .i64 p2, .int .i64 v0, .int .i64 0, .pointer (some ⟨B, 0, none⟩), .int .i16 t0, .int .i64 t0, .int .i64 W0_, .pointer (some ⟨E, 0, none⟩), u96_0, u97_0, u98_0, u99_0, u100_0, u101_0, u102_0, u103_0, u104_0, u105_0, u106_0, u107_0, u108_0, undef, undef, undef, undef, undef, undef, undef, undef, undef, undef, undef, undef, undef, undef, undef, undef, undef, undef, undef, undef, undef, undef, undef, undef, undef, undef, undef, undef], []⟩) ?first ?_
  case first =>
    intro J K' hJ hK
    by_cases g1 : 65536 < W0_
    all_goals by_cases g2 : W0_ < -65536
    all_goals go_wp2_with (fail)
    all_goals exact Met.intro (hJ _ _ ⟨rfl, _, _, _, _, _, _, _, _, _, _, _, _, _, _, by first | (simp [farB]; done) | (simp [farB]; omega) | (simp [farB, *]; done), rfl⟩)
  rintro a' w' ⟨rfl, v, u96_0, u97_0, u98_0, u99_0, u100_0, u101_0, u102_0, u103_0, u104_0, u105_0, u106_0, u107_0, u108_0, rfl, rfl⟩
  go_wp2_with (fail)
  rw [rounds_succ]
  go_wp2_with (fail)
  refine wp_region_fun 39 (by kernel_rfl) (by kernel_rfl) rfl (fun s b => ⟨#[(.agg #[.int .i8 m0, .int .i8 m1, .int .i8 m2, .int .i8 m3, .int .i8 m4, .int .i8 m5, .int .i8 m6, .int .i8 m7, .int .i8 m8]), (.agg #[.int .i16 t0, .int .i16 t1, .int .i16 t2]), (.agg #[.int .i8 q0, .int .i8 q1, .int .i8 q2]), .pointer (some ⟨A, 0, none⟩), .pointer (some ⟨B, 0, none⟩), .pointer (some ⟨Q, 0, none⟩), .bool false, .pointer (some ⟨D, 0, none⟩), .int .i64 8, .int .i8 m8, .pointer (some ⟨N, 0, none⟩), .int .i64 c, .pointer (some ⟨E, 0, none⟩), .bool ((farB false W0_)), .int .i64 1, (.agg #[.int .i8 m0, .int .i8 m1, .int .i8 m2, .int .i8 m3, .int .i8 m4, .int .i8 m5, .int .i8 m6, .int .i8 m7, .int .i8 m8]), .int .i64 9, .bool false, .int .i64 8, .int .i8 m8, .int .i64 8, .int .i8 m8, .int .i64 m8, .int .i64 M8, .pointer (some ⟨D, 0, none⟩), .pointer (some ⟨D, 8, none⟩), .int .i64 9, .pointer (some ⟨B, 0, none⟩), .int .i16 t0, .int .i64 t0, .pointer (some ⟨B, 1, none⟩), .int .i16 t1, .int .i64 t1, .pointer (some ⟨B, 2, none⟩), .int .i16 t2, .int .i64 t2, (.agg #[.int .i64 t0, .int .i64 t1, .int .i64 t2]), (.agg #[.int .i64 T0_, .int .i64 T1_, .int .i64 T2_]), .pointer (some ⟨D, 9, none⟩), .tuple #[(.agg #[.int .i64 X, .int .i64 Y, .int .i64 Z]), .int .i64 c], (.agg #[.int .i64 M0, .int .i64 M1, .int .i64 M2, .int .i64 M3, .int .i64 M4, .int .i64 M5, .int .i64 M6, .int .i64 M7, .int .i64 M8, .int .i64 T0_, .int .i64 T1_, .int .i64 T2_]), .pointer (some ⟨Q, 0, none⟩), .int .i8 q0, .int .i64 q0, .pointer (some ⟨Q, 1, none⟩), .int .i8 q1, .int .i64 q1, .pointer (some ⟨Q, 2, none⟩), .int .i8 q2, .int .i64 q2, (.agg #[.int .i64 q0, .int .i64 q1, .int .i64 q2]), .tuple #[(.agg #[.int .i64 X, .int .i64 Y, .int .i64 Z]), .int .i64 c], (.agg #[.int .i64 X, .int .i64 Y, .int .i64 Z]), .int .i64 c, (.agg #[.int .i64 0, .int .i64 0, .int .i64 0]), .int .i64 1, .bool true, .int .i64 1, s 58, s 59, s 60, s 61, s 62, s 63, s 64, s 65, s 66, s 67, s 68, s 69, s 70, s 71, s 72, s 73, s 74, s 75, s 76, s 77, s 78, s 79, s 80, s 81, s 82, s 83, s 84, s 85, s 86, s 87, s 88, s 89, s 90, s 91, s 92, s 93, s 94, s 95, u96_0, u97_0, u98_0, u99_0, u100_0, u101_0, u102_0, u103_0, u104_0, u105_0, u106_0, u107_0, u108_0, .int .i64 1, undef, undef, undef, undef, undef, undef, undef, undef, undef, undef, undef, undef, undef, undef, undef, undef, undef, undef, undef, undef, undef, undef, undef, undef, undef, undef, undef], []⟩) (fun d s b w => (d 38 = false → Below V0.heap.size V0 w) ∧ (d 0 = true → s 58 = .int .i64 1) ∧ (d 1 = true → s 59 = .int .i64 1) ∧ (d 2 = true → s 60 = .int .i64 3) ∧ (d 3 = true → s 61 = .pointer (some ⟨A, 3, none⟩)) ∧ (d 4 = true → s 62 = .int .i8 m3) ∧ (d 5 = true → s 63 = .int .i64 m3) ∧ (d 6 = true → s 64 = .pointer (some ⟨Q, 0, none⟩)) ∧ (d 7 = true → s 65 = .int .i8 q0) ∧ (d 8 = true → s 66 = .int .i64 q0) ∧ (d 9 = true → s 67 = .int .i64 p3) ∧ (d 10 = true → s 68 = .int .i64 1) ∧ (d 11 = true → s 69 = .int .i64 3) ∧ (d 12 = true → s 70 = .int .i64 4) ∧ (d 13 = true → s 71 = .pointer (some ⟨A, 4, none⟩)) ∧ (d 14 = true → s 72 = .int .i8 m4) ∧ (d 15 = true → s 73 = .int .i64 m4) ∧ (d 16 = true → s 74 = .pointer (some ⟨Q, 1, none⟩)) ∧ (d 17 = true → s 75 = .int .i8 q1) ∧ (d 18 = true → s 76 = .int .i64 q1) ∧ (d 19 = true → s 77 = .int .i64 p4) ∧ (d 20 = true → s 78 = .int .i64 s1) ∧ (d 21 = true → s 79 = .int .i64 1) ∧ (d 22 = true → s 80 = .int .i64 3) ∧ (d 23 = true → s 81 = .int .i64 5) ∧ (d 24 = true → s 82 = .pointer (some ⟨A, 5, none⟩)) ∧ (d 25 = true → s 83 = .int .i8 m5) ∧ (d 26 = true → s 84 = .int .i64 m5) ∧ (d 27 = true → s 85 = .pointer (some ⟨Q, 2, none⟩)) ∧ (d 28 = true → s 86 = .int .i8 q2) ∧ (d 29 = true → s 87 = .int .i64 q2) ∧ (d 30 = true → s 88 = .int .i64 p5) ∧ (d 31 = true → s 89 = .int .i64 v1) ∧ (d 32 = true → s 90 = .int .i64 1) ∧ (d 33 = true → s 91 = .pointer (some ⟨B, 1, none⟩)) ∧ (d 34 = true → s 92 = .int .i16 t1) ∧ (d 35 = true → s 93 = .int .i64 t1) ∧ (d 36 = true → s 94 = .int .i64 W1_) ∧ (d 37 = true → s 95 = .pointer (some ⟨E, 1, none⟩)) ∧ (d 38 = true → ∀ j, j < 38 → d j = true) ∧ (d 38 = true → ∃ w2, Below V0.heap.size V0 w2 ∧ w = w2.setCells E 1 [.int .i64 W1_])) rfl ?h0z1 (?stz1 : StepsF _ _ _ _ 39 _ _ [0, 1, 2, 3, 4, 5, 6, 7, 8, 9, 10, 11, 12, 13, 14, 15, 16, 17, 18, 19, 20, 21, 22, 23, 24, 25, 26, 27, 28, 29, 30, 31, 32, 33, 34, 35, 36, 37, 38]) ?dnz1
  case h0z1 => exact ⟨fun _ => Below.drew (Below.refl _ _), (fun h => nomatch h), (fun h => nomatch h), (fun h => nomatch h), (fun h => nomatch h), (fun h => nomatch h), (fun h => nomatch h), (fun h => nomatch h), (fun h => nomatch h), (fun h => nomatch h), (fun h => nomatch h), (fun h => nomatch h), (fun h => nomatch h), (fun h => nomatch h), (fun h => nomatch h), (fun h => nomatch h), (fun h => nomatch h), (fun h => nomatch h), (fun h => nomatch h), (fun h => nomatch h), (fun h => nomatch h), (fun h => nomatch h), (fun h => nomatch h), (fun h => nomatch h), (fun h => nomatch h), (fun h => nomatch h), (fun h => nomatch h), (fun h => nomatch h), (fun h => nomatch h), (fun h => nomatch h), (fun h => nomatch h), (fun h => nomatch h), (fun h => nomatch h), (fun h => nomatch h), (fun h => nomatch h), (fun h => nomatch h), (fun h => nomatch h), (fun h => nomatch h), (fun h => nomatch h), (fun h => nomatch h), (fun h => nomatch h)⟩
  case stz1 =>
    refine StepsF.cons (o := _) rfl (ws := []) (by kernel_rfl) (by decide) (fun d s b w hF hd hw K hK => ?_) ?_
    · have hk : d 38 = false := by cases e : d 38 with | false => rfl | true => exact absurd ((p39_ hF.out) e 0 (by decide)) (by simp [hd])
      have hB : Below V0.heap.size V0 w := (p0_ hF.out) hk
      dsimp only
      go_simp
      exact hK.out (ups s 58 (.int .i64 1)) b _ ⟨(fun _ => hB), (fun _ => rfl), (p2_ hF.out), (p3_ hF.out), (p4_ hF.out), (p5_ hF.out), (p6_ hF.out), (p7_ hF.out), (p8_ hF.out), (p9_ hF.out), (p10_ hF.out), (p11_ hF.out), (p12_ hF.out), (p13_ hF.out), (p14_ hF.out), (p15_ hF.out), (p16_ hF.out), (p17_ hF.out), (p18_ hF.out), (p19_ hF.out), (p20_ hF.out), (p21_ hF.out), (p22_ hF.out), (p23_ hF.out), (p24_ hF.out), (p25_ hF.out), (p26_ hF.out), (p27_ hF.out), (p28_ hF.out), (p29_ hF.out), (p30_ hF.out), (p31_ hF.out), (p32_ hF.out), (p33_ hF.out), (p34_ hF.out), (p35_ hF.out), (p36_ hF.out), (p37_ hF.out), (p38_ hF.out), (fun h => absurd ((p39_ hF.out) h 0 (by decide)) (by simp [hd])), (fun h => absurd ((p39_ hF.out) h 0 (by decide)) (by simp [hd]))⟩
    refine StepsF.cons (o := _) rfl (ws := []) (by kernel_rfl) (by decide) (fun d s b w hF hd hw K hK => ?_) ?_
    · have hk : d 38 = false := by cases e : d 38 with | false => rfl | true => exact absurd ((p39_ hF.out) e 1 (by decide)) (by simp [hd])
      have hB : Below V0.heap.size V0 w := (p0_ hF.out) hk
      dsimp only
      go_simp
      exact hK.out (ups s 59 (.int .i64 1)) b _ ⟨(fun _ => hB), (p1_ hF.out), (fun _ => rfl), (p3_ hF.out), (p4_ hF.out), (p5_ hF.out), (p6_ hF.out), (p7_ hF.out), (p8_ hF.out), (p9_ hF.out), (p10_ hF.out), (p11_ hF.out), (p12_ hF.out), (p13_ hF.out), (p14_ hF.out), (p15_ hF.out), (p16_ hF.out), (p17_ hF.out), (p18_ hF.out), (p19_ hF.out), (p20_ hF.out), (p21_ hF.out), (p22_ hF.out), (p23_ hF.out), (p24_ hF.out), (p25_ hF.out), (p26_ hF.out), (p27_ hF.out), (p28_ hF.out), (p29_ hF.out), (p30_ hF.out), (p31_ hF.out), (p32_ hF.out), (p33_ hF.out), (p34_ hF.out), (p35_ hF.out), (p36_ hF.out), (p37_ hF.out), (p38_ hF.out), (fun h => absurd ((p39_ hF.out) h 1 (by decide)) (by simp [hd])), (fun h => absurd ((p39_ hF.out) h 1 (by decide)) (by simp [hd]))⟩
    refine StepsF.cons (o := _) rfl (ws := [1]) (by kernel_rfl) (by decide) (fun d s b w hF hd hw K hK => ?_) ?_
    · have hk : d 38 = false := by cases e : d 38 with | false => rfl | true => exact absurd ((p39_ hF.out) e 2 (by decide)) (by simp [hd])
      have hB : Below V0.heap.size V0 w := (p0_ hF.out) hk
      have e1 : s 59 = .int .i64 1 := (p2_ hF.out) (hw 1 (by decide))
      dsimp only
      go_simp
      exact hK.out (ups (ups s 59 (.int .i64 1)) 60 (.int .i64 3)) b _ ⟨(fun _ => hB), (p1_ hF.out), (fun _ => rfl), (fun _ => rfl), (p4_ hF.out), (p5_ hF.out), (p6_ hF.out), (p7_ hF.out), (p8_ hF.out), (p9_ hF.out), (p10_ hF.out), (p11_ hF.out), (p12_ hF.out), (p13_ hF.out), (p14_ hF.out), (p15_ hF.out), (p16_ hF.out), (p17_ hF.out), (p18_ hF.out), (p19_ hF.out), (p20_ hF.out), (p21_ hF.out), (p22_ hF.out), (p23_ hF.out), (p24_ hF.out), (p25_ hF.out), (p26_ hF.out), (p27_ hF.out), (p28_ hF.out), (p29_ hF.out), (p30_ hF.out), (p31_ hF.out), (p32_ hF.out), (p33_ hF.out), (p34_ hF.out), (p35_ hF.out), (p36_ hF.out), (p37_ hF.out), (p38_ hF.out), (fun h => absurd ((p39_ hF.out) h 2 (by decide)) (by simp [hd])), (fun h => absurd ((p39_ hF.out) h 2 (by decide)) (by simp [hd]))⟩
    refine StepsF.cons (o := _) rfl (ws := [2]) (by kernel_rfl) (by decide) (fun d s b w hF hd hw K hK => ?_) ?_
    · have hk : d 38 = false := by cases e : d 38 with | false => rfl | true => exact absurd ((p39_ hF.out) e 3 (by decide)) (by simp [hd])
      have hB : Below V0.heap.size V0 w := (p0_ hF.out) hk
      have e2 : s 60 = .int .i64 3 := (p3_ hF.out) (hw 2 (by decide))
      dsimp only
      go_simp
      exact hK.out (ups (ups s 60 (.int .i64 3)) 61 (.pointer (some ⟨A, 3, none⟩))) b _ ⟨(fun _ => hB), (p1_ hF.out), (p2_ hF.out), (fun _ => rfl), (fun _ => rfl), (p5_ hF.out), (p6_ hF.out), (p7_ hF.out), (p8_ hF.out), (p9_ hF.out), (p10_ hF.out), (p11_ hF.out), (p12_ hF.out), (p13_ hF.out), (p14_ hF.out), (p15_ hF.out), (p16_ hF.out), (p17_ hF.out), (p18_ hF.out), (p19_ hF.out), (p20_ hF.out), (p21_ hF.out), (p22_ hF.out), (p23_ hF.out), (p24_ hF.out), (p25_ hF.out), (p26_ hF.out), (p27_ hF.out), (p28_ hF.out), (p29_ hF.out), (p30_ hF.out), (p31_ hF.out), (p32_ hF.out), (p33_ hF.out), (p34_ hF.out), (p35_ hF.out), (p36_ hF.out), (p37_ hF.out), (p38_ hF.out), (fun h => absurd ((p39_ hF.out) h 3 (by decide)) (by simp [hd])), (fun h => absurd ((p39_ hF.out) h 3 (by decide)) (by simp [hd]))⟩
    refine StepsF.cons (o := _) rfl (ws := [3]) (by kernel_rfl) (by decide) (fun d s b w hF hd hw K hK => ?_) ?_
    · have hk : d 38 = false := by cases e : d 38 with | false => rfl | true => exact absurd ((p39_ hF.out) e 4 (by decide)) (by simp [hd])
      have hB : Below V0.heap.size V0 w := (p0_ hF.out) hk
      have e3 : s 61 = .pointer (some ⟨A, 3, none⟩) := (p4_ hF.out) (hw 3 (by decide))
      dsimp only
      have oxa := HA.out.later hB
      have xa3 := oxa.at 3 _ rfl
      have xa4 := oxa.at 4 _ rfl
      have xa5 := oxa.at 5 _ rfl
      clear oxa
      have oxq := HQ.out.later hB
      have xq0 := oxq.at 0 _ rfl
      have xq1 := oxq.at 1 _ rfl
      have xq2 := oxq.at 2 _ rfl
      clear oxq
      have oxb := HB.out.later hB
      have xb1 := oxb.at 1 _ rfl
      clear oxb
      go_simp
      exact hK.out (ups (ups s 61 (.pointer (some ⟨A, 3, none⟩))) 62 (.int .i8 m3)) b _ ⟨(fun _ => hB), (p1_ hF.out), (p2_ hF.out), (p3_ hF.out), (fun _ => rfl), (fun _ => rfl), (p6_ hF.out), (p7_ hF.out), (p8_ hF.out), (p9_ hF.out), (p10_ hF.out), (p11_ hF.out), (p12_ hF.out), (p13_ hF.out), (p14_ hF.out), (p15_ hF.out), (p16_ hF.out), (p17_ hF.out), (p18_ hF.out), (p19_ hF.out), (p20_ hF.out), (p21_ hF.out), (p22_ hF.out), (p23_ hF.out), (p24_ hF.out), (p25_ hF.out), (p26_ hF.out), (p27_ hF.out), (p28_ hF.out), (p29_ hF.out), (p30_ hF.out), (p31_ hF.out), (p32_ hF.out), (p33_ hF.out), (p34_ hF.out), (p35_ hF.out), (p36_ hF.out), (p37_ hF.out), (p38_ hF.out), (fun h => absurd ((p39_ hF.out) h 4 (by decide)) (by simp [hd])), (fun h => absurd ((p39_ hF.out) h 4 (by decide)) (by simp [hd]))⟩
    refine StepsF.cons (o := _) rfl (ws := [4]) (by kernel_rfl) (by decide) (fun d s b w hF hd hw K hK => ?_) ?_
    · have hk : d 38 = false := by cases e : d 38 with | false => rfl | true => exact absurd ((p39_ hF.out) e 5 (by decide)) (by simp [hd])
      have hB : Below V0.heap.size V0 w := (p0_ hF.out) hk
      have e4 : s 62 = .int .i8 m3 := (p5_ hF.out) (hw 4 (by decide))
      dsimp only
      have cv := cm3.out
      go_simp
      first | rw [cv] | rw [IntWalk.i64_left, cv] | simp only [IntWalk.i64_left, cv] | (trace_state; fail)
      exact hK.out (ups (ups s 62 (.int .i8 m3)) 63 (.int .i64 m3)) b _ ⟨(fun _ => hB), (p1_ hF.out), (p2_ hF.out), (p3_ hF.out), (p4_ hF.out), (fun _ => rfl), (fun _ => rfl), (p7_ hF.out), (p8_ hF.out), (p9_ hF.out), (p10_ hF.out), (p11_ hF.out), (p12_ hF.out), (p13_ hF.out), (p14_ hF.out), (p15_ hF.out), (p16_ hF.out), (p17_ hF.out), (p18_ hF.out), (p19_ hF.out), (p20_ hF.out), (p21_ hF.out), (p22_ hF.out), (p23_ hF.out), (p24_ hF.out), (p25_ hF.out), (p26_ hF.out), (p27_ hF.out), (p28_ hF.out), (p29_ hF.out), (p30_ hF.out), (p31_ hF.out), (p32_ hF.out), (p33_ hF.out), (p34_ hF.out), (p35_ hF.out), (p36_ hF.out), (p37_ hF.out), (p38_ hF.out), (fun h => absurd ((p39_ hF.out) h 5 (by decide)) (by simp [hd])), (fun h => absurd ((p39_ hF.out) h 5 (by decide)) (by simp [hd]))⟩
    refine StepsF.cons (o := _) rfl (ws := []) (by kernel_rfl) (by decide) (fun d s b w hF hd hw K hK => ?_) ?_
    · have hk : d 38 = false := by cases e : d 38 with | false => rfl | true => exact absurd ((p39_ hF.out) e 6 (by decide)) (by simp [hd])
      have hB : Below V0.heap.size V0 w := (p0_ hF.out) hk
      dsimp only
      go_simp
      exact hK.out (ups s 64 (.pointer (some ⟨Q, 0, none⟩))) b _ ⟨(fun _ => hB), (p1_ hF.out), (p2_ hF.out), (p3_ hF.out), (p4_ hF.out), (p5_ hF.out), (p6_ hF.out), (fun _ => rfl), (p8_ hF.out), (p9_ hF.out), (p10_ hF.out), (p11_ hF.out), (p12_ hF.out), (p13_ hF.out), (p14_ hF.out), (p15_ hF.out), (p16_ hF.out), (p17_ hF.out), (p18_ hF.out), (p19_ hF.out), (p20_ hF.out), (p21_ hF.out), (p22_ hF.out), (p23_ hF.out), (p24_ hF.out), (p25_ hF.out), (p26_ hF.out), (p27_ hF.out), (p28_ hF.out), (p29_ hF.out), (p30_ hF.out), (p31_ hF.out), (p32_ hF.out), (p33_ hF.out), (p34_ hF.out), (p35_ hF.out), (p36_ hF.out), (p37_ hF.out), (p38_ hF.out), (fun h => absurd ((p39_ hF.out) h 6 (by decide)) (by simp [hd])), (fun h => absurd ((p39_ hF.out) h 6 (by decide)) (by simp [hd]))⟩
    refine StepsF.cons (o := _) rfl (ws := [6]) (by kernel_rfl) (by decide) (fun d s b w hF hd hw K hK => ?_) ?_
    · have hk : d 38 = false := by cases e : d 38 with | false => rfl | true => exact absurd ((p39_ hF.out) e 7 (by decide)) (by simp [hd])
      have hB : Below V0.heap.size V0 w := (p0_ hF.out) hk
      have e6 : s 64 = .pointer (some ⟨Q, 0, none⟩) := (p7_ hF.out) (hw 6 (by decide))
      dsimp only
      have oxa := HA.out.later hB
      have xa3 := oxa.at 3 _ rfl
      have xa4 := oxa.at 4 _ rfl
      have xa5 := oxa.at 5 _ rfl
      clear oxa
      have oxq := HQ.out.later hB
      have xq0 := oxq.at 0 _ rfl
      have xq1 := oxq.at 1 _ rfl
      have xq2 := oxq.at 2 _ rfl
      clear oxq
      have oxb := HB.out.later hB
      have xb1 := oxb.at 1 _ rfl
      clear oxb
      go_simp
      exact hK.out (ups (ups s 64 (.pointer (some ⟨Q, 0, none⟩))) 65 (.int .i8 q0)) b _ ⟨(fun _ => hB), (p1_ hF.out), (p2_ hF.out), (p3_ hF.out), (p4_ hF.out), (p5_ hF.out), (p6_ hF.out), (fun _ => rfl), (fun _ => rfl), (p9_ hF.out), (p10_ hF.out), (p11_ hF.out), (p12_ hF.out), (p13_ hF.out), (p14_ hF.out), (p15_ hF.out), (p16_ hF.out), (p17_ hF.out), (p18_ hF.out), (p19_ hF.out), (p20_ hF.out), (p21_ hF.out), (p22_ hF.out), (p23_ hF.out), (p24_ hF.out), (p25_ hF.out), (p26_ hF.out), (p27_ hF.out), (p28_ hF.out), (p29_ hF.out), (p30_ hF.out), (p31_ hF.out), (p32_ hF.out), (p33_ hF.out), (p34_ hF.out), (p35_ hF.out), (p36_ hF.out), (p37_ hF.out), (p38_ hF.out), (fun h => absurd ((p39_ hF.out) h 7 (by decide)) (by simp [hd])), (fun h => absurd ((p39_ hF.out) h 7 (by decide)) (by simp [hd]))⟩
    refine StepsF.cons (o := _) rfl (ws := [7]) (by kernel_rfl) (by decide) (fun d s b w hF hd hw K hK => ?_) ?_
    · have hk : d 38 = false := by cases e : d 38 with | false => rfl | true => exact absurd ((p39_ hF.out) e 8 (by decide)) (by simp [hd])
      have hB : Below V0.heap.size V0 w := (p0_ hF.out) hk
      have e7 : s 65 = .int .i8 q0 := (p8_ hF.out) (hw 7 (by decide))
      dsimp only
      have cv := cq0.out
      go_simp
      first | rw [cv] | rw [IntWalk.i64_left, cv] | simp only [IntWalk.i64_left, cv] | (trace_state; fail)
      exact hK.out (ups (ups s 65 (.int .i8 q0)) 66 (.int .i64 q0)) b _ ⟨(fun _ => hB), (p1_ hF.out), (p2_ hF.out), (p3_ hF.out), (p4_ hF.out), (p5_ hF.out), (p6_ hF.out), (p7_ hF.out), (fun _ => rfl), (fun _ => rfl), (p10_ hF.out), (p11_ hF.out), (p12_ hF.out), (p13_ hF.out), (p14_ hF.out), (p15_ hF.out), (p16_ hF.out), (p17_ hF.out), (p18_ hF.out), (p19_ hF.out), (p20_ hF.out), (p21_ hF.out), (p22_ hF.out), (p23_ hF.out), (p24_ hF.out), (p25_ hF.out), (p26_ hF.out), (p27_ hF.out), (p28_ hF.out), (p29_ hF.out), (p30_ hF.out), (p31_ hF.out), (p32_ hF.out), (p33_ hF.out), (p34_ hF.out), (p35_ hF.out), (p36_ hF.out), (p37_ hF.out), (p38_ hF.out), (fun h => absurd ((p39_ hF.out) h 8 (by decide)) (by simp [hd])), (fun h => absurd ((p39_ hF.out) h 8 (by decide)) (by simp [hd]))⟩
    refine StepsF.cons (o := _) rfl (ws := [5, 8]) (by kernel_rfl) (by decide) (fun d s b w hF hd hw K hK => ?_) ?_
    · have hk : d 38 = false := by cases e : d 38 with | false => rfl | true => exact absurd ((p39_ hF.out) e 9 (by decide)) (by simp [hd])
      have hB : Below V0.heap.size V0 w := (p0_ hF.out) hk
      have e5 : s 63 = .int .i64 m3 := (p6_ hF.out) (hw 5 (by decide))
      have e8 : s 66 = .int .i64 q0 := (p9_ hF.out) (hw 8 (by decide))
      dsimp only
      have cv := hp3.out
      go_simp
      first | rw [cv] | rw [IntWalk.i64_left, cv] | simp only [IntWalk.i64_left, cv] | (trace_state; fail)
      exact hK.out (ups (ups (ups s 63 (.int .i64 m3)) 66 (.int .i64 q0)) 67 (.int .i64 p3)) b _ ⟨(fun _ => hB), (p1_ hF.out), (p2_ hF.out), (p3_ hF.out), (p4_ hF.out), (p5_ hF.out), (fun _ => rfl), (p7_ hF.out), (p8_ hF.out), (fun _ => rfl), (fun _ => rfl), (p11_ hF.out), (p12_ hF.out), (p13_ hF.out), (p14_ hF.out), (p15_ hF.out), (p16_ hF.out), (p17_ hF.out), (p18_ hF.out), (p19_ hF.out), (p20_ hF.out), (p21_ hF.out), (p22_ hF.out), (p23_ hF.out), (p24_ hF.out), (p25_ hF.out), (p26_ hF.out), (p27_ hF.out), (p28_ hF.out), (p29_ hF.out), (p30_ hF.out), (p31_ hF.out), (p32_ hF.out), (p33_ hF.out), (p34_ hF.out), (p35_ hF.out), (p36_ hF.out), (p37_ hF.out), (p38_ hF.out), (fun h => absurd ((p39_ hF.out) h 9 (by decide)) (by simp [hd])), (fun h => absurd ((p39_ hF.out) h 9 (by decide)) (by simp [hd]))⟩
    refine StepsF.cons (o := _) rfl (ws := []) (by kernel_rfl) (by decide) (fun d s b w hF hd hw K hK => ?_) ?_
    · have hk : d 38 = false := by cases e : d 38 with | false => rfl | true => exact absurd ((p39_ hF.out) e 10 (by decide)) (by simp [hd])
      have hB : Below V0.heap.size V0 w := (p0_ hF.out) hk
      dsimp only
      go_simp
      exact hK.out (ups s 68 (.int .i64 1)) b _ ⟨(fun _ => hB), (p1_ hF.out), (p2_ hF.out), (p3_ hF.out), (p4_ hF.out), (p5_ hF.out), (p6_ hF.out), (p7_ hF.out), (p8_ hF.out), (p9_ hF.out), (p10_ hF.out), (fun _ => rfl), (p12_ hF.out), (p13_ hF.out), (p14_ hF.out), (p15_ hF.out), (p16_ hF.out), (p17_ hF.out), (p18_ hF.out), (p19_ hF.out), (p20_ hF.out), (p21_ hF.out), (p22_ hF.out), (p23_ hF.out), (p24_ hF.out), (p25_ hF.out), (p26_ hF.out), (p27_ hF.out), (p28_ hF.out), (p29_ hF.out), (p30_ hF.out), (p31_ hF.out), (p32_ hF.out), (p33_ hF.out), (p34_ hF.out), (p35_ hF.out), (p36_ hF.out), (p37_ hF.out), (p38_ hF.out), (fun h => absurd ((p39_ hF.out) h 10 (by decide)) (by simp [hd])), (fun h => absurd ((p39_ hF.out) h 10 (by decide)) (by simp [hd]))⟩
    refine StepsF.cons (o := _) rfl (ws := [10]) (by kernel_rfl) (by decide) (fun d s b w hF hd hw K hK => ?_) ?_
    · have hk : d 38 = false := by cases e : d 38 with | false => rfl | true => exact absurd ((p39_ hF.out) e 11 (by decide)) (by simp [hd])
      have hB : Below V0.heap.size V0 w := (p0_ hF.out) hk
      have e10 : s 68 = .int .i64 1 := (p11_ hF.out) (hw 10 (by decide))
      dsimp only
      go_simp
      exact hK.out (ups (ups s 68 (.int .i64 1)) 69 (.int .i64 3)) b _ ⟨(fun _ => hB), (p1_ hF.out), (p2_ hF.out), (p3_ hF.out), (p4_ hF.out), (p5_ hF.out), (p6_ hF.out), (p7_ hF.out), (p8_ hF.out), (p9_ hF.out), (p10_ hF.out), (fun _ => rfl), (fun _ => rfl), (p13_ hF.out), (p14_ hF.out), (p15_ hF.out), (p16_ hF.out), (p17_ hF.out), (p18_ hF.out), (p19_ hF.out), (p20_ hF.out), (p21_ hF.out), (p22_ hF.out), (p23_ hF.out), (p24_ hF.out), (p25_ hF.out), (p26_ hF.out), (p27_ hF.out), (p28_ hF.out), (p29_ hF.out), (p30_ hF.out), (p31_ hF.out), (p32_ hF.out), (p33_ hF.out), (p34_ hF.out), (p35_ hF.out), (p36_ hF.out), (p37_ hF.out), (p38_ hF.out), (fun h => absurd ((p39_ hF.out) h 11 (by decide)) (by simp [hd])), (fun h => absurd ((p39_ hF.out) h 11 (by decide)) (by simp [hd]))⟩
    refine StepsF.cons (o := _) rfl (ws := [11]) (by kernel_rfl) (by decide) (fun d s b w hF hd hw K hK => ?_) ?_
    · have hk : d 38 = false := by cases e : d 38 with | false => rfl | true => exact absurd ((p39_ hF.out) e 12 (by decide)) (by simp [hd])
      have hB : Below V0.heap.size V0 w := (p0_ hF.out) hk
      have e11 : s 69 = .int .i64 3 := (p12_ hF.out) (hw 11 (by decide))
      dsimp only
      go_simp
      exact hK.out (ups (ups s 69 (.int .i64 3)) 70 (.int .i64 4)) b _ ⟨(fun _ => hB), (p1_ hF.out), (p2_ hF.out), (p3_ hF.out), (p4_ hF.out), (p5_ hF.out), (p6_ hF.out), (p7_ hF.out), (p8_ hF.out), (p9_ hF.out), (p10_ hF.out), (p11_ hF.out), (fun _ => rfl), (fun _ => rfl), (p14_ hF.out), (p15_ hF.out), (p16_ hF.out), (p17_ hF.out), (p18_ hF.out), (p19_ hF.out), (p20_ hF.out), (p21_ hF.out), (p22_ hF.out), (p23_ hF.out), (p24_ hF.out), (p25_ hF.out), (p26_ hF.out), (p27_ hF.out), (p28_ hF.out), (p29_ hF.out), (p30_ hF.out), (p31_ hF.out), (p32_ hF.out), (p33_ hF.out), (p34_ hF.out), (p35_ hF.out), (p36_ hF.out), (p37_ hF.out), (p38_ hF.out), (fun h => absurd ((p39_ hF.out) h 12 (by decide)) (by simp [hd])), (fun h => absurd ((p39_ hF.out) h 12 (by decide)) (by simp [hd]))⟩
    refine StepsF.cons (o := _) rfl (ws := [12]) (by kernel_rfl) (by decide) (fun d s b w hF hd hw K hK => ?_) ?_
    · have hk : d 38 = false := by cases e : d 38 with | false => rfl | true => exact absurd ((p39_ hF.out) e 13 (by decide)) (by simp [hd])
      have hB : Below V0.heap.size V0 w := (p0_ hF.out) hk
      have e12 : s 70 = .int .i64 4 := (p13_ hF.out) (hw 12 (by decide))
      dsimp only
      go_simp
      exact hK.out (ups (ups s 70 (.int .i64 4)) 71 (.pointer (some ⟨A, 4, none⟩))) b _ ⟨(fun _ => hB), (p1_ hF.out), (p2_ hF.out), (p3_ hF.out), (p4_ hF.out), (p5_ hF.out), (p6_ hF.out), (p7_ hF.out), (p8_ hF.out), (p9_ hF.out), (p10_ hF.out), (p11_ hF.out), (p12_ hF.out), (fun _ => rfl), (fun _ => rfl), (p15_ hF.out), (p16_ hF.out), (p17_ hF.out), (p18_ hF.out), (p19_ hF.out), (p20_ hF.out), (p21_ hF.out), (p22_ hF.out), (p23_ hF.out), (p24_ hF.out), (p25_ hF.out), (p26_ hF.out), (p27_ hF.out), (p28_ hF.out), (p29_ hF.out), (p30_ hF.out), (p31_ hF.out), (p32_ hF.out), (p33_ hF.out), (p34_ hF.out), (p35_ hF.out), (p36_ hF.out), (p37_ hF.out), (p38_ hF.out), (fun h => absurd ((p39_ hF.out) h 13 (by decide)) (by simp [hd])), (fun h => absurd ((p39_ hF.out) h 13 (by decide)) (by simp [hd]))⟩
    refine StepsF.cons (o := _) rfl (ws := [13]) (by kernel_rfl) (by decide) (fun d s b w hF hd hw K hK => ?_) ?_
    · have hk : d 38 = false := by cases e : d 38 with | false => rfl | true => exact absurd ((p39_ hF.out) e 14 (by decide)) (by simp [hd])
      have hB : Below V0.heap.size V0 w := (p0_ hF.out) hk
      have e13 : s 71 = .pointer (some ⟨A, 4, none⟩) := (p14_ hF.out) (hw 13 (by decide))
      dsimp only
      have oxa := HA.out.later hB
      have xa3 := oxa.at 3 _ rfl
      have xa4 := oxa.at 4 _ rfl
      have xa5 := oxa.at 5 _ rfl
      clear oxa
      have oxq := HQ.out.later hB
      have xq0 := oxq.at 0 _ rfl
      have xq1 := oxq.at 1 _ rfl
      have xq2 := oxq.at 2 _ rfl
      clear oxq
      have oxb := HB.out.later hB
      have xb1 := oxb.at 1 _ rfl
      clear oxb
      go_simp
      exact hK.out (ups (ups s 71 (.pointer (some ⟨A, 4, none⟩))) 72 (.int .i8 m4)) b _ ⟨(fun _ => hB), (p1_ hF.out), (p2_ hF.out), (p3_ hF.out), (p4_ hF.out), (p5_ hF.out), (p6_ hF.out), (p7_ hF.out), (p8_ hF.out), (p9_ hF.out), (p10_ hF.out), (p11_ hF.out), (p12_ hF.out), (p13_ hF.out), (fun _ => rfl), (fun _ => rfl), (p16_ hF.out), (p17_ hF.out), (p18_ hF.out), (p19_ hF.out), (p20_ hF.out), (p21_ hF.out), (p22_ hF.out), (p23_ hF.out), (p24_ hF.out), (p25_ hF.out), (p26_ hF.out), (p27_ hF.out), (p28_ hF.out), (p29_ hF.out), (p30_ hF.out), (p31_ hF.out), (p32_ hF.out), (p33_ hF.out), (p34_ hF.out), (p35_ hF.out), (p36_ hF.out), (p37_ hF.out), (p38_ hF.out), (fun h => absurd ((p39_ hF.out) h 14 (by decide)) (by simp [hd])), (fun h => absurd ((p39_ hF.out) h 14 (by decide)) (by simp [hd]))⟩
    refine StepsF.cons (o := _) rfl (ws := [14]) (by kernel_rfl) (by decide) (fun d s b w hF hd hw K hK => ?_) ?_
    · have hk : d 38 = false := by cases e : d 38 with | false => rfl | true => exact absurd ((p39_ hF.out) e 15 (by decide)) (by simp [hd])
      have hB : Below V0.heap.size V0 w := (p0_ hF.out) hk
      have e14 : s 72 = .int .i8 m4 := (p15_ hF.out) (hw 14 (by decide))
      dsimp only
      have cv := cm4.out
      go_simp
      first | rw [cv] | rw [IntWalk.i64_left, cv] | simp only [IntWalk.i64_left, cv] | (trace_state; fail)
      exact hK.out (ups (ups s 72 (.int .i8 m4)) 73 (.int .i64 m4)) b _ ⟨(fun _ => hB), (p1_ hF.out), (p2_ hF.out), (p3_ hF.out), (p4_ hF.out), (p5_ hF.out), (p6_ hF.out), (p7_ hF.out), (p8_ hF.out), (p9_ hF.out), (p10_ hF.out), (p11_ hF.out), (p12_ hF.out), (p13_ hF.out), (p14_ hF.out), (fun _ => rfl), (fun _ => rfl), (p17_ hF.out), (p18_ hF.out), (p19_ hF.out), (p20_ hF.out), (p21_ hF.out), (p22_ hF.out), (p23_ hF.out), (p24_ hF.out), (p25_ hF.out), (p26_ hF.out), (p27_ hF.out), (p28_ hF.out), (p29_ hF.out), (p30_ hF.out), (p31_ hF.out), (p32_ hF.out), (p33_ hF.out), (p34_ hF.out), (p35_ hF.out), (p36_ hF.out), (p37_ hF.out), (p38_ hF.out), (fun h => absurd ((p39_ hF.out) h 15 (by decide)) (by simp [hd])), (fun h => absurd ((p39_ hF.out) h 15 (by decide)) (by simp [hd]))⟩
    refine StepsF.cons (o := _) rfl (ws := []) (by kernel_rfl) (by decide) (fun d s b w hF hd hw K hK => ?_) ?_
    · have hk : d 38 = false := by cases e : d 38 with | false => rfl | true => exact absurd ((p39_ hF.out) e 16 (by decide)) (by simp [hd])
      have hB : Below V0.heap.size V0 w := (p0_ hF.out) hk
      dsimp only
      go_simp
      exact hK.out (ups s 74 (.pointer (some ⟨Q, 1, none⟩))) b _ ⟨(fun _ => hB), (p1_ hF.out), (p2_ hF.out), (p3_ hF.out), (p4_ hF.out), (p5_ hF.out), (p6_ hF.out), (p7_ hF.out), (p8_ hF.out), (p9_ hF.out), (p10_ hF.out), (p11_ hF.out), (p12_ hF.out), (p13_ hF.out), (p14_ hF.out), (p15_ hF.out), (p16_ hF.out), (fun _ => rfl), (p18_ hF.out), (p19_ hF.out), (p20_ hF.out), (p21_ hF.out), (p22_ hF.out), (p23_ hF.out), (p24_ hF.out), (p25_ hF.out), (p26_ hF.out), (p27_ hF.out), (p28_ hF.out), (p29_ hF.out), (p30_ hF.out), (p31_ hF.out), (p32_ hF.out), (p33_ hF.out), (p34_ hF.out), (p35_ hF.out), (p36_ hF.out), (p37_ hF.out), (p38_ hF.out), (fun h => absurd ((p39_ hF.out) h 16 (by decide)) (by simp [hd])), (fun h => absurd ((p39_ hF.out) h 16 (by decide)) (by simp [hd]))⟩
    refine StepsF.cons (o := _) rfl (ws := [16]) (by kernel_rfl) (by decide) (fun d s b w hF hd hw K hK => ?_) ?_
    · have hk : d 38 = false := by cases e : d 38 with | false => rfl | true => exact absurd ((p39_ hF.out) e 17 (by decide)) (by simp [hd])
      have hB : Below V0.heap.size V0 w := (p0_ hF.out) hk
      have e16 : s 74 = .pointer (some ⟨Q, 1, none⟩) := (p17_ hF.out) (hw 16 (by decide))
      dsimp only
      have oxa := HA.out.later hB
      have xa3 := oxa.at 3 _ rfl
      have xa4 := oxa.at 4 _ rfl
      have xa5 := oxa.at 5 _ rfl
      clear oxa
      have oxq := HQ.out.later hB
      have xq0 := oxq.at 0 _ rfl
      have xq1 := oxq.at 1 _ rfl
      have xq2 := oxq.at 2 _ rfl
      clear oxq
      have oxb := HB.out.later hB
      have xb1 := oxb.at 1 _ rfl
      clear oxb
      go_simp
      exact hK.out (ups (ups s 74 (.pointer (some ⟨Q, 1, none⟩))) 75 (.int .i8 q1)) b _ ⟨(fun _ => hB), (p1_ hF.out), (p2_ hF.out), (p3_ hF.out), (p4_ hF.out), (p5_ hF.out), (p6_ hF.out), (p7_ hF.out), (p8_ hF.out), (p9_ hF.out), (p10_ hF.out), (p11_ hF.out), (p12_ hF.out), (p13_ hF.out), (p14_ hF.out), (p15_ hF.out), (p16_ hF.out), (fun _ => rfl), (fun _ => rfl), (p19_ hF.out), (p20_ hF.out), (p21_ hF.out), (p22_ hF.out), (p23_ hF.out), (p24_ hF.out), (p25_ hF.out), (p26_ hF.out), (p27_ hF.out), (p28_ hF.out), (p29_ hF.out), (p30_ hF.out), (p31_ hF.out), (p32_ hF.out), (p33_ hF.out), (p34_ hF.out), (p35_ hF.out), (p36_ hF.out), (p37_ hF.out), (p38_ hF.out), (fun h => absurd ((p39_ hF.out) h 17 (by decide)) (by simp [hd])), (fun h => absurd ((p39_ hF.out) h 17 (by decide)) (by simp [hd]))⟩
    refine StepsF.cons (o := _) rfl (ws := [17]) (by kernel_rfl) (by decide) (fun d s b w hF hd hw K hK => ?_) ?_
    · have hk : d 38 = false := by cases e : d 38 with | false => rfl | true => exact absurd ((p39_ hF.out) e 18 (by decide)) (by simp [hd])
      have hB : Below V0.heap.size V0 w := (p0_ hF.out) hk
      have e17 : s 75 = .int .i8 q1 := (p18_ hF.out) (hw 17 (by decide))
      dsimp only
      have cv := cq1.out
      go_simp
      first | rw [cv] | rw [IntWalk.i64_left, cv] | simp only [IntWalk.i64_left, cv] | (trace_state; fail)
      exact hK.out (ups (ups s 75 (.int .i8 q1)) 76 (.int .i64 q1)) b _ ⟨(fun _ => hB), (p1_ hF.out), (p2_ hF.out), (p3_ hF.out), (p4_ hF.out), (p5_ hF.out), (p6_ hF.out), (p7_ hF.out), (p8_ hF.out), (p9_ hF.out), (p10_ hF.out), (p11_ hF.out), (p12_ hF.out), (p13_ hF.out), (p14_ hF.out), (p15_ hF.out), (p16_ hF.out), (p17_ hF.out), (fun _ => rfl), (fun _ => rfl), (p20_ hF.out), (p21_ hF.out), (p22_ hF.out), (p23_ hF.out), (p24_ hF.out), (p25_ hF.out), (p26_ hF.out), (p27_ hF.out), (p28_ hF.out), (p29_ hF.out), (p30_ hF.out), (p31_ hF.out), (p32_ hF.out), (p33_ hF.out), (p34_ hF.out), (p35_ hF.out), (p36_ hF.out), (p37_ hF.out), (p38_ hF.out), (fun h => absurd ((p39_ hF.out) h 18 (by decide)) (by simp [hd])), (fun h => absurd ((p39_ hF.out) h 18 (by decide)) (by simp [hd]))⟩
    refine StepsF.cons (o := _) rfl (ws := [15, 18]) (by kernel_rfl) (by decide) (fun d s b w hF hd hw K hK => ?_) ?_
    · have hk : d 38 = false := by cases e : d 38 with | false => rfl | true => exact absurd ((p39_ hF.out) e 19 (by decide)) (by simp [hd])
      have hB : Below V0.heap.size V0 w := (p0_ hF.out) hk
      have e15 : s 73 = .int .i64 m4 := (p16_ hF.out) (hw 15 (by decide))
      have e18 : s 76 = .int .i64 q1 := (p19_ hF.out) (hw 18 (by decide))
      dsimp only
      have cv := hp4.out
      go_simp
      first | rw [cv] | rw [IntWalk.i64_left, cv] | simp only [IntWalk.i64_left, cv] | (trace_state; fail)
      exact hK.out (ups (ups (ups s 73 (.int .i64 m4)) 76 (.int .i64 q1)) 77 (.int .i64 p4)) b _ ⟨(fun _ => hB), (p1_ hF.out), (p2_ hF.out), (p3_ hF.out), (p4_ hF.out), (p5_ hF.out), (p6_ hF.out), (p7_ hF.out), (p8_ hF.out), (p9_ hF.out), (p10_ hF.out), (p11_ hF.out), (p12_ hF.out), (p13_ hF.out), (p14_ hF.out), (p15_ hF.out), (fun _ => rfl), (p17_ hF.out), (p18_ hF.out), (fun _ => rfl), (fun _ => rfl), (p21_ hF.out), (p22_ hF.out), (p23_ hF.out), (p24_ hF.out), (p25_ hF.out), (p26_ hF.out), (p27_ hF.out), (p28_ hF.out), (p29_ hF.out), (p30_ hF.out), (p31_ hF.out), (p32_ hF.out), (p33_ hF.out), (p34_ hF.out), (p35_ hF.out), (p36_ hF.out), (p37_ hF.out), (p38_ hF.out), (fun h => absurd ((p39_ hF.out) h 19 (by decide)) (by simp [hd])), (fun h => absurd ((p39_ hF.out) h 19 (by decide)) (by simp [hd]))⟩
    refine StepsF.cons (o := _) rfl (ws := [9, 19]) (by kernel_rfl) (by decide) (fun d s b w hF hd hw K hK => ?_) ?_
    · have hk : d 38 = false := by cases e : d 38 with | false => rfl | true => exact absurd ((p39_ hF.out) e 20 (by decide)) (by simp [hd])
      have hB : Below V0.heap.size V0 w := (p0_ hF.out) hk
      have e9 : s 67 = .int .i64 p3 := (p10_ hF.out) (hw 9 (by decide))
      have e19 : s 77 = .int .i64 p4 := (p20_ hF.out) (hw 19 (by decide))
      dsimp only
      have cv := hs1.out
      go_simp
      first | rw [cv] | rw [IntWalk.i64_left, cv] | simp only [IntWalk.i64_left, cv] | (trace_state; fail)
      exact hK.out (ups (ups (ups s 67 (.int .i64 p3)) 77 (.int .i64 p4)) 78 (.int .i64 s1)) b _ ⟨(fun _ => hB), (p1_ hF.out), (p2_ hF.out), (p3_ hF.out), (p4_ hF.out), (p5_ hF.out), (p6_ hF.out), (p7_ hF.out), (p8_ hF.out), (p9_ hF.out), (fun _ => rfl), (p11_ hF.out), (p12_ hF.out), (p13_ hF.out), (p14_ hF.out), (p15_ hF.out), (p16_ hF.out), (p17_ hF.out), (p18_ hF.out), (p19_ hF.out), (fun _ => rfl), (fun _ => rfl), (p22_ hF.out), (p23_ hF.out), (p24_ hF.out), (p25_ hF.out), (p26_ hF.out), (p27_ hF.out), (p28_ hF.out), (p29_ hF.out), (p30_ hF.out), (p31_ hF.out), (p32_ hF.out), (p33_ hF.out), (p34_ hF.out), (p35_ hF.out), (p36_ hF.out), (p37_ hF.out), (p38_ hF.out), (fun h => absurd ((p39_ hF.out) h 20 (by decide)) (by simp [hd])), (fun h => absurd ((p39_ hF.out) h 20 (by decide)) (by simp [hd]))⟩
    refine StepsF.cons (o := _) rfl (ws := []) (by kernel_rfl) (by decide) (fun d s b w hF hd hw K hK => ?_) ?_
    · have hk : d 38 = false := by cases e : d 38 with | false => rfl | true => exact absurd ((p39_ hF.out) e 21 (by decide)) (by simp [hd])
      have hB : Below V0.heap.size V0 w := (p0_ hF.out) hk
      dsimp only
      go_simp
      exact hK.out (ups s 79 (.int .i64 1)) b _ ⟨(fun _ => hB), (p1_ hF.out), (p2_ hF.out), (p3_ hF.out), (p4_ hF.out), (p5_ hF.out), (p6_ hF.out), (p7_ hF.out), (p8_ hF.out), (p9_ hF.out), (p10_ hF.out), (p11_ hF.out), (p12_ hF.out), (p13_ hF.out), (p14_ hF.out), (p15_ hF.out), (p16_ hF.out), (p17_ hF.out), (p18_ hF.out), (p19_ hF.out), (p20_ hF.out), (p21_ hF.out), (fun _ => rfl), (p23_ hF.out), (p24_ hF.out), (p25_ hF.out), (p26_ hF.out), (p27_ hF.out), (p28_ hF.out), (p29_ hF.out), (p30_ hF.out), (p31_ hF.out), (p32_ hF.out), (p33_ hF.out), (p34_ hF.out), (p35_ hF.out), (p36_ hF.out), (p37_ hF.out), (p38_ hF.out), (fun h => absurd ((p39_ hF.out) h 21 (by decide)) (by simp [hd])), (fun h => absurd ((p39_ hF.out) h 21 (by decide)) (by simp [hd]))⟩
    refine StepsF.cons (o := _) rfl (ws := [21]) (by kernel_rfl) (by decide) (fun d s b w hF hd hw K hK => ?_) ?_
    · have hk : d 38 = false := by cases e : d 38 with | false => rfl | true => exact absurd ((p39_ hF.out) e 22 (by decide)) (by simp [hd])
      have hB : Below V0.heap.size V0 w := (p0_ hF.out) hk
      have e21 : s 79 = .int .i64 1 := (p22_ hF.out) (hw 21 (by decide))
      dsimp only
      go_simp
      exact hK.out (ups (ups s 79 (.int .i64 1)) 80 (.int .i64 3)) b _ ⟨(fun _ => hB), (p1_ hF.out), (p2_ hF.out), (p3_ hF.out), (p4_ hF.out), (p5_ hF.out), (p6_ hF.out), (p7_ hF.out), (p8_ hF.out), (p9_ hF.out), (p10_ hF.out), (p11_ hF.out), (p12_ hF.out), (p13_ hF.out), (p14_ hF.out), (p15_ hF.out), (p16_ hF.out), (p17_ hF.out), (p18_ hF.out), (p19_ hF.out), (p20_ hF.out), (p21_ hF.out), (fun _ => rfl), (fun _ => rfl), (p24_ hF.out), (p25_ hF.out), (p26_ hF.out), (p27_ hF.out), (p28_ hF.out), (p29_ hF.out), (p30_ hF.out), (p31_ hF.out), (p32_ hF.out), (p33_ hF.out), (p34_ hF.out), (p35_ hF.out), (p36_ hF.out), (p37_ hF.out), (p38_ hF.out), (fun h => absurd ((p39_ hF.out) h 22 (by decide)) (by simp [hd])), (fun h => absurd ((p39_ hF.out) h 22 (by decide)) (by simp [hd]))⟩
    refine StepsF.cons (o := _) rfl (ws := [22]) (by kernel_rfl) (by decide) (fun d s b w hF hd hw K hK => ?_) ?_
    · have hk : d 38 = false := by cases e : d 38 with | false => rfl | true => exact absurd ((p39_ hF.out) e 23 (by decide)) (by simp [hd])
      have hB : Below V0.heap.size V0 w := (p0_ hF.out) hk
      have e22 : s 80 = .int .i64 3 := (p23_ hF.out) (hw 22 (by decide))
      dsimp only
      go_simp
      exact hK.out (ups (ups s 80 (.int .i64 3)) 81 (.int .i64 5)) b _ ⟨(fun _ => hB), (p1_ hF.out), (p2_ hF.out), (p3_ hF.out), (p4_ hF.out), (p5_ hF.out), (p6_ hF.out), (p7_ hF.out), (p8_ hF.out), (p9_ hF.out), (p10_ hF.out), (p11_ hF.out), (p12_ hF.out), (p13_ hF.out), (p14_ hF.out), (p15_ hF.out), (p16_ hF.out), (p17_ hF.out), (p18_ hF.out), (p19_ hF.out), (p20_ hF.out), (p21_ hF.out), (p22_ hF.out), (fun _ => rfl), (fun _ => rfl), (p25_ hF.out), (p26_ hF.out), (p27_ hF.out), (p28_ hF.out), (p29_ hF.out), (p30_ hF.out), (p31_ hF.out), (p32_ hF.out), (p33_ hF.out), (p34_ hF.out), (p35_ hF.out), (p36_ hF.out), (p37_ hF.out), (p38_ hF.out), (fun h => absurd ((p39_ hF.out) h 23 (by decide)) (by simp [hd])), (fun h => absurd ((p39_ hF.out) h 23 (by decide)) (by simp [hd]))⟩
    refine StepsF.cons (o := _) rfl (ws := [23]) (by kernel_rfl) (by decide) (fun d s b w hF hd hw K hK => ?_) ?_
    · have hk : d 38 = false := by cases e : d 38 with | false => rfl | true => exact absurd ((p39_ hF.out) e 24 (by decide)) (by simp [hd])
      have hB : Below V0.heap.size V0 w := (p0_ hF.out) hk
      have e23 : s 81 = .int .i64 5 := (p24_ hF.out) (hw 23 (by decide))
      dsimp only
      go_simp
      exact hK.out (ups (ups s 81 (.int .i64 5)) 82 (.pointer (some ⟨A, 5, none⟩))) b _ ⟨(fun _ => hB), (p1_ hF.out), (p2_ hF.out), (p3_ hF.out), (p4_ hF.out), (p5_ hF.out), (p6_ hF.out), (p7_ hF.out), (p8_ hF.out), (p9_ hF.out), (p10_ hF.out), (p11_ hF.out), (p12_ hF.out), (p13_ hF.out), (p14_ hF.out), (p15_ hF.out), (p16_ hF.out), (p17_ hF.out), (p18_ hF.out), (p19_ hF.out), (p20_ hF.out), (p21_ hF.out), (p22_ hF.out), (p23_ hF.out), (fun _ => rfl), (fun _ => rfl), (p26_ hF.out), (p27_ hF.out), (p28_ hF.out), (p29_ hF.out), (p30_ hF.out), (p31_ hF.out), (p32_ hF.out), (p33_ hF.out), (p34_ hF.out), (p35_ hF.out), (p36_ hF.out), (p37_ hF.out), (p38_ hF.out), (fun h => absurd ((p39_ hF.out) h 24 (by decide)) (by simp [hd])), (fun h => absurd ((p39_ hF.out) h 24 (by decide)) (by simp [hd]))⟩
    refine StepsF.cons (o := _) rfl (ws := [24]) (by kernel_rfl) (by decide) (fun d s b w hF hd hw K hK => ?_) ?_
    · have hk : d 38 = false := by cases e : d 38 with | false => rfl | true => exact absurd ((p39_ hF.out) e 25 (by decide)) (by simp [hd])
      have hB : Below V0.heap.size V0 w := (p0_ hF.out) hk
      have e24 : s 82 = .pointer (some ⟨A, 5, none⟩) := (p25_ hF.out) (hw 24 (by decide))
      dsimp only
      have oxa := HA.out.later hB
      have xa3 := oxa.at 3 _ rfl
      have xa4 := oxa.at 4 _ rfl
      have xa5 := oxa.at 5 _ rfl
      clear oxa
      have oxq := HQ.out.later hB
      have xq0 := oxq.at 0 _ rfl
      have xq1 := oxq.at 1 _ rfl
      have xq2 := oxq.at 2 _ rfl
      clear oxq
      have oxb := HB.out.later hB
      have xb1 := oxb.at 1 _ rfl
      clear oxb
      go_simp
      exact hK.out (ups (ups s 82 (.pointer (some ⟨A, 5, none⟩))) 83 (.int .i8 m5)) b _ ⟨(fun _ => hB), (p1_ hF.out), (p2_ hF.out), (p3_ hF.out), (p4_ hF.out), (p5_ hF.out), (p6_ hF.out), (p7_ hF.out), (p8_ hF.out), (p9_ hF.out), (p10_ hF.out), (p11_ hF.out), (p12_ hF.out), (p13_ hF.out), (p14_ hF.out), (p15_ hF.out), (p16_ hF.out), (p17_ hF.out), (p18_ hF.out), (p19_ hF.out), (p20_ hF.out), (p21_ hF.out), (p22_ hF.out), (p23_ hF.out), (p24_ hF.out), (fun _ => rfl), (fun _ => rfl), (p27_ hF.out), (p28_ hF.out), (p29_ hF.out), (p30_ hF.out), (p31_ hF.out), (p32_ hF.out), (p33_ hF.out), (p34_ hF.out), (p35_ hF.out), (p36_ hF.out), (p37_ hF.out), (p38_ hF.out), (fun h => absurd ((p39_ hF.out) h 25 (by decide)) (by simp [hd])), (fun h => absurd ((p39_ hF.out) h 25 (by decide)) (by simp [hd]))⟩
    refine StepsF.cons (o := _) rfl (ws := [25]) (by kernel_rfl) (by decide) (fun d s b w hF hd hw K hK => ?_) ?_
    · have hk : d 38 = false := by cases e : d 38 with | false => rfl | true => exact absurd ((p39_ hF.out) e 26 (by decide)) (by simp [hd])
      have hB : Below V0.heap.size V0 w := (p0_ hF.out) hk
      have e25 : s 83 = .int .i8 m5 := (p26_ hF.out) (hw 25 (by decide))
      dsimp only
      have cv := cm5.out
      go_simp
      first | rw [cv] | rw [IntWalk.i64_left, cv] | simp only [IntWalk.i64_left, cv] | (trace_state; fail)
      exact hK.out (ups (ups s 83 (.int .i8 m5)) 84 (.int .i64 m5)) b _ ⟨(fun _ => hB), (p1_ hF.out), (p2_ hF.out), (p3_ hF.out), (p4_ hF.out), (p5_ hF.out), (p6_ hF.out), (p7_ hF.out), (p8_ hF.out), (p9_ hF.out), (p10_ hF.out), (p11_ hF.out), (p12_ hF.out), (p13_ hF.out), (p14_ hF.out), (p15_ hF.out), (p16_ hF.out), (p17_ hF.out), (p18_ hF.out), (p19_ hF.out), (p20_ hF.out), (p21_ hF.out), (p22_ hF.out), (p23_ hF.out), (p24_ hF.out), (p25_ hF.out), (fun _ => rfl), (fun _ => rfl), (p28_ hF.out), (p29_ hF.out), (p30_ hF.out), (p31_ hF.out), (p32_ hF.out), (p33_ hF.out), (p34_ hF.out), (p35_ hF.out), (p36_ hF.out), (p37_ hF.out), (p38_ hF.out), (fun h => absurd ((p39_ hF.out) h 26 (by decide)) (by simp [hd])), (fun h => absurd ((p39_ hF.out) h 26 (by decide)) (by simp [hd]))⟩
    refine StepsF.cons (o := _) rfl (ws := []) (by kernel_rfl) (by decide) (fun d s b w hF hd hw K hK => ?_) ?_
    · have hk : d 38 = false := by cases e : d 38 with | false => rfl | true => exact absurd ((p39_ hF.out) e 27 (by decide)) (by simp [hd])
      have hB : Below V0.heap.size V0 w := (p0_ hF.out) hk
      dsimp only
      go_simp
      exact hK.out (ups s 85 (.pointer (some ⟨Q, 2, none⟩))) b _ ⟨(fun _ => hB), (p1_ hF.out), (p2_ hF.out), (p3_ hF.out), (p4_ hF.out), (p5_ hF.out), (p6_ hF.out), (p7_ hF.out), (p8_ hF.out), (p9_ hF.out), (p10_ hF.out), (p11_ hF.out), (p12_ hF.out), (p13_ hF.out), (p14_ hF.out), (p15_ hF.out), (p16_ hF.out), (p17_ hF.out), (p18_ hF.out), (p19_ hF.out), (p20_ hF.out), (p21_ hF.out), (p22_ hF.out), (p23_ hF.out), (p24_ hF.out), (p25_ hF.out), (p26_ hF.out), (p27_ hF.out), (fun _ => rfl), (p29_ hF.out), (p30_ hF.out), (p31_ hF.out), (p32_ hF.out), (p33_ hF.out), (p34_ hF.out), (p35_ hF.out), (p36_ hF.out), (p37_ hF.out), (p38_ hF.out), (fun h => absurd ((p39_ hF.out) h 27 (by decide)) (by simp [hd])), (fun h => absurd ((p39_ hF.out) h 27 (by decide)) (by simp [hd]))⟩
    refine StepsF.cons (o := _) rfl (ws := [27]) (by kernel_rfl) (by decide) (fun d s b w hF hd hw K hK => ?_) ?_
    · have hk : d 38 = false := by cases e : d 38 with | false => rfl | true => exact absurd ((p39_ hF.out) e 28 (by decide)) (by simp [hd])
      have hB : Below V0.heap.size V0 w := (p0_ hF.out) hk
      have e27 : s 85 = .pointer (some ⟨Q, 2, none⟩) := (p28_ hF.out) (hw 27 (by decide))
      dsimp only
      have oxa := HA.out.later hB
      have xa3 := oxa.at 3 _ rfl
      have xa4 := oxa.at 4 _ rfl
      have xa5 := oxa.at 5 _ rfl
      clear oxa
      have oxq := HQ.out.later hB
      have xq0 := oxq.at 0 _ rfl
      have xq1 := oxq.at 1 _ rfl
      have xq2 := oxq.at 2 _ rfl
      clear oxq
      have oxb := HB.out.later hB
      have xb1 := oxb.at 1 _ rfl
      clear oxb
      go_simp
      exact hK.out (ups (ups s 85 (.pointer (some ⟨Q, 2, none⟩))) 86 (.int .i8 q2)) b _ ⟨(fun _ => hB), (p1_ hF.out), (p2_ hF.out), (p3_ hF.out), (p4_ hF.out), (p5_ hF.out), (p6_ hF.out), (p7_ hF.out), (p8_ hF.out), (p9_ hF.out), (p10_ hF.out), (p11_ hF.out), (p12_ hF.out), (p13_ hF.out), (p14_ hF.out), (p15_ hF.out), (p16_ hF.out), (p17_ hF.out), (p18_ hF.out), (p19_ hF.out), (p20_ hF.out), (p21_ hF.out), (p22_ hF.out), (p23_ hF.out), (p24_ hF.out), (p25_ hF.out), (p26_ hF.out), (p27_ hF.out), (fun _ => rfl), (fun _ => rfl), (p30_ hF.out), (p31_ hF.out), (p32_ hF.out), (p33_ hF.out), (p34_ hF.out), (p35_ hF.out), (p36_ hF.out), (p37_ hF.out), (p38_ hF.out), (fun h => absurd ((p39_ hF.out) h 28 (by decide)) (by simp [hd])), (fun h => absurd ((p39_ hF.out) h 28 (by decide)) (by simp [hd]))⟩
    refine StepsF.cons (o := _) rfl (ws := [28]) (by kernel_rfl) (by decide) (fun d s b w hF hd hw K hK => ?_) ?_
    · have hk : d 38 = false := by cases e : d 38 with | false => rfl | true => exact absurd ((p39_ hF.out) e 29 (by decide)) (by simp [hd])
      have hB : Below V0.heap.size V0 w := (p0_ hF.out) hk
      have e28 : s 86 = .int .i8 q2 := (p29_ hF.out) (hw 28 (by decide))
      dsimp only
      have cv := cq2.out
      go_simp
      first | rw [cv] | rw [IntWalk.i64_left, cv] | simp only [IntWalk.i64_left, cv] | (trace_state; fail)
      exact hK.out (ups (ups s 86 (.int .i8 q2)) 87 (.int .i64 q2)) b _ ⟨(fun _ => hB), (p1_ hF.out), (p2_ hF.out), (p3_ hF.out), (p4_ hF.out), (p5_ hF.out), (p6_ hF.out), (p7_ hF.out), (p8_ hF.out), (p9_ hF.out), (p10_ hF.out), (p11_ hF.out), (p12_ hF.out), (p13_ hF.out), (p14_ hF.out), (p15_ hF.out), (p16_ hF.out), (p17_ hF.out), (p18_ hF.out), (p19_ hF.out), (p20_ hF.out), (p21_ hF.out), (p22_ hF.out), (p23_ hF.out), (p24_ hF.out), (p25_ hF.out), (p26_ hF.out), (p27_ hF.out), (p28_ hF.out), (fun _ => rfl), (fun _ => rfl), (p31_ hF.out), (p32_ hF.out), (p33_ hF.out), (p34_ hF.out), (p35_ hF.out), (p36_ hF.out), (p37_ hF.out), (p38_ hF.out), (fun h => absurd ((p39_ hF.out) h 29 (by decide)) (by simp [hd])), (fun h => absurd ((p39_ hF.out) h 29 (by decide)) (by simp [hd]))⟩
    refine StepsF.cons (o := _) rfl (ws := [26, 29]) (by kernel_rfl) (by decide) (fun d s b w hF hd hw K hK => ?_) ?_
    · have hk : d 38 = false := by cases e : d 38 with | false => rfl | true => exact absurd ((p39_ hF.out) e 30 (by decide)) (by simp [hd])
      have hB : Below V0.heap.size V0 w := (p0_ hF.out) hk
      have e26 : s 84 = .int .i64 m5 := (p27_ hF.out) (hw 26 (by decide))
      have e29 : s 87 = .int .i64 q2 := (p30_ hF.out) (hw 29 (by decide))
      dsimp only
      have cv := hp5.out
      go_simp
      first | rw [cv] | rw [IntWalk.i64_left, cv] | simp only [IntWalk.i64_left, cv] | (trace_state; fail)
      exact hK.out (ups (ups (ups s 84 (.int .i64 m5)) 87 (.int .i64 q2)) 88 (.int .i64 p5)) b _ ⟨(fun _ => hB), (p1_ hF.out), (p2_ hF.out), (p3_ hF.out), (p4_ hF.out), (p5_ hF.out), (p6_ hF.out), (p7_ hF.out), (p8_ hF.out), (p9_ hF.out), (p10_ hF.out), (p11_ hF.out), (p12_ hF.out), (p13_ hF.out), (p14_ hF.out), (p15_ hF.out), (p16_ hF.out), (p17_ hF.out), (p18_ hF.out), (p19_ hF.out), (p20_ hF.out), (p21_ hF.out), (p22_ hF.out), (p23_ hF.out), (p24_ hF.out), (p25_ hF.out), (p26_ hF.out), (fun _ => rfl), (p28_ hF.out), (p29_ hF.out), (fun _ => rfl), (fun _ => rfl), (p32_ hF.out), (p33_ hF.out), (p34_ hF.out), (p35_ hF.out), (p36_ hF.out), (p37_ hF.out), (p38_ hF.out), (fun h => absurd ((p39_ hF.out) h 30 (by decide)) (by simp [hd])), (fun h => absurd ((p39_ hF.out) h 30 (by decide)) (by simp [hd]))⟩
    refine StepsF.cons (o := _) rfl (ws := [20, 30]) (by kernel_rfl) (by decide) (fun d s b w hF hd hw K hK => ?_) ?_
    · have hk : d 38 = false := by cases e : d 38 with | false => rfl | true => exact absurd ((p39_ hF.out) e 31 (by decide)) (by simp [hd])
      have hB : Below V0.heap.size V0 w := (p0_ hF.out) hk
      have e20 : s 78 = .int .i64 s1 := (p21_ hF.out) (hw 20 (by decide))
      have e30 : s 88 = .int .i64 p5 := (p31_ hF.out) (hw 30 (by decide))
      dsimp only
      have cv := hu1.out
      go_simp
      first | rw [cv] | rw [IntWalk.i64_left, cv] | simp only [IntWalk.i64_left, cv] | (trace_state; fail)
      exact hK.out (ups (ups (ups s 78 (.int .i64 s1)) 88 (.int .i64 p5)) 89 (.int .i64 v1)) b _ ⟨(fun _ => hB), (p1_ hF.out), (p2_ hF.out), (p3_ hF.out), (p4_ hF.out), (p5_ hF.out), (p6_ hF.out), (p7_ hF.out), (p8_ hF.out), (p9_ hF.out), (p10_ hF.out), (p11_ hF.out), (p12_ hF.out), (p13_ hF.out), (p14_ hF.out), (p15_ hF.out), (p16_ hF.out), (p17_ hF.out), (p18_ hF.out), (p19_ hF.out), (p20_ hF.out), (fun _ => rfl), (p22_ hF.out), (p23_ hF.out), (p24_ hF.out), (p25_ hF.out), (p26_ hF.out), (p27_ hF.out), (p28_ hF.out), (p29_ hF.out), (p30_ hF.out), (fun _ => rfl), (fun _ => rfl), (p33_ hF.out), (p34_ hF.out), (p35_ hF.out), (p36_ hF.out), (p37_ hF.out), (p38_ hF.out), (fun h => absurd ((p39_ hF.out) h 31 (by decide)) (by simp [hd])), (fun h => absurd ((p39_ hF.out) h 31 (by decide)) (by simp [hd]))⟩
    refine StepsF.cons (o := _) rfl (ws := []) (by kernel_rfl) (by decide) (fun d s b w hF hd hw K hK => ?_) ?_
    · have hk : d 38 = false := by cases e : d 38 with | false => rfl | true => exact absurd ((p39_ hF.out) e 32 (by decide)) (by simp [hd])
      have hB : Below V0.heap.size V0 w := (p0_ hF.out) hk
      dsimp only
      go_simp
      exact hK.out (ups s 90 (.int .i64 1)) b _ ⟨(fun _ => hB), (p1_ hF.out), (p2_ hF.out), (p3_ hF.out), (p4_ hF.out), (p5_ hF.out), (p6_ hF.out), (p7_ hF.out), (p8_ hF.out), (p9_ hF.out), (p10_ hF.out), (p11_ hF.out), (p12_ hF.out), (p13_ hF.out), (p14_ hF.out), (p15_ hF.out), (p16_ hF.out), (p17_ hF.out), (p18_ hF.out), (p19_ hF.out), (p20_ hF.out), (p21_ hF.out), (p22_ hF.out), (p23_ hF.out), (p24_ hF.out), (p25_ hF.out), (p26_ hF.out), (p27_ hF.out), (p28_ hF.out), (p29_ hF.out), (p30_ hF.out), (p31_ hF.out), (p32_ hF.out), (fun _ => rfl), (p34_ hF.out), (p35_ hF.out), (p36_ hF.out), (p37_ hF.out), (p38_ hF.out), (fun h => absurd ((p39_ hF.out) h 32 (by decide)) (by simp [hd])), (fun h => absurd ((p39_ hF.out) h 32 (by decide)) (by simp [hd]))⟩
    refine StepsF.cons (o := _) rfl (ws := [32]) (by kernel_rfl) (by decide) (fun d s b w hF hd hw K hK => ?_) ?_
    · have hk : d 38 = false := by cases e : d 38 with | false => rfl | true => exact absurd ((p39_ hF.out) e 33 (by decide)) (by simp [hd])
      have hB : Below V0.heap.size V0 w := (p0_ hF.out) hk
      have e32 : s 90 = .int .i64 1 := (p33_ hF.out) (hw 32 (by decide))
      dsimp only
      go_simp
      exact hK.out (ups (ups s 90 (.int .i64 1)) 91 (.pointer (some ⟨B, 1, none⟩))) b _ ⟨(fun _ => hB), (p1_ hF.out), (p2_ hF.out), (p3_ hF.out), (p4_ hF.out), (p5_ hF.out), (p6_ hF.out), (p7_ hF.out), (p8_ hF.out), (p9_ hF.out), (p10_ hF.out), (p11_ hF.out), (p12_ hF.out), (p13_ hF.out), (p14_ hF.out), (p15_ hF.out), (p16_ hF.out), (p17_ hF.out), (p18_ hF.out), (p19_ hF.out), (p20_ hF.out), (p21_ hF.out), (p22_ hF.out), (p23_ hF.out), (p24_ hF.out), (p25_ hF.out), (p26_ hF.out), (p27_ hF.out), (p28_ hF.out), (p29_ hF.out), (p30_ hF.out), (p31_ hF.out), (p32_ hF.out), (fun _ => rfl), (fun _ => rfl), (p35_ hF.out), (p36_ hF.out), (p37_ hF.out), (p38_ hF.out), (fun h => absurd ((p39_ hF.out) h 33 (by decide)) (by simp [hd])), (fun h => absurd ((p39_ hF.out) h 33 (by decide)) (by simp [hd]))⟩
    refine StepsF.cons (o := _) rfl (ws := [33]) (by kernel_rfl) (by decide) (fun d s b w hF hd hw K hK => ?_) ?_
    · have hk : d 38 = false := by cases e : d 38 with | false => rfl | true => exact absurd ((p39_ hF.out) e 34 (by decide)) (by simp [hd])
      have hB : Below V0.heap.size V0 w := (p0_ hF.out) hk
      have e33 : s 91 = .pointer (some ⟨B, 1, none⟩) := (p34_ hF.out) (hw 33 (by decide))
      dsimp only
      have oxa := HA.out.later hB
      have xa3 := oxa.at 3 _ rfl
      have xa4 := oxa.at 4 _ rfl
      have xa5 := oxa.at 5 _ rfl
      clear oxa
      have oxq := HQ.out.later hB
      have xq0 := oxq.at 0 _ rfl
      have xq1 := oxq.at 1 _ rfl
      have xq2 := oxq.at 2 _ rfl
      clear oxq
      have oxb := HB.out.later hB
      have xb1 := oxb.at 1 _ rfl
      clear oxb
      go_simp
      exact hK.out (ups (ups s 91 (.pointer (some ⟨B, 1, none⟩))) 92 (.int .i16 t1)) b _ ⟨(fun _ => hB), (p1_ hF.out), (p2_ hF.out), (p3_ hF.out), (p4_ hF.out), (p5_ hF.out), (p6_ hF.out), (p7_ hF.out), (p8_ hF.out), (p9_ hF.out), (p10_ hF.out), (p11_ hF.out), (p12_ hF.out), (p13_ hF.out), (p14_ hF.out), (p15_ hF.out), (p16_ hF.out), (p17_ hF.out), (p18_ hF.out), (p19_ hF.out), (p20_ hF.out), (p21_ hF.out), (p22_ hF.out), (p23_ hF.out), (p24_ hF.out), (p25_ hF.out), (p26_ hF.out), (p27_ hF.out), (p28_ hF.out), (p29_ hF.out), (p30_ hF.out), (p31_ hF.out), (p32_ hF.out), (p33_ hF.out), (fun _ => rfl), (fun _ => rfl), (p36_ hF.out), (p37_ hF.out), (p38_ hF.out), (fun h => absurd ((p39_ hF.out) h 34 (by decide)) (by simp [hd])), (fun h => absurd ((p39_ hF.out) h 34 (by decide)) (by simp [hd]))⟩
    refine StepsF.cons (o := _) rfl (ws := [34]) (by kernel_rfl) (by decide) (fun d s b w hF hd hw K hK => ?_) ?_
    · have hk : d 38 = false := by cases e : d 38 with | false => rfl | true => exact absurd ((p39_ hF.out) e 35 (by decide)) (by simp [hd])
      have hB : Below V0.heap.size V0 w := (p0_ hF.out) hk
      have e34 : s 92 = .int .i16 t1 := (p35_ hF.out) (hw 34 (by decide))
      dsimp only
      have cv := ct1.out
      go_simp
      first | rw [cv] | rw [IntWalk.i64_left, cv] | simp only [IntWalk.i64_left, cv] | (trace_state; fail)
      exact hK.out (ups (ups s 92 (.int .i16 t1)) 93 (.int .i64 t1)) b _ ⟨(fun _ => hB), (p1_ hF.out), (p2_ hF.out), (p3_ hF.out), (p4_ hF.out), (p5_ hF.out), (p6_ hF.out), (p7_ hF.out), (p8_ hF.out), (p9_ hF.out), (p10_ hF.out), (p11_ hF.out), (p12_ hF.out), (p13_ hF.out), (p14_ hF.out), (p15_ hF.out), (p16_ hF.out), (p17_ hF.out), (p18_ hF.out), (p19_ hF.out), (p20_ hF.out), (p21_ hF.out), (p22_ hF.out), (p23_ hF.out), (p24_ hF.out), (p25_ hF.out), (p26_ hF.out), (p27_ hF.out), (p28_ hF.out), (p29_ hF.out), (p30_ hF.out), (p31_ hF.out), (p32_ hF.out), (p33_ hF.out), (p34_ hF.out), (fun _ => rfl), (fun _ => rfl), (p37_ hF.out), (p38_ hF.out), (fun h => absurd ((p39_ hF.out) h 35 (by decide)) (by simp [hd])), (fun h => absurd ((p39_ hF.out) h 35 (by decide)) (by simp [hd]))⟩
    refine StepsF.cons (o := _) rfl (ws := [31, 35]) (by kernel_rfl) (by decide) (fun d s b w hF hd hw K hK => ?_) ?_
    · have hk : d 38 = false := by cases e : d 38 with | false => rfl | true => exact absurd ((p39_ hF.out) e 36 (by decide)) (by simp [hd])
      have hB : Below V0.heap.size V0 w := (p0_ hF.out) hk
      have e31 : s 89 = .int .i64 v1 := (p32_ hF.out) (hw 31 (by decide))
      have e35 : s 93 = .int .i64 t1 := (p36_ hF.out) (hw 35 (by decide))
      dsimp only
      have cv := hw1.out
      go_simp
      first | rw [cv] | rw [IntWalk.i64_left, cv] | simp only [IntWalk.i64_left, cv] | (trace_state; fail)
      exact hK.out (ups (ups (ups s 89 (.int .i64 v1)) 93 (.int .i64 t1)) 94 (.int .i64 W1_)) b _ ⟨(fun _ => hB), (p1_ hF.out), (p2_ hF.out), (p3_ hF.out), (p4_ hF.out), (p5_ hF.out), (p6_ hF.out), (p7_ hF.out), (p8_ hF.out), (p9_ hF.out), (p10_ hF.out), (p11_ hF.out), (p12_ hF.out), (p13_ hF.out), (p14_ hF.out), (p15_ hF.out), (p16_ hF.out), (p17_ hF.out), (p18_ hF.out), (p19_ hF.out), (p20_ hF.out), (p21_ hF.out), (p22_ hF.out), (p23_ hF.out), (p24_ hF.out), (p25_ hF.out), (p26_ hF.out), (p27_ hF.out), (p28_ hF.out), (p29_ hF.out), (p30_ hF.out), (p31_ hF.out), (fun _ => rfl), (p33_ hF.out), (p34_ hF.out), (p35_ hF.out), (fun _ => rfl), (fun _ => rfl), (p38_ hF.out), (fun h => absurd ((p39_ hF.out) h 36 (by decide)) (by simp [hd])), (fun h => absurd ((p39_ hF.out) h 36 (by decide)) (by simp [hd]))⟩
    refine StepsF.cons (o := _) rfl (ws := [0, 0, 1, 2, 3, 4, 5, 6, 7, 8, 9, 10, 11, 12, 13, 14, 15, 16, 17, 18, 19, 20, 21, 22, 23, 24, 25, 26, 27, 28, 29, 30, 31, 32, 33, 34, 35, 36]) (by kernel_rfl) (by decide) (fun d s b w hF hd hw K hK => ?_) ?_
    · have hk : d 38 = false := by cases e : d 38 with | false => rfl | true => exact absurd ((p39_ hF.out) e 37 (by decide)) (by simp [hd])
      have hB : Below V0.heap.size V0 w := (p0_ hF.out) hk
      have e0 : s 58 = .int .i64 1 := (p1_ hF.out) (hw 0 (by decide))
      have e1 : s 59 = .int .i64 1 := (p2_ hF.out) (hw 1 (by decide))
      have e2 : s 60 = .int .i64 3 := (p3_ hF.out) (hw 2 (by decide))
      have e3 : s 61 = .pointer (some ⟨A, 3, none⟩) := (p4_ hF.out) (hw 3 (by decide))
      have e4 : s 62 = .int .i8 m3 := (p5_ hF.out) (hw 4 (by decide))
      have e5 : s 63 = .int .i64 m3 := (p6_ hF.out) (hw 5 (by decide))
      have e6 : s 64 = .pointer (some ⟨Q, 0, none⟩) := (p7_ hF.out) (hw 6 (by decide))
      have e7 : s 65 = .int .i8 q0 := (p8_ hF.out) (hw 7 (by decide))
      have e8 : s 66 = .int .i64 q0 := (p9_ hF.out) (hw 8 (by decide))
      have e9 : s 67 = .int .i64 p3 := (p10_ hF.out) (hw 9 (by decide))
      have e10 : s 68 = .int .i64 1 := (p11_ hF.out) (hw 10 (by decide))
      have e11 : s 69 = .int .i64 3 := (p12_ hF.out) (hw 11 (by decide))
      have e12 : s 70 = .int .i64 4 := (p13_ hF.out) (hw 12 (by decide))
      have e13 : s 71 = .pointer (some ⟨A, 4, none⟩) := (p14_ hF.out) (hw 13 (by decide))
      have e14 : s 72 = .int .i8 m4 := (p15_ hF.out) (hw 14 (by decide))
      have e15 : s 73 = .int .i64 m4 := (p16_ hF.out) (hw 15 (by decide))
      have e16 : s 74 = .pointer (some ⟨Q, 1, none⟩) := (p17_ hF.out) (hw 16 (by decide))
      have e17 : s 75 = .int .i8 q1 := (p18_ hF.out) (hw 17 (by decide))
      have e18 : s 76 = .int .i64 q1 := (p19_ hF.out) (hw 18 (by decide))
      have e19 : s 77 = .int .i64 p4 := (p20_ hF.out) (hw 19 (by decide))
      have e20 : s 78 = .int .i64 s1 := (p21_ hF.out) (hw 20 (by decide))
      have e21 : s 79 = .int .i64 1 := (p22_ hF.out) (hw 21 (by decide))
      have e22 : s 80 = .int .i64 3 := (p23_ hF.out) (hw 22 (by decide))
      have e23 : s 81 = .int .i64 5 := (p24_ hF.out) (hw 23 (by decide))
      have e24 : s 82 = .pointer (some ⟨A, 5, none⟩) := (p25_ hF.out) (hw 24 (by decide))
      have e25 : s 83 = .int .i8 m5 := (p26_ hF.out) (hw 25 (by decide))
      have e26 : s 84 = .int .i64 m5 := (p27_ hF.out) (hw 26 (by decide))
      have e27 : s 85 = .pointer (some ⟨Q, 2, none⟩) := (p28_ hF.out) (hw 27 (by decide))
      have e28 : s 86 = .int .i8 q2 := (p29_ hF.out) (hw 28 (by decide))
      have e29 : s 87 = .int .i64 q2 := (p30_ hF.out) (hw 29 (by decide))
      have e30 : s 88 = .int .i64 p5 := (p31_ hF.out) (hw 30 (by decide))
      have e31 : s 89 = .int .i64 v1 := (p32_ hF.out) (hw 31 (by decide))
      have e32 : s 90 = .int .i64 1 := (p33_ hF.out) (hw 32 (by decide))
      have e33 : s 91 = .pointer (some ⟨B, 1, none⟩) := (p34_ hF.out) (hw 33 (by decide))
      have e34 : s 92 = .int .i16 t1 := (p35_ hF.out) (hw 34 (by decide))
      have e35 : s 93 = .int .i64 t1 := (p36_ hF.out) (hw 35 (by decide))
      have e36 : s 94 = .int .i64 W1_ := (p37_ hF.out) (hw 36 (by decide))
      dsimp only
      go_simp
      exact hK.out (ups (ups (ups (ups (ups (ups (ups (ups (ups (ups (ups (ups (ups (ups (ups (ups (ups (ups (ups (ups (ups (ups (ups (ups (ups (ups (ups (ups (ups (ups (ups (ups (ups (ups (ups (ups (ups (ups s 58 (.int .i64 1)) 59 (.int .i64 1)) 60 (.int .i64 3)) 61 (.pointer (some ⟨A, 3, none⟩))) 62 (.int .i8 m3)) 63 (.int .i64 m3)) 64 (.pointer (some ⟨Q, 0, none⟩))) 65 (.int .i8 q0)) 66 (.int .i64 q0)) 67 (.int .i64 p3)) 68 (.int .i64 1)) 69 (.int .i64 3)) 70 (.int .i64 4)) 71 (.pointer (some ⟨A, 4, none⟩))) 72 (.int .i8 m4)) 73 (.int .i64 m4)) 74 (.pointer (some ⟨Q, 1, none⟩))) 75 (.int .i8 q1)) 76 (.int .i64 q1)) 77 (.int .i64 p4)) 78 (.int .i64 s1)) 79 (.int .i64 1)) 80 (.int .i64 3)) 81 (.int .i64 5)) 82 (.pointer (some ⟨A, 5, none⟩))) 83 (.int .i8 m5)) 84 (.int .i64 m5)) 85 (.pointer (some ⟨Q, 2, none⟩))) 86 (.int .i8 q2)) 87 (.int .i64 q2)) 88 (.int .i64 p5)) 89 (.int .i64 v1)) 90 (.int .i64 1)) 91 (.pointer (some ⟨B, 1, none⟩))) 92 (.int .i16 t1)) 93 (.int .i64 t1)) 94 (.int .i64 W1_)) 95 (.pointer (some ⟨E, 1, none⟩))) b _ ⟨(fun _ => hB), (fun _ => rfl), (fun _ => rfl), (fun _ => rfl), (fun _ => rfl), (fun _ => rfl), (fun _ => rfl), (fun _ => rfl), (fun _ => rfl), (fun _ => rfl), (fun _ => rfl), (fun _ => rfl), (fun _ => rfl), (fun _ => rfl), (fun _ => rfl), (fun _ => rfl), (fun _ => rfl), (fun _ => rfl), (fun _ => rfl), (fun _ => rfl), (fun _ => rfl), (fun _ => rfl), (fun _ => rfl), (fun _ => rfl), (fun _ => rfl), (fun _ => rfl), (fun _ => rfl), (fun _ => rfl), (fun _ => rfl), (fun _ => rfl), (fun _ => rfl), (fun _ => rfl), (fun _ => rfl), (fun _ => rfl), (fun _ => rfl), (fun _ => rfl), (fun _ => rfl), (fun _ => rfl), (fun _ => rfl), (fun h => absurd ((p39_ hF.out) h 37 (by decide)) (by simp [hd])), (fun h => absurd ((p39_ hF.out) h 37 (by decide)) (by simp [hd]))⟩
    refine StepsF.cons (o := _) rfl (ws := [37, 36, 0, 1, 2, 3, 4, 5, 6, 7, 8, 9, 10, 11, 12, 13, 14, 15, 16, 17, 18, 19, 20, 21, 22, 23, 24, 25, 26, 27, 28, 29, 30, 31, 32, 33, 34, 35, 36]) (by kernel_rfl) (by decide) (fun d s b w hF hd hw K hK => ?_) ?_
    · have hB : Below V0.heap.size V0 w := (p0_ hF.out) hd
      have e0 : s 58 = .int .i64 1 := (p1_ hF.out) (hw 0 (by decide))
      have e1 : s 59 = .int .i64 1 := (p2_ hF.out) (hw 1 (by decide))
      have e2 : s 60 = .int .i64 3 := (p3_ hF.out) (hw 2 (by decide))
      have e3 : s 61 = .pointer (some ⟨A, 3, none⟩) := (p4_ hF.out) (hw 3 (by decide))
      have e4 : s 62 = .int .i8 m3 := (p5_ hF.out) (hw 4 (by decide))
      have e5 : s 63 = .int .i64 m3 := (p6_ hF.out) (hw 5 (by decide))
      have e6 : s 64 = .pointer (some ⟨Q, 0, none⟩) := (p7_ hF.out) (hw 6 (by decide))
      have e7 : s 65 = .int .i8 q0 := (p8_ hF.out) (hw 7 (by decide))
      have e8 : s 66 = .int .i64 q0 := (p9_ hF.out) (hw 8 (by decide))
      have e9 : s 67 = .int .i64 p3 := (p10_ hF.out) (hw 9 (by decide))
      have e10 : s 68 = .int .i64 1 := (p11_ hF.out) (hw 10 (by decide))
      have e11 : s 69 = .int .i64 3 := (p12_ hF.out) (hw 11 (by decide))
      have e12 : s 70 = .int .i64 4 := (p13_ hF.out) (hw 12 (by decide))
      have e13 : s 71 = .pointer (some ⟨A, 4, none⟩) := (p14_ hF.out) (hw 13 (by decide))
      have e14 : s 72 = .int .i8 m4 := (p15_ hF.out) (hw 14 (by decide))
      have e15 : s 73 = .int .i64 m4 := (p16_ hF.out) (hw 15 (by decide))
      have e16 : s 74 = .pointer (some ⟨Q, 1, none⟩) := (p17_ hF.out) (hw 16 (by decide))
      have e17 : s 75 = .int .i8 q1 := (p18_ hF.out) (hw 17 (by decide))
      have e18 : s 76 = .int .i64 q1 := (p19_ hF.out) (hw 18 (by decide))
      have e19 : s 77 = .int .i64 p4 := (p20_ hF.out) (hw 19 (by decide))
      have e20 : s 78 = .int .i64 s1 := (p21_ hF.out) (hw 20 (by decide))
      have e21 : s 79 = .int .i64 1 := (p22_ hF.out) (hw 21 (by decide))
      have e22 : s 80 = .int .i64 3 := (p23_ hF.out) (hw 22 (by decide))
      have e23 : s 81 = .int .i64 5 := (p24_ hF.out) (hw 23 (by decide))
      have e24 : s 82 = .pointer (some ⟨A, 5, none⟩) := (p25_ hF.out) (hw 24 (by decide))
      have e25 : s 83 = .int .i8 m5 := (p26_ hF.out) (hw 25 (by decide))
      have e26 : s 84 = .int .i64 m5 := (p27_ hF.out) (hw 26 (by decide))
      have e27 : s 85 = .pointer (some ⟨Q, 2, none⟩) := (p28_ hF.out) (hw 27 (by decide))
      have e28 : s 86 = .int .i8 q2 := (p29_ hF.out) (hw 28 (by decide))
      have e29 : s 87 = .int .i64 q2 := (p30_ hF.out) (hw 29 (by decide))
      have e30 : s 88 = .int .i64 p5 := (p31_ hF.out) (hw 30 (by decide))
      have e31 : s 89 = .int .i64 v1 := (p32_ hF.out) (hw 31 (by decide))
      have e32 : s 90 = .int .i64 1 := (p33_ hF.out) (hw 32 (by decide))
      have e33 : s 91 = .pointer (some ⟨B, 1, none⟩) := (p34_ hF.out) (hw 33 (by decide))
      have e34 : s 92 = .int .i16 t1 := (p35_ hF.out) (hw 34 (by decide))
      have e35 : s 93 = .int .i64 t1 := (p36_ hF.out) (hw 35 (by decide))
      have e36 : s 94 = .int .i64 W1_ := (p37_ hF.out) (hw 36 (by decide))
      have e37 : s 95 = .pointer (some ⟨E, 1, none⟩) := (p38_ hF.out) (hw 37 (by decide))
      dsimp only
      have oX := HE.out.later hB
      have fr1 := oX.ok 1 (by simp)
      have ce1 := oX.at 1 _ rfl
      clear oX
      go_simp
      exact hK.out (ups (ups (ups (ups (ups (ups (ups (ups (ups (ups (ups (ups (ups (ups (ups (ups (ups (ups (ups (ups (ups (ups (ups (ups (ups (ups (ups (ups (ups (ups (ups (ups (ups (ups (ups (ups (ups (ups s 58 (.int .i64 1)) 59 (.int .i64 1)) 60 (.int .i64 3)) 61 (.pointer (some ⟨A, 3, none⟩))) 62 (.int .i8 m3)) 63 (.int .i64 m3)) 64 (.pointer (some ⟨Q, 0, none⟩))) 65 (.int .i8 q0)) 66 (.int .i64 q0)) 67 (.int .i64 p3)) 68 (.int .i64 1)) 69 (.int .i64 3)) 70 (.int .i64 4)) 71 (.pointer (some ⟨A, 4, none⟩))) 72 (.int .i8 m4)) 73 (.int .i64 m4)) 74 (.pointer (some ⟨Q, 1, none⟩))) 75 (.int .i8 q1)) 76 (.int .i64 q1)) 77 (.int .i64 p4)) 78 (.int .i64 s1)) 79 (.int .i64 1)) 80 (.int .i64 3)) 81 (.int .i64 5)) 82 (.pointer (some ⟨A, 5, none⟩))) 83 (.int .i8 m5)) 84 (.int .i64 m5)) 85 (.pointer (some ⟨Q, 2, none⟩))) 86 (.int .i8 q2)) 87 (.int .i64 q2)) 88 (.int .i64 p5)) 89 (.int .i64 v1)) 90 (.int .i64 1)) 91 (.pointer (some ⟨B, 1, none⟩))) 92 (.int .i16 t1)) 93 (.int .i64 t1)) 94 (.int .i64 W1_)) 95 (.pointer (some ⟨E, 1, none⟩))) b _ ⟨(fun h => nomatch h), (fun _ => rfl), (fun _ => rfl), (fun _ => rfl), (fun _ => rfl), (fun _ => rfl), (fun _ => rfl), (fun _ => rfl), (fun _ => rfl), (fun _ => rfl), (fun _ => rfl), (fun _ => rfl), (fun _ => rfl), (fun _ => rfl), (fun _ => rfl), (fun _ => rfl), (fun _ => rfl), (fun _ => rfl), (fun _ => rfl), (fun _ => rfl), (fun _ => rfl), (fun _ => rfl), (fun _ => rfl), (fun _ => rfl), (fun _ => rfl), (fun _ => rfl), (fun _ => rfl), (fun _ => rfl), (fun _ => rfl), (fun _ => rfl), (fun _ => rfl), (fun _ => rfl), (fun _ => rfl), (fun _ => rfl), (fun _ => rfl), (fun _ => rfl), (fun _ => rfl), (fun _ => rfl), (fun _ => rfl), (fun _ j hj => by have hj2 := hw j (by simp; omega); simp [upd, hj2]), (fun _ => ⟨w, hB, rfl⟩)⟩
    exact StepsF.nil
  intro d s b z1 hF hall
  replace hF := Lib.hid hF
  obtain ⟨z1, hB, rfl⟩ := (q40_ hF.out) (hall 38 (by decide))
  try dsimp only
  have e0 : s 58 = .int .i64 1 := (p1_ hF.out) (hall 0 (by decide))
  have e1 : s 59 = .int .i64 1 := (p2_ hF.out) (hall 1 (by decide))
  have e2 : s 60 = .int .i64 3 := (p3_ hF.out) (hall 2 (by decide))
  have e3 : s 61 = .pointer (some ⟨A, 3, none⟩) := (p4_ hF.out) (hall 3 (by decide))
  have e4 : s 62 = .int .i8 m3 := (p5_ hF.out) (hall 4 (by decide))
  have e5 : s 63 = .int .i64 m3 := (p6_ hF.out) (hall 5 (by decide))
  have e6 : s 64 = .pointer (some ⟨Q, 0, none⟩) := (p7_ hF.out) (hall 6 (by decide))
  have e7 : s 65 = .int .i8 q0 := (p8_ hF.out) (hall 7 (by decide))
  have e8 : s 66 = .int .i64 q0 := (p9_ hF.out) (hall 8 (by decide))
  have e9 : s 67 = .int .i64 p3 := (p10_ hF.out) (hall 9 (by decide))
  have e10 : s 68 = .int .i64 1 := (p11_ hF.out) (hall 10 (by decide))
  have e11 : s 69 = .int .i64 3 := (p12_ hF.out) (hall 11 (by decide))
  have e12 : s 70 = .int .i64 4 := (p13_ hF.out) (hall 12 (by decide))
  have e13 : s 71 = .pointer (some ⟨A, 4, none⟩) := (p14_ hF.out) (hall 13 (by decide))
  have e14 : s 72 = .int .i8 m4 := (p15_ hF.out) (hall 14 (by decide))
  have e15 : s 73 = .int .i64 m4 := (p16_ hF.out) (hall 15 (by decide))
  have e16 : s 74 = .pointer (some ⟨Q, 1, none⟩) := (p17_ hF.out) (hall 16 (by decide))
  have e17 : s 75 = .int .i8 q1 := (p18_ hF.out) (hall 17 (by decide))
  have e18 : s 76 = .int .i64 q1 := (p19_ hF.out) (hall 18 (by decide))
  have e19 : s 77 = .int .i64 p4 := (p20_ hF.out) (hall 19 (by decide))
  have e20 : s 78 = .int .i64 s1 := (p21_ hF.out) (hall 20 (by decide))
  have e21 : s 79 = .int .i64 1 := (p22_ hF.out) (hall 21 (by decide))
  have e22 : s 80 = .int .i64 3 := (p23_ hF.out) (hall 22 (by decide))
  have e23 : s 81 = .int .i64 5 := (p24_ hF.out) (hall 23 (by decide))
  have e24 : s 82 = .pointer (some ⟨A, 5, none⟩) := (p25_ hF.out) (hall 24 (by decide))
  have e25 : s 83 = .int .i8 m5 := (p26_ hF.out) (hall 25 (by decide))
  have e26 : s 84 = .int .i64 m5 := (p27_ hF.out) (hall 26 (by decide))
  have e27 : s 85 = .pointer (some ⟨Q, 2, none⟩) := (p28_ hF.out) (hall 27 (by decide))
  have e28 : s 86 = .int .i8 q2 := (p29_ hF.out) (hall 28 (by decide))
  have e29 : s 87 = .int .i64 q2 := (p30_ hF.out) (hall 29 (by decide))
  have e30 : s 88 = .int .i64 p5 := (p31_ hF.out) (hall 30 (by decide))
  have e31 : s 89 = .int .i64 v1 := (p32_ hF.out) (hall 31 (by decide))
  have e32 : s 90 = .int .i64 1 := (p33_ hF.out) (hall 32 (by decide))
  have e33 : s 91 = .pointer (some ⟨B, 1, none⟩) := (p34_ hF.out) (hall 33 (by decide))
  have e34 : s 92 = .int .i16 t1 := (p35_ hF.out) (hall 34 (by decide))
  have e35 : s 93 = .int .i64 t1 := (p36_ hF.out) (hall 35 (by decide))
  have e36 : s 94 = .int .i64 W1_ := (p37_ hF.out) (hall 36 (by decide))
  have e37 : s 95 = .pointer (some ⟨E, 1, none⟩) := (p38_ hF.out) (hall 37 (by decide))
  rw [e0, e1, e2, e3, e4, e5, e6, e7, e8, e9, e10, e11, e12, e13, e14, e15, e16, e17, e18, e19, e20, e21, e22, e23, e24, e25, e26, e27, e28, e29, e30, e31, e32, e33, e34, e35, e36, e37]
  clear hall hF e0 e1 e2 e3 e4 e5 e6 e7 e8 e9 e10 e11 e12 e13 e14 e15 e16 e17 e18 e19 e20 e21 e22 e23 e24 e25 e26 e27 e28 e29 e30 e31 e32 e33 e34 e35 e36 e37
  clear d s b
  have HEn : Hid (Own E [.int .i64 W0_, .int .i64 W1_, .int .i64 0] (z1.setCells E 1 [.int .i64 W1_])) := Lib.hid (show Own E (over _ 1 [.int .i64 W1_]) _ from Own.part (HE.out.later hB) (by simp))
  have HAn : Hid (Own A [.int .i8 m0, .int .i8 m1, .int .i8 m2, .int .i8 m3, .int .i8 m4, .int .i8 m5, .int .i8 m6, .int .i8 m7, .int .i8 m8] (z1.setCells E 1 [.int .i64 W1_])) := Lib.hid (Own.far (o := 1) (vs := [.int .i64 W1_]) (HA.out.later hB) nAE)
  have HBn : Hid (Own B [.int .i16 t0, .int .i16 t1, .int .i16 t2] (z1.setCells E 1 [.int .i64 W1_])) := Lib.hid (Own.far (o := 1) (vs := [.int .i64 W1_]) (HB.out.later hB) nBE)
  have HQn : Hid (Own Q [.int .i8 q0, .int .i8 q1, .int .i8 q2] (z1.setCells E 1 [.int .i64 W1_])) := Lib.hid (Own.far (o := 1) (vs := [.int .i64 W1_]) (HQ.out.later hB) nQE)
  have HNn : Hid (Own N [.int .i64 X, .int .i64 Y, .int .i64 Z] (z1.setCells E 1 [.int .i64 W1_])) := Lib.hid (Own.far (o := 1) (vs := [.int .i64 W1_]) (HN.out.later hB) nNE)
  have V1b : Below w.heap.size w (z1.setCells E 1 [.int .i64 W1_]) := Below.setCells (Below.go V0b hB) Ew [.int .i64 W1_] 1
  generalize (z1.setCells E 1 [.int .i64 W1_]) = V1 at *
  clear HE HA HB HQ HN hB
  have HE := HEn
  clear HEn
  have HA := HAn
  clear HAn
  have HB := HBn
  clear HBn
  have HQ := HQn
  clear HQn
  have HN := HNn
  clear HNn
  clear V0b
  have oE := HE.out
  have E0 := oE.at 0 _ rfl
  have E1 := oE.at 1 _ rfl
  have E2 := oE.at 2 _ rfl
  have El := oE.lt
  clear oE
  go_upto_region 15 with fail
  refine wp_norm (fun a' w' => V1 = w' ∧ ∃ (v u96_1 u97_1 u98_1 u99_1 u100_1 u101_1 u102_1 u103_1 u104_1 u105_1 u106_1 u107_1 u108_1 : Value), v = .bool (farB (farB false W0_) W1_) ∧ a' = ⟨#[(.agg #[.int .i8 m0, .int .i8 m1, .int .i8 m2, .int .i8 m3, .int .i8 m4, .int .i8 m5, .int .i8 m6, .int .i8 m7, .int .i8 m8]), (.agg #[.int .i16 t0, .int .i16 t1, .int .i16 t2]), (.agg #[.int .i8 q0, .int .i8 q1, .int .i8 q2]), .pointer (some ⟨A, 0, none⟩), .pointer (some ⟨B, 0, none⟩), .pointer (some ⟨Q, 0, none⟩), .bool false, .pointer (some ⟨D, 0, none⟩), .int .i64 8, .int .i8 m8, .pointer (some ⟨N, 0, none⟩), .int .i64 c, .pointer (some ⟨E, 0, none⟩), v, .int .i64 1, (.agg #[.int .i8 m0, .int .i8 m1, .int .i8 m2, .int .i8 m3, .int .i8 m4, .int .i8 m5, .int .i8 m6, .int .i8 m7, .int .i8 m8]), .int .i64 9, .bool false, .int .i64 8, .int .i8 m8, .int .i64 8, .int .i8 m8, .int .i64 m8, .int .i64 M8, .pointer (some ⟨D, 0, none⟩), .pointer (some ⟨D, 8, none⟩), .int .i64 9, .pointer (some ⟨B, 0, none⟩), .int .i16 t0, .int .i64 t0, .pointer (some ⟨B, 1, none⟩), .int .i16 t1, .int .i64 t1, .pointer (some ⟨B, 2, none⟩), .int .i16 t2, .int .i64 t2, (.agg #[.int .i64 t0, .int .i64 t1, .int .i64 t2]), (.agg #[.int .i64 T0_, .int .i64 T1_, .int .i64 T2_]), .pointer (some ⟨D, 9, none⟩), .tuple #[(.agg #[.int .i64 X, .int .i64 Y, .int .i64 Z]), .int .i64 c], (.agg #[.int .i64 M0, .int .i64 M1, .int .i64 M2, .int .i64 M3, .int .i64 M4, .int .i64 M5, .int .i64 M6, .int .i64 M7, .int .i64 M8, .int .i64 T0_, .int .i64 T1_, .int .i64 T2_]), .pointer (some ⟨Q, 0, none⟩), .int .i8 q0, .int .i64 q0, .pointer (some ⟨Q, 1, none⟩), .int .i8 q1, .int .i64 q1, .pointer (some ⟨Q, 2, none⟩), .int .i8 q2, .int .i64 q2, (.agg #[.int .i64 q0, .int .i64 q1, .int .i64 q2]), .tuple #[(.agg #[.int .i64 X, .int .i64 Y, .int .i64 Z]), .int .i64 c], (.agg #[.int .i64 X, .int .i64 Y, .int .i64 Z]), .int .i64 c, (.agg #[.int .i64 0, .int .i64 0, .int .i64 0]), .int .i64 1, .bool true, .int .i64 1, .int .i64 1, .int .i64 1, .int .i64 3, .pointer (some ⟨A, 3, none⟩), .int .i8 m3, .int .i64 m3, .pointer (some ⟨Q, 0, none⟩), .int .i8 q0, .int .i64 q0, .int .i64 p3, .int .i64 1, .int .i64 3, .int .i64 4, .pointer (some ⟨A, 4, none⟩), .int .i8 m4, .int .i64 m4, .pointer (some ⟨Q, 1, none⟩), .int .i8 q1, .int .i64 q1, .int .i64 p4, .int .i64 s1, .int .i64 1, .int .i64 3, .int .i64 5, .pointer (some ⟨A, 5, none⟩), .int .i8 m5, .int .i64 m5, .pointer (some ⟨Q, 2, none⟩), .int .i8 q2, .int .i64 q2, .int .i64 p5, .int .i64 v1, .int .i64 1, .pointer (some ⟨B, 1, none⟩), .int .i16 t1, .int .i64 t1, .int .i64 W1_, .pointer (some ⟨E, 1, none⟩), u96_1, u97_1, u98_1, u99_1, u100_1, u101_1, u102_1, u103_1, u104_1, u105_1, u106_1, u107_1, u108_1, .int .i64 1, undef, undef, undef, undef, undef, undef, undef, undef, undef, undef, undef, undef, undef, undef, undef, undef, undef, undef, undef, undef, undef, undef, undef, undef, undef, undef, undef], []⟩) ?first ?_
  case first =>
    intro J K' hJ hK
    obtain ⟨b, hb⟩ : ∃ b, b = (farB false W0_) := ⟨_, rfl⟩
    rw [← hb] at hJ ⊢
    clear hb
    cases b
    all_goals
      by_cases g1 : 65536 < W1_
      all_goals by_cases g2 : W1_ < -65536
      all_goals go_wp2_with (fail)
      all_goals exact Met.intro (hJ _ _ ⟨rfl, _, _, _, _, _, _, _, _, _, _, _, _, _, _, by first | (simp [farB]; done) | (simp [farB]; omega) | (simp [farB, *]; done), rfl⟩)
  rintro a' w' ⟨rfl, v, u96_1, u97_1, u98_1, u99_1, u100_1, u101_1, u102_1, u103_1, u104_1, u105_1, u106_1, u107_1, u108_1, rfl, rfl⟩
  go_wp2_with (fail)
  rw [rounds_succ]
  go_wp2_with (fail)
  refine wp_region_fun 39 (by kernel_rfl) (by kernel_rfl) rfl (fun s b => ⟨#[(.agg #[.int .i8 m0, .int .i8 m1, .int .i8 m2, .int .i8 m3, .int .i8 m4, .int .i8 m5, .int .i8 m6, .int .i8 m7, .int .i8 m8]), (.agg #[.int .i16 t0, .int .i16 t1, .int .i16 t2]), (.agg #[.int .i8 q0, .int .i8 q1, .int .i8 q2]), .pointer (some ⟨A, 0, none⟩), .pointer (some ⟨B, 0, none⟩), .pointer (some ⟨Q, 0, none⟩), .bool false, .pointer (some ⟨D, 0, none⟩), .int .i64 8, .int .i8 m8, .pointer (some ⟨N, 0, none⟩), .int .i64 c, .pointer (some ⟨E, 0, none⟩), .bool ((farB (farB false W0_) W1_)), .int .i64 2, (.agg #[.int .i8 m0, .int .i8 m1, .int .i8 m2, .int .i8 m3, .int .i8 m4, .int .i8 m5, .int .i8 m6, .int .i8 m7, .int .i8 m8]), .int .i64 9, .bool false, .int .i64 8, .int .i8 m8, .int .i64 8, .int .i8 m8, .int .i64 m8, .int .i64 M8, .pointer (some ⟨D, 0, none⟩), .pointer (some ⟨D, 8, none⟩), .int .i64 9, .pointer (some ⟨B, 0, none⟩), .int .i16 t0, .int .i64 t0, .pointer (some ⟨B, 1, none⟩), .int .i16 t1, .int .i64 t1, .pointer (some ⟨B, 2, none⟩), .int .i16 t2, .int .i64 t2, (.agg #[.int .i64 t0, .int .i64 t1, .int .i64 t2]), (.agg #[.int .i64 T0_, .int .i64 T1_, .int .i64 T2_]), .pointer (some ⟨D, 9, none⟩), .tuple #[(.agg #[.int .i64 X, .int .i64 Y, .int .i64 Z]), .int .i64 c], (.agg #[.int .i64 M0, .int .i64 M1, .int .i64 M2, .int .i64 M3, .int .i64 M4, .int .i64 M5, .int .i64 M6, .int .i64 M7, .int .i64 M8, .int .i64 T0_, .int .i64 T1_, .int .i64 T2_]), .pointer (some ⟨Q, 0, none⟩), .int .i8 q0, .int .i64 q0, .pointer (some ⟨Q, 1, none⟩), .int .i8 q1, .int .i64 q1, .pointer (some ⟨Q, 2, none⟩), .int .i8 q2, .int .i64 q2, (.agg #[.int .i64 q0, .int .i64 q1, .int .i64 q2]), .tuple #[(.agg #[.int .i64 X, .int .i64 Y, .int .i64 Z]), .int .i64 c], (.agg #[.int .i64 X, .int .i64 Y, .int .i64 Z]), .int .i64 c, (.agg #[.int .i64 0, .int .i64 0, .int .i64 0]), .int .i64 2, .bool true, .int .i64 2, s 58, s 59, s 60, s 61, s 62, s 63, s 64, s 65, s 66, s 67, s 68, s 69, s 70, s 71, s 72, s 73, s 74, s 75, s 76, s 77, s 78, s 79, s 80, s 81, s 82, s 83, s 84, s 85, s 86, s 87, s 88, s 89, s 90, s 91, s 92, s 93, s 94, s 95, u96_1, u97_1, u98_1, u99_1, u100_1, u101_1, u102_1, u103_1, u104_1, u105_1, u106_1, u107_1, u108_1, .int .i64 2, undef, undef, undef, undef, undef, undef, undef, undef, undef, undef, undef, undef, undef, undef, undef, undef, undef, undef, undef, undef, undef, undef, undef, undef, undef, undef, undef], []⟩) (fun d s b w => (d 38 = false → Below V1.heap.size V1 w) ∧ (d 0 = true → s 58 = .int .i64 2) ∧ (d 1 = true → s 59 = .int .i64 2) ∧ (d 2 = true → s 60 = .int .i64 6) ∧ (d 3 = true → s 61 = .pointer (some ⟨A, 6, none⟩)) ∧ (d 4 = true → s 62 = .int .i8 m6) ∧ (d 5 = true → s 63 = .int .i64 m6) ∧ (d 6 = true → s 64 = .pointer (some ⟨Q, 0, none⟩)) ∧ (d 7 = true → s 65 = .int .i8 q0) ∧ (d 8 = true → s 66 = .int .i64 q0) ∧ (d 9 = true → s 67 = .int .i64 p6) ∧ (d 10 = true → s 68 = .int .i64 2) ∧ (d 11 = true → s 69 = .int .i64 6) ∧ (d 12 = true → s 70 = .int .i64 7) ∧ (d 13 = true → s 71 = .pointer (some ⟨A, 7, none⟩)) ∧ (d 14 = true → s 72 = .int .i8 m7) ∧ (d 15 = true → s 73 = .int .i64 m7) ∧ (d 16 = true → s 74 = .pointer (some ⟨Q, 1, none⟩)) ∧ (d 17 = true → s 75 = .int .i8 q1) ∧ (d 18 = true → s 76 = .int .i64 q1) ∧ (d 19 = true → s 77 = .int .i64 p7) ∧ (d 20 = true → s 78 = .int .i64 s2) ∧ (d 21 = true → s 79 = .int .i64 2) ∧ (d 22 = true → s 80 = .int .i64 6) ∧ (d 23 = true → s 81 = .int .i64 8) ∧ (d 24 = true → s 82 = .pointer (some ⟨A, 8, none⟩)) ∧ (d 25 = true → s 83 = .int .i8 m8) ∧ (d 26 = true → s 84 = .int .i64 m8) ∧ (d 27 = true → s 85 = .pointer (some ⟨Q, 2, none⟩)) ∧ (d 28 = true → s 86 = .int .i8 q2) ∧ (d 29 = true → s 87 = .int .i64 q2) ∧ (d 30 = true → s 88 = .int .i64 p8) ∧ (d 31 = true → s 89 = .int .i64 v2) ∧ (d 32 = true → s 90 = .int .i64 2) ∧ (d 33 = true → s 91 = .pointer (some ⟨B, 2, none⟩)) ∧ (d 34 = true → s 92 = .int .i16 t2) ∧ (d 35 = true → s 93 = .int .i64 t2) ∧ (d 36 = true → s 94 = .int .i64 W2_) ∧ (d 37 = true → s 95 = .pointer (some ⟨E, 2, none⟩)) ∧ (d 38 = true → ∀ j, j < 38 → d j = true) ∧ (d 38 = true → ∃ w2, Below V1.heap.size V1 w2 ∧ w = w2.setCells E 2 [.int .i64 W2_])) rfl ?h0z2 (?stz2 : StepsF _ _ _ _ 39 _ _ [0, 1, 2, 3, 4, 5, 6, 7, 8, 9, 10, 11, 12, 13, 14, 15, 16, 17, 18, 19, 20, 21, 22, 23, 24, 25, 26, 27, 28, 29, 30, 31, 32, 33, 34, 35, 36, 37, 38]) ?dnz2
  case h0z2 => exact ⟨fun _ => Below.drew (Below.refl _ _), (fun h => nomatch h), (fun h => nomatch h), (fun h => nomatch h), (fun h => nomatch h), (fun h => nomatch h), (fun h => nomatch h), (fun h => nomatch h), (fun h => nomatch h), (fun h => nomatch h), (fun h => nomatch h), (fun h => nomatch h), (fun h => nomatch h), (fun h => nomatch h), (fun h => nomatch h), (fun h => nomatch h), (fun h => nomatch h), (fun h => nomatch h), (fun h => nomatch h), (fun h => nomatch h), (fun h => nomatch h), (fun h => nomatch h), (fun h => nomatch h), (fun h => nomatch h), (fun h => nomatch h), (fun h => nomatch h), (fun h => nomatch h), (fun h => nomatch h), (fun h => nomatch h), (fun h => nomatch h), (fun h => nomatch h), (fun h => nomatch h), (fun h => nomatch h), (fun h => nomatch h), (fun h => nomatch h), (fun h => nomatch h), (fun h => nomatch h), (fun h => nomatch h), (fun h => nomatch h), (fun h => nomatch h), (fun h => nomatch h)⟩
  case stz2 =>
    refine StepsF.cons (o := _) rfl (ws := []) (by kernel_rfl) (by decide) (fun d s b w hF hd hw K hK => ?_) ?_
    · have hk : d 38 = false := by cases e : d 38 with | false => rfl | true => exact absurd ((p39_ hF.out) e 0 (by decide)) (by simp [hd])
      have hB : Below V1.heap.size V1 w := (p0_ hF.out) hk
      dsimp only
      go_simp
      exact hK.out (ups s 58 (.int .i64 2)) b _ ⟨(fun _ => hB), (fun _ => rfl), (p2_ hF.out), (p3_ hF.out), (p4_ hF.out), (p5_ hF.out), (p6_ hF.out), (p7_ hF.out), (p8_ hF.out), (p9_ hF.out), (p10_ hF.out), (p11_ hF.out), (p12_ hF.out), (p13_ hF.out), (p14_ hF.out), (p15_ hF.out), (p16_ hF.out), (p17_ hF.out), (p18_ hF.out), (p19_ hF.out), (p20_ hF.out), (p21_ hF.out), (p22_ hF.out), (p23_ hF.out), (p24_ hF.out), (p25_ hF.out), (p26_ hF.out), (p27_ hF.out), (p28_ hF.out), (p29_ hF.out), (p30_ hF.out), (p31_ hF.out), (p32_ hF.out), (p33_ hF.out), (p34_ hF.out), (p35_ hF.out), (p36_ hF.out), (p37_ hF.out), (p38_ hF.out), (fun h => absurd ((p39_ hF.out) h 0 (by decide)) (by simp [hd])), (fun h => absurd ((p39_ hF.out) h 0 (by decide)) (by simp [hd]))⟩
    refine StepsF.cons (o := _) rfl (ws := []) (by kernel_rfl) (by decide) (fun d s b w hF hd hw K hK => ?_) ?_
    · have hk : d 38 = false := by cases e : d 38 with | false => rfl | true => exact absurd ((p39_ hF.out) e 1 (by decide)) (by simp [hd])
      have hB : Below V1.heap.size V1 w := (p0_ hF.out) hk
      dsimp only
      go_simp
      exact hK.out (ups s 59 (.int .i64 2)) b _ ⟨(fun _ => hB), (p1_ hF.out), (fun _ => rfl), (p3_ hF.out), (p4_ hF.out), (p5_ hF.out), (p6_ hF.out), (p7_ hF.out), (p8_ hF.out), (p9_ hF.out), (p10_ hF.out), (p11_ hF.out), (p12_ hF.out), (p13_ hF.out), (p14_ hF.out), (p15_ hF.out), (p16_ hF.out), (p17_ hF.out), (p18_ hF.out), (p19_ hF.out), (p20_ hF.out), (p21_ hF.out), (p22_ hF.out), (p23_ hF.out), (p24_ hF.out), (p25_ hF.out), (p26_ hF.out), (p27_ hF.out), (p28_ hF.out), (p29_ hF.out), (p30_ hF.out), (p31_ hF.out), (p32_ hF.out), (p33_ hF.out), (p34_ hF.out), (p35_ hF.out), (p36_ hF.out), (p37_ hF.out), (p38_ hF.out), (fun h => absurd ((p39_ hF.out) h 1 (by decide)) (by simp [hd])), (fun h => absurd ((p39_ hF.out) h 1 (by decide)) (by simp [hd]))⟩
    refine StepsF.cons (o := _) rfl (ws := [1]) (by kernel_rfl) (by decide) (fun d s b w hF hd hw K hK => ?_) ?_
    · have hk : d 38 = false := by cases e : d 38 with | false => rfl | true => exact absurd ((p39_ hF.out) e 2 (by decide)) (by simp [hd])
      have hB : Below V1.heap.size V1 w := (p0_ hF.out) hk
      have e1 : s 59 = .int .i64 2 := (p2_ hF.out) (hw 1 (by decide))
      dsimp only
      go_simp
      exact hK.out (ups (ups s 59 (.int .i64 2)) 60 (.int .i64 6)) b _ ⟨(fun _ => hB), (p1_ hF.out), (fun _ => rfl), (fun _ => rfl), (p4_ hF.out), (p5_ hF.out), (p6_ hF.out), (p7_ hF.out), (p8_ hF.out), (p9_ hF.out), (p10_ hF.out), (p11_ hF.out), (p12_ hF.out), (p13_ hF.out), (p14_ hF.out), (p15_ hF.out), (p16_ hF.out), (p17_ hF.out), (p18_ hF.out), (p19_ hF.out), (p20_ hF.out), (p21_ hF.out), (p22_ hF.out), (p23_ hF.out), (p24_ hF.out), (p25_ hF.out), (p26_ hF.out), (p27_ hF.out), (p28_ hF.out), (p29_ hF.out), (p30_ hF.out), (p31_ hF.out), (p32_ hF.out), (p33_ hF.out), (p34_ hF.out), (p35_ hF.out), (p36_ hF.out), (p37_ hF.out), (p38_ hF.out), (fun h => absurd ((p39_ hF.out) h 2 (by decide)) (by simp [hd])), (fun h => absurd ((p39_ hF.out) h 2 (by decide)) (by simp [hd]))⟩
    refine StepsF.cons (o := _) rfl (ws := [2]) (by kernel_rfl) (by decide) (fun d s b w hF hd hw K hK => ?_) ?_
    · have hk : d 38 = false := by cases e : d 38 with | false => rfl | true => exact absurd ((p39_ hF.out) e 3 (by decide)) (by simp [hd])
      have hB : Below V1.heap.size V1 w := (p0_ hF.out) hk
      have e2 : s 60 = .int .i64 6 := (p3_ hF.out) (hw 2 (by decide))
      dsimp only
      go_simp
      exact hK.out (ups (ups s 60 (.int .i64 6)) 61 (.pointer (some ⟨A, 6, none⟩))) b _ ⟨(fun _ => hB), (p1_ hF.out), (p2_ hF.out), (fun _ => rfl), (fun _ => rfl), (p5_ hF.out), (p6_ hF.out), (p7_ hF.out), (p8_ hF.out), (p9_ hF.out), (p10_ hF.out), (p11_ hF.out), (p12_ hF.out), (p13_ hF.out), (p14_ hF.out), (p15_ hF.out), (p16_ hF.out), (p17_ hF.out), (p18_ hF.out), (p19_ hF.out), (p20_ hF.out), (p21_ hF.out), (p22_ hF.out), (p23_ hF.out), (p24_ hF.out), (p25_ hF.out), (p26_ hF.out), (p27_ hF.out), (p28_ hF.out), (p29_ hF.out), (p30_ hF.out), (p31_ hF.out), (p32_ hF.out), (p33_ hF.out), (p34_ hF.out), (p35_ hF.out), (p36_ hF.out), (p37_ hF.out), (p38_ hF.out), (fun h => absurd ((p39_ hF.out) h 3 (by decide)) (by simp [hd])), (fun h => absurd ((p39_ hF.out) h 3 (by decide)) (by simp [hd]))⟩
    refine StepsF.cons (o := _) rfl (ws := [3]) (by kernel_rfl) (by decide) (fun d s b w hF hd hw K hK => ?_) ?_
    · have hk : d 38 = false := by cases e : d 38 with | false => rfl | true => exact absurd ((p39_ hF.out) e 4 (by decide)) (by simp [hd])
      have hB : Below V1.heap.size V1 w := (p0_ hF.out) hk
      have e3 : s 61 = .pointer (some ⟨A, 6, none⟩) := (p4_ hF.out) (hw 3 (by decide))
      dsimp only
      have oxa := HA.out.later hB
      have xa6 := oxa.at 6 _ rfl
      have xa7 := oxa.at 7 _ rfl
      have xa8 := oxa.at 8 _ rfl
      clear oxa
      have oxq := HQ.out.later hB
      have xq0 := oxq.at 0 _ rfl
      have xq1 := oxq.at 1 _ rfl
      have xq2 := oxq.at 2 _ rfl
      clear oxq
      have oxb := HB.out.later hB
      have xb2 := oxb.at 2 _ rfl
      clear oxb
      go_simp
      exact hK.out (ups (ups s 61 (.pointer (some ⟨A, 6, none⟩))) 62 (.int .i8 m6)) b _ ⟨(fun _ => hB), (p1_ hF.out), (p2_ hF.out), (p3_ hF.out), (fun _ => rfl), (fun _ => rfl), (p6_ hF.out), (p7_ hF.out), (p8_ hF.out), (p9_ hF.out), (p10_ hF.out), (p11_ hF.out), (p12_ hF.out), (p13_ hF.out), (p14_ hF.out), (p15_ hF.out), (p16_ hF.out), (p17_ hF.out), (p18_ hF.out), (p19_ hF.out), (p20_ hF.out), (p21_ hF.out), (p22_ hF.out), (p23_ hF.out), (p24_ hF.out), (p25_ hF.out), (p26_ hF.out), (p27_ hF.out), (p28_ hF.out), (p29_ hF.out), (p30_ hF.out), (p31_ hF.out), (p32_ hF.out), (p33_ hF.out), (p34_ hF.out), (p35_ hF.out), (p36_ hF.out), (p37_ hF.out), (p38_ hF.out), (fun h => absurd ((p39_ hF.out) h 4 (by decide)) (by simp [hd])), (fun h => absurd ((p39_ hF.out) h 4 (by decide)) (by simp [hd]))⟩
    refine StepsF.cons (o := _) rfl (ws := [4]) (by kernel_rfl) (by decide) (fun d s b w hF hd hw K hK => ?_) ?_
    · have hk : d 38 = false := by cases e : d 38 with | false => rfl | true => exact absurd ((p39_ hF.out) e 5 (by decide)) (by simp [hd])
      have hB : Below V1.heap.size V1 w := (p0_ hF.out) hk
      have e4 : s 62 = .int .i8 m6 := (p5_ hF.out) (hw 4 (by decide))
      dsimp only
      have cv := cm6.out
      go_simp
      first | rw [cv] | rw [IntWalk.i64_left, cv] | simp only [IntWalk.i64_left, cv] | (trace_state; fail)
      exact hK.out (ups (ups s 62 (.int .i8 m6)) 63 (.int .i64 m6)) b _ ⟨(fun _ => hB), (p1_ hF.out), (p2_ hF.out), (p3_ hF.out), (p4_ hF.out), (fun _ => rfl), (fun _ => rfl), (p7_ hF.out), (p8_ hF.out), (p9_ hF.out), (p10_ hF.out), (p11_ hF.out), (p12_ hF.out), (p13_ hF.out), (p14_ hF.out), (p15_ hF.out), (p16_ hF.out), (p17_ hF.out), (p18_ hF.out), (p19_ hF.out), (p20_ hF.out), (p21_ hF.out), (p22_ hF.out), (p23_ hF.out), (p24_ hF.out), (p25_ hF.out), (p26_ hF.out), (p27_ hF.out), (p28_ hF.out), (p29_ hF.out), (p30_ hF.out), (p31_ hF.out), (p32_ hF.out), (p33_ hF.out), (p34_ hF.out), (p35_ hF.out), (p36_ hF.out), (p37_ hF.out), (p38_ hF.out), (fun h => absurd ((p39_ hF.out) h 5 (by decide)) (by simp [hd])), (fun h => absurd ((p39_ hF.out) h 5 (by decide)) (by simp [hd]))⟩
    refine StepsF.cons (o := _) rfl (ws := []) (by kernel_rfl) (by decide) (fun d s b w hF hd hw K hK => ?_) ?_
    · have hk : d 38 = false := by cases e : d 38 with | false => rfl | true => exact absurd ((p39_ hF.out) e 6 (by decide)) (by simp [hd])
      have hB : Below V1.heap.size V1 w := (p0_ hF.out) hk
      dsimp only
      go_simp
      exact hK.out (ups s 64 (.pointer (some ⟨Q, 0, none⟩))) b _ ⟨(fun _ => hB), (p1_ hF.out), (p2_ hF.out), (p3_ hF.out), (p4_ hF.out), (p5_ hF.out), (p6_ hF.out), (fun _ => rfl), (p8_ hF.out), (p9_ hF.out), (p10_ hF.out), (p11_ hF.out), (p12_ hF.out), (p13_ hF.out), (p14_ hF.out), (p15_ hF.out), (p16_ hF.out), (p17_ hF.out), (p18_ hF.out), (p19_ hF.out), (p20_ hF.out), (p21_ hF.out), (p22_ hF.out), (p23_ hF.out), (p24_ hF.out), (p25_ hF.out), (p26_ hF.out), (p27_ hF.out), (p28_ hF.out), (p29_ hF.out), (p30_ hF.out), (p31_ hF.out), (p32_ hF.out), (p33_ hF.out), (p34_ hF.out), (p35_ hF.out), (p36_ hF.out), (p37_ hF.out), (p38_ hF.out), (fun h => absurd ((p39_ hF.out) h 6 (by decide)) (by simp [hd])), (fun h => absurd ((p39_ hF.out) h 6 (by decide)) (by simp [hd]))⟩
    refine StepsF.cons (o := _) rfl (ws := [6]) (by kernel_rfl) (by decide) (fun d s b w hF hd hw K hK => ?_) ?_
    · have hk : d 38 = false := by cases e : d 38 with | false => rfl | true => exact absurd ((p39_ hF.out) e 7 (by decide)) (by simp [hd])
      have hB : Below V1.heap.size V1 w := (p0_ hF.out) hk
      have e6 : s 64 = .pointer (some ⟨Q, 0, none⟩) := (p7_ hF.out) (hw 6 (by decide))
      dsimp only
      have oxa := HA.out.later hB
      have xa6 := oxa.at 6 _ rfl
      have xa7 := oxa.at 7 _ rfl
      have xa8 := oxa.at 8 _ rfl
      clear oxa
      have oxq := HQ.out.later hB
      have xq0 := oxq.at 0 _ rfl
      have xq1 := oxq.at 1 _ rfl
      have xq2 := oxq.at 2 _ rfl
      clear oxq
      have oxb := HB.out.later hB
      have xb2 := oxb.at 2 _ rfl
      clear oxb
      go_simp
      exact hK.out (ups (ups s 64 (.pointer (some ⟨Q, 0, none⟩))) 65 (.int .i8 q0)) b _ ⟨(fun _ => hB), (p1_ hF.out), (p2_ hF.out), (p3_ hF.out), (p4_ hF.out), (p5_ hF.out), (p6_ hF.out), (fun _ => rfl), (fun _ => rfl), (p9_ hF.out), (p10_ hF.out), (p11_ hF.out), (p12_ hF.out), (p13_ hF.out), (p14_ hF.out), (p15_ hF.out), (p16_ hF.out), (p17_ hF.out), (p18_ hF.out), (p19_ hF.out), (p20_ hF.out), (p21_ hF.out), (p22_ hF.out), (p23_ hF.out), (p24_ hF.out), (p25_ hF.out), (p26_ hF.out), (p27_ hF.out), (p28_ hF.out), (p29_ hF.out), (p30_ hF.out), (p31_ hF.out), (p32_ hF.out), (p33_ hF.out), (p34_ hF.out), (p35_ hF.out), (p36_ hF.out), (p37_ hF.out), (p38_ hF.out), (fun h => absurd ((p39_ hF.out) h 7 (by decide)) (by simp [hd])), (fun h => absurd ((p39_ hF.out) h 7 (by decide)) (by simp [hd]))⟩
    refine StepsF.cons (o := _) rfl (ws := [7]) (by kernel_rfl) (by decide) (fun d s b w hF hd hw K hK => ?_) ?_
    · have hk : d 38 = false := by cases e : d 38 with | false => rfl | true => exact absurd ((p39_ hF.out) e 8 (by decide)) (by simp [hd])
      have hB : Below V1.heap.size V1 w := (p0_ hF.out) hk
      have e7 : s 65 = .int .i8 q0 := (p8_ hF.out) (hw 7 (by decide))
      dsimp only
      have cv := cq0.out
      go_simp
      first | rw [cv] | rw [IntWalk.i64_left, cv] | simp only [IntWalk.i64_left, cv] | (trace_state; fail)
      exact hK.out (ups (ups s 65 (.int .i8 q0)) 66 (.int .i64 q0)) b _ ⟨(fun _ => hB), (p1_ hF.out), (p2_ hF.out), (p3_ hF.out), (p4_ hF.out), (p5_ hF.out), (p6_ hF.out), (p7_ hF.out), (fun _ => rfl), (fun _ => rfl), (p10_ hF.out), (p11_ hF.out), (p12_ hF.out), (p13_ hF.out), (p14_ hF.out), (p15_ hF.out), (p16_ hF.out), (p17_ hF.out), (p18_ hF.out), (p19_ hF.out), (p20_ hF.out), (p21_ hF.out), (p22_ hF.out), (p23_ hF.out), (p24_ hF.out), (p25_ hF.out), (p26_ hF.out), (p27_ hF.out), (p28_ hF.out), (p29_ hF.out), (p30_ hF.out), (p31_ hF.out), (p32_ hF.out), (p33_ hF.out), (p34_ hF.out), (p35_ hF.out), (p36_ hF.out), (p37_ hF.out), (p38_ hF.out), (fun h => absurd ((p39_ hF.out) h 8 (by decide)) (by simp [hd])), (fun h => absurd ((p39_ hF.out) h 8 (by decide)) (by simp [hd]))⟩
    refine StepsF.cons (o := _) rfl (ws := [5, 8]) (by kernel_rfl) (by decide) (fun d s b w hF hd hw K hK => ?_) ?_
    · have hk : d 38 = false := by cases e : d 38 with | false => rfl | true => exact absurd ((p39_ hF.out) e 9 (by decide)) (by simp [hd])
      have hB : Below V1.heap.size V1 w := (p0_ hF.out) hk
      have e5 : s 63 = .int .i64 m6 := (p6_ hF.out) (hw 5 (by decide))
      have e8 : s 66 = .int .i64 q0 := (p9_ hF.out) (hw 8 (by decide))
      dsimp only
      have cv := hp6.out
      go_simp
      first | rw [cv] | rw [IntWalk.i64_left, cv] | simp only [IntWalk.i64_left, cv] | (trace_state; fail)
      exact hK.out (ups (ups (ups s 63 (.int .i64 m6)) 66 (.int .i64 q0)) 67 (.int .i64 p6)) b _ ⟨(fun _ => hB), (p1_ hF.out), (p2_ hF.out), (p3_ hF.out), (p4_ hF.out), (p5_ hF.out), (fun _ => rfl), (p7_ hF.out), (p8_ hF.out), (fun _ => rfl), (fun _ => rfl), (p11_ hF.out), (p12_ hF.out), (p13_ hF.out), (p14_ hF.out), (p15_ hF.out), (p16_ hF.out), (p17_ hF.out), (p18_ hF.out), (p19_ hF.out), (p20_ hF.out), (p21_ hF.out), (p22_ hF.out), (p23_ hF.out), (p24_ hF.out), (p25_ hF.out), (p26_ hF.out), (p27_ hF.out), (p28_ hF.out), (p29_ hF.out), (p30_ hF.out), (p31_ hF.out), (p32_ hF.out), (p33_ hF.out), (p34_ hF.out), (p35_ hF.out), (p36_ hF.out), (p37_ hF.out), (p38_ hF.out), (fun h => absurd ((p39_ hF.out) h 9 (by decide)) (by simp [hd])), (fun h => absurd ((p39_ hF.out) h 9 (by decide)) (by simp [hd]))⟩
    refine StepsF.cons (o := _) rfl (ws := []) (by kernel_rfl) (by decide) (fun d s b w hF hd hw K hK => ?_) ?_
    · have hk : d 38 = false := by cases e : d 38 with | false => rfl | true => exact absurd ((p39_ hF.out) e 10 (by decide)) (by simp [hd])
      have hB : Below V1.heap.size V1 w := (p0_ hF.out) hk
      dsimp only
      go_simp
      exact hK.out (ups s 68 (.int .i64 2)) b _ ⟨(fun _ => hB), (p1_ hF.out), (p2_ hF.out), (p3_ hF.out), (p4_ hF.out), (p5_ hF.out), (p6_ hF.out), (p7_ hF.out), (p8_ hF.out), (p9_ hF.out), (p10_ hF.out), (fun _ => rfl), (p12_ hF.out), (p13_ hF.out), (p14_ hF.out), (p15_ hF.out), (p16_ hF.out), (p17_ hF.out), (p18_ hF.out), (p19_ hF.out), (p20_ hF.out), (p21_ hF.out), (p22_ hF.out), (p23_ hF.out), (p24_ hF.out), (p25_ hF.out), (p26_ hF.out), (p27_ hF.out), (p28_ hF.out), (p29_ hF.out), (p30_ hF.out), (p31_ hF.out), (p32_ hF.out), (p33_ hF.out), (p34_ hF.out), (p35_ hF.out), (p36_ hF.out), (p37_ hF.out), (p38_ hF.out), (fun h => absurd ((p39_ hF.out) h 10 (by decide)) (by simp [hd])), (fun h => absurd ((p39_ hF.out) h 10 (by decide)) (by simp [hd]))⟩
    refine StepsF.cons (o := _) rfl (ws := [10]) (by kernel_rfl) (by decide) (fun d s b w hF hd hw K hK => ?_) ?_
    · have hk : d 38 = false := by cases e : d 38 with | false => rfl | true => exact absurd ((p39_ hF.out) e 11 (by decide)) (by simp [hd])
      have hB : Below V1.heap.size V1 w := (p0_ hF.out) hk
      have e10 : s 68 = .int .i64 2 := (p11_ hF.out) (hw 10 (by decide))
      dsimp only
      go_simp
      exact hK.out (ups (ups s 68 (.int .i64 2)) 69 (.int .i64 6)) b _ ⟨(fun _ => hB), (p1_ hF.out), (p2_ hF.out), (p3_ hF.out), (p4_ hF.out), (p5_ hF.out), (p6_ hF.out), (p7_ hF.out), (p8_ hF.out), (p9_ hF.out), (p10_ hF.out), (fun _ => rfl), (fun _ => rfl), (p13_ hF.out), (p14_ hF.out), (p15_ hF.out), (p16_ hF.out), (p17_ hF.out), (p18_ hF.out), (p19_ hF.out), (p20_ hF.out), (p21_ hF.out), (p22_ hF.out), (p23_ hF.out), (p24_ hF.out), (p25_ hF.out), (p26_ hF.out), (p27_ hF.out), (p28_ hF.out), (p29_ hF.out), (p30_ hF.out), (p31_ hF.out), (p32_ hF.out), (p33_ hF.out), (p34_ hF.out), (p35_ hF.out), (p36_ hF.out), (p37_ hF.out), (p38_ hF.out), (fun h => absurd ((p39_ hF.out) h 11 (by decide)) (by simp [hd])), (fun h => absurd ((p39_ hF.out) h 11 (by decide)) (by simp [hd]))⟩
    refine StepsF.cons (o := _) rfl (ws := [11]) (by kernel_rfl) (by decide) (fun d s b w hF hd hw K hK => ?_) ?_
    · have hk : d 38 = false := by cases e : d 38 with | false => rfl | true => exact absurd ((p39_ hF.out) e 12 (by decide)) (by simp [hd])
      have hB : Below V1.heap.size V1 w := (p0_ hF.out) hk
      have e11 : s 69 = .int .i64 6 := (p12_ hF.out) (hw 11 (by decide))
      dsimp only
      go_simp
      exact hK.out (ups (ups s 69 (.int .i64 6)) 70 (.int .i64 7)) b _ ⟨(fun _ => hB), (p1_ hF.out), (p2_ hF.out), (p3_ hF.out), (p4_ hF.out), (p5_ hF.out), (p6_ hF.out), (p7_ hF.out), (p8_ hF.out), (p9_ hF.out), (p10_ hF.out), (p11_ hF.out), (fun _ => rfl), (fun _ => rfl), (p14_ hF.out), (p15_ hF.out), (p16_ hF.out), (p17_ hF.out), (p18_ hF.out), (p19_ hF.out), (p20_ hF.out), (p21_ hF.out), (p22_ hF.out), (p23_ hF.out), (p24_ hF.out), (p25_ hF.out), (p26_ hF.out), (p27_ hF.out), (p28_ hF.out), (p29_ hF.out), (p30_ hF.out), (p31_ hF.out), (p32_ hF.out), (p33_ hF.out), (p34_ hF.out), (p35_ hF.out), (p36_ hF.out), (p37_ hF.out), (p38_ hF.out), (fun h => absurd ((p39_ hF.out) h 12 (by decide)) (by simp [hd])), (fun h => absurd ((p39_ hF.out) h 12 (by decide)) (by simp [hd]))⟩
    refine StepsF.cons (o := _) rfl (ws := [12]) (by kernel_rfl) (by decide) (fun d s b w hF hd hw K hK => ?_) ?_
    · have hk : d 38 = false := by cases e : d 38 with | false => rfl | true => exact absurd ((p39_ hF.out) e 13 (by decide)) (by simp [hd])
      have hB : Below V1.heap.size V1 w := (p0_ hF.out) hk
      have e12 : s 70 = .int .i64 7 := (p13_ hF.out) (hw 12 (by decide))
      dsimp only
      go_simp
      exact hK.out (ups (ups s 70 (.int .i64 7)) 71 (.pointer (some ⟨A, 7, none⟩))) b _ ⟨(fun _ => hB), (p1_ hF.out), (p2_ hF.out), (p3_ hF.out), (p4_ hF.out), (p5_ hF.out), (p6_ hF.out), (p7_ hF.out), (p8_ hF.out), (p9_ hF.out), (p10_ hF.out), (p11_ hF.out), (p12_ hF.out), (fun _ => rfl), (fun _ => rfl), (p15_ hF.out), (p16_ hF.out), (p17_ hF.out), (p18_ hF.out), (p19_ hF.out), (p20_ hF.out), (p21_ hF.out), (p22_ hF.out), (p23_ hF.out), (p24_ hF.out), (p25_ hF.out), (p26_ hF.out), (p27_ hF.out), (p28_ hF.out), (p29_ hF.out), (p30_ hF.out), (p31_ hF.out), (p32_ hF.out), (p33_ hF.out), (p34_ hF.out), (p35_ hF.out), (p36_ hF.out), (p37_ hF.out), (p38_ hF.out), (fun h => absurd ((p39_ hF.out) h 13 (by decide)) (by simp [hd])), (fun h => absurd ((p39_ hF.out) h 13 (by decide)) (by simp [hd]))⟩
    refine StepsF.cons (o := _) rfl (ws := [13]) (by kernel_rfl) (by decide) (fun d s b w hF hd hw K hK => ?_) ?_
    · have hk : d 38 = false := by cases e : d 38 with | false => rfl | true => exact absurd ((p39_ hF.out) e 14 (by decide)) (by simp [hd])
      have hB : Below V1.heap.size V1 w := (p0_ hF.out) hk
      have e13 : s 71 = .pointer (some ⟨A, 7, none⟩) := (p14_ hF.out) (hw 13 (by decide))
      dsimp only
      have oxa := HA.out.later hB
      have xa6 := oxa.at 6 _ rfl
      have xa7 := oxa.at 7 _ rfl
      have xa8 := oxa.at 8 _ rfl
      clear oxa
      have oxq := HQ.out.later hB
      have xq0 := oxq.at 0 _ rfl
      have xq1 := oxq.at 1 _ rfl
      have xq2 := oxq.at 2 _ rfl
      clear oxq
      have oxb := HB.out.later hB
      have xb2 := oxb.at 2 _ rfl
      clear oxb
      go_simp
      exact hK.out (ups (ups s 71 (.pointer (some ⟨A, 7, none⟩))) 72 (.int .i8 m7)) b _ ⟨(fun _ => hB), (p1_ hF.out), (p2_ hF.out), (p3_ hF.out), (p4_ hF.out), (p5_ hF.out), (p6_ hF.out), (p7_ hF.out), (p8_ hF.out), (p9_ hF.out), (p10_ hF.out), (p11_ hF.out), (p12_ hF.out), (p13_ hF.out), (fun _ => rfl), (fun _ => rfl), (p16_ hF.out), (p17_ hF.out), (p18_ hF.out), (p19_ hF.out), (p20_ hF.out), (p21_ hF.out), (p22_ hF.out), (p23_ hF.out), (p24_ hF.out), (p25_ hF.out), (p26_ hF.out), (p27_ hF.out), (p28_ hF.out), (p29_ hF.out), (p30_ hF.out), (p31_ hF.out), (p32_ hF.out), (p33_ hF.out), (p34_ hF.out), (p35_ hF.out), (p36_ hF.out), (p37_ hF.out), (p38_ hF.out), (fun h => absurd ((p39_ hF.out) h 14 (by decide)) (by simp [hd])), (fun h => absurd ((p39_ hF.out) h 14 (by decide)) (by simp [hd]))⟩
    refine StepsF.cons (o := _) rfl (ws := [14]) (by kernel_rfl) (by decide) (fun d s b w hF hd hw K hK => ?_) ?_
    · have hk : d 38 = false := by cases e : d 38 with | false => rfl | true => exact absurd ((p39_ hF.out) e 15 (by decide)) (by simp [hd])
      have hB : Below V1.heap.size V1 w := (p0_ hF.out) hk
      have e14 : s 72 = .int .i8 m7 := (p15_ hF.out) (hw 14 (by decide))
      dsimp only
      have cv := cm7.out
      go_simp
      first | rw [cv] | rw [IntWalk.i64_left, cv] | simp only [IntWalk.i64_left, cv] | (trace_state; fail)
      exact hK.out (ups (ups s 72 (.int .i8 m7)) 73 (.int .i64 m7)) b _ ⟨(fun _ => hB), (p1_ hF.out), (p2_ hF.out), (p3_ hF.out), (p4_ hF.out), (p5_ hF.out), (p6_ hF.out), (p7_ hF.out), (p8_ hF.out), (p9_ hF.out), (p10_ hF.out), (p11_ hF.out), (p12_ hF.out), (p13_ hF.out), (p14_ hF.out), (fun _ => rfl), (fun _ => rfl), (p17_ hF.out), (p18_ hF.out), (p19_ hF.out), (p20_ hF.out), (p21_ hF.out), (p22_ hF.out), (p23_ hF.out), (p24_ hF.out), (p25_ hF.out), (p26_ hF.out), (p27_ hF.out), (p28_ hF.out), (p29_ hF.out), (p30_ hF.out), (p31_ hF.out), (p32_ hF.out), (p33_ hF.out), (p34_ hF.out), (p35_ hF.out), (p36_ hF.out), (p37_ hF.out), (p38_ hF.out), (fun h => absurd ((p39_ hF.out) h 15 (by decide)) (by simp [hd])), (fun h => absurd ((p39_ hF.out) h 15 (by decide)) (by simp [hd]))⟩
    refine StepsF.cons (o := _) rfl (ws := []) (by kernel_rfl) (by decide) (fun d s b w hF hd hw K hK => ?_) ?_
    · have hk : d 38 = false := by cases e : d 38 with | false => rfl | true => exact absurd ((p39_ hF.out) e 16 (by decide)) (by simp [hd])
      have hB : Below V1.heap.size V1 w := (p0_ hF.out) hk
      dsimp only
      go_simp
      exact hK.out (ups s 74 (.pointer (some ⟨Q, 1, none⟩))) b _ ⟨(fun _ => hB), (p1_ hF.out), (p2_ hF.out), (p3_ hF.out), (p4_ hF.out), (p5_ hF.out), (p6_ hF.out), (p7_ hF.out), (p8_ hF.out), (p9_ hF.out), (p10_ hF.out), (p11_ hF.out), (p12_ hF.out), (p13_ hF.out), (p14_ hF.out), (p15_ hF.out), (p16_ hF.out), (fun _ => rfl), (p18_ hF.out), (p19_ hF.out), (p20_ hF.out), (p21_ hF.out), (p22_ hF.out), (p23_ hF.out), (p24_ hF.out), (p25_ hF.out), (p26_ hF.out), (p27_ hF.out), (p28_ hF.out), (p29_ hF.out), (p30_ hF.out), (p31_ hF.out), (p32_ hF.out), (p33_ hF.out), (p34_ hF.out), (p35_ hF.out), (p36_ hF.out), (p37_ hF.out), (p38_ hF.out), (fun h => absurd ((p39_ hF.out) h 16 (by decide)) (by simp [hd])), (fun h => absurd ((p39_ hF.out) h 16 (by decide)) (by simp [hd]))⟩
    refine StepsF.cons (o := _) rfl (ws := [16]) (by kernel_rfl) (by decide) (fun d s b w hF hd hw K hK => ?_) ?_
    · have hk : d 38 = false := by cases e : d 38 with | false => rfl | true => exact absurd ((p39_ hF.out) e 17 (by decide)) (by simp [hd])
      have hB : Below V1.heap.size V1 w := (p0_ hF.out) hk
      have e16 : s 74 = .pointer (some ⟨Q, 1, none⟩) := (p17_ hF.out) (hw 16 (by decide))
      dsimp only
      have oxa := HA.out.later hB
      have xa6 := oxa.at 6 _ rfl
      have xa7 := oxa.at 7 _ rfl
      have xa8 := oxa.at 8 _ rfl
      clear oxa
      have oxq := HQ.out.later hB
      have xq0 := oxq.at 0 _ rfl
      have xq1 := oxq.at 1 _ rfl
      have xq2 := oxq.at 2 _ rfl
      clear oxq
      have oxb := HB.out.later hB
      have xb2 := oxb.at 2 _ rfl
      clear oxb
      go_simp
      exact hK.out (ups (ups s 74 (.pointer (some ⟨Q, 1, none⟩))) 75 (.int .i8 q1)) b _ ⟨(fun _ => hB), (p1_ hF.out), (p2_ hF.out), (p3_ hF.out), (p4_ hF.out), (p5_ hF.out), (p6_ hF.out), (p7_ hF.out), (p8_ hF.out), (p9_ hF.out), (p10_ hF.out), (p11_ hF.out), (p12_ hF.out), (p13_ hF.out), (p14_ hF.out), (p15_ hF.out), (p16_ hF.out), (fun _ => rfl), (fun _ => rfl), (p19_ hF.out), (p20_ hF.out), (p21_ hF.out), (p22_ hF.out), (p23_ hF.out), (p24_ hF.out), (p25_ hF.out), (p26_ hF.out), (p27_ hF.out), (p28_ hF.out), (p29_ hF.out), (p30_ hF.out), (p31_ hF.out), (p32_ hF.out), (p33_ hF.out), (p34_ hF.out), (p35_ hF.out), (p36_ hF.out), (p37_ hF.out), (p38_ hF.out), (fun h => absurd ((p39_ hF.out) h 17 (by decide)) (by simp [hd])), (fun h => absurd ((p39_ hF.out) h 17 (by decide)) (by simp [hd]))⟩
    refine StepsF.cons (o := _) rfl (ws := [17]) (by kernel_rfl) (by decide) (fun d s b w hF hd hw K hK => ?_) ?_
    · have hk : d 38 = false := by cases e : d 38 with | false => rfl | true => exact absurd ((p39_ hF.out) e 18 (by decide)) (by simp [hd])
      have hB : Below V1.heap.size V1 w := (p0_ hF.out) hk
      have e17 : s 75 = .int .i8 q1 := (p18_ hF.out) (hw 17 (by decide))
      dsimp only
      have cv := cq1.out
      go_simp
      first | rw [cv] | rw [IntWalk.i64_left, cv] | simp only [IntWalk.i64_left, cv] | (trace_state; fail)
      exact hK.out (ups (ups s 75 (.int .i8 q1)) 76 (.int .i64 q1)) b _ ⟨(fun _ => hB), (p1_ hF.out), (p2_ hF.out), (p3_ hF.out), (p4_ hF.out), (p5_ hF.out), (p6_ hF.out), (p7_ hF.out), (p8_ hF.out), (p9_ hF.out), (p10_ hF.out), (p11_ hF.out), (p12_ hF.out), (p13_ hF.out), (p14_ hF.out), (p15_ hF.out), (p16_ hF.out), (p17_ hF.out), (fun _ => rfl), (fun _ => rfl), (p20_ hF.out), (p21_ hF.out), (p22_ hF.out), (p23_ hF.out), (p24_ hF.out), (p25_ hF.out), (p26_ hF.out), (p27_ hF.out), (p28_ hF.out), (p29_ hF.out), (p30_ hF.out), (p31_ hF.out), (p32_ hF.out), (p33_ hF.out), (p34_ hF.out), (p35_ hF.out), (p36_ hF.out), (p37_ hF.out), (p38_ hF.out), (fun h => absurd ((p39_ hF.out) h 18 (by decide)) (by simp [hd])), (fun h => absurd ((p39_ hF.out) h 18 (by decide)) (by simp [hd]))⟩
    refine StepsF.cons (o := _) rfl (ws := [15, 18]) (by kernel_rfl) (by decide) (fun d s b w hF hd hw K hK => ?_) ?_
    · have hk : d 38 = false := by cases e : d 38 with | false => rfl | true => exact absurd ((p39_ hF.out) e 19 (by decide)) (by simp [hd])
      have hB : Below V1.heap.size V1 w := (p0_ hF.out) hk
      have e15 : s 73 = .int .i64 m7 := (p16_ hF.out) (hw 15 (by decide))
      have e18 : s 76 = .int .i64 q1 := (p19_ hF.out) (hw 18 (by decide))
      dsimp only
      have cv := hp7.out
      go_simp
      first | rw [cv] | rw [IntWalk.i64_left, cv] | simp only [IntWalk.i64_left, cv] | (trace_state; fail)
      exact hK.out (ups (ups (ups s 73 (.int .i64 m7)) 76 (.int .i64 q1)) 77 (.int .i64 p7)) b _ ⟨(fun _ => hB), (p1_ hF.out), (p2_ hF.out), (p3_ hF.out), (p4_ hF.out), (p5_ hF.out), (p6_ hF.out), (p7_ hF.out), (p8_ hF.out), (p9_ hF.out), (p10_ hF.out), (p11_ hF.out), (p12_ hF.out), (p13_ hF.out), (p14_ hF.out), (p15_ hF.out), (fun _ => rfl), (p17_ hF.out), (p18_ hF.out), (fun _ => rfl), (fun _ => rfl), (p21_ hF.out), (p22_ hF.out), (p23_ hF.out), (p24_ hF.out), (p25_ hF.out), (p26_ hF.out), (p27_ hF.out), (p28_ hF.out), (p29_ hF.out), (p30_ hF.out), (p31_ hF.out), (p32_ hF.out), (p33_ hF.out), (p34_ hF.out), (p35_ hF.out), (p36_ hF.out), (p37_ hF.out), (p38_ hF.out), (fun h => absurd ((p39_ hF.out) h 19 (by decide)) (by simp [hd])), (fun h => absurd ((p39_ hF.out) h 19 (by decide)) (by simp [hd]))⟩
    refine StepsF.cons (o := _) rfl (ws := [9, 19]) (by kernel_rfl) (by decide) (fun d s b w hF hd hw K hK => ?_) ?_
    · have hk : d 38 = false := by cases e : d 38 with | false => rfl | true => exact absurd ((p39_ hF.out) e 20 (by decide)) (by simp [hd])
      have hB : Below V1.heap.size V1 w := (p0_ hF.out) hk
      have e9 : s 67 = .int .i64 p6 := (p10_ hF.out) (hw 9 (by decide))
      have e19 : s 77 = .int .i64 p7 := (p20_ hF.out) (hw 19 (by decide))
      dsimp only
      have cv := hs2.out
      go_simp
      first | rw [cv] | rw [IntWalk.i64_left, cv] | simp only [IntWalk.i64_left, cv] | (trace_state; fail)
      exact hK.out (ups (ups (ups s 67 (.int .i64 p6)) 77 (.int .i64 p7)) 78 (.int .i64 s2)) b _ ⟨(fun _ => hB), (p1_ hF.out), (p2_ hF.out), (p3_ hF.out), (p4_ hF.out), (p5_ hF.out), (p6_ hF.out), (p7_ hF.out), (p8_ hF.out), (p9_ hF.out), (fun _ => rfl), (p11_ hF.out), (p12_ hF.out), (p13_ hF.out), (p14_ hF.out), (p15_ hF.out), (p16_ hF.out), (p17_ hF.out), (p18_ hF.out), (p19_ hF.out), (fun _ => rfl), (fun _ => rfl), (p22_ hF.out), (p23_ hF.out), (p24_ hF.out), (p25_ hF.out), (p26_ hF.out), (p27_ hF.out), (p28_ hF.out), (p29_ hF.out), (p30_ hF.out), (p31_ hF.out), (p32_ hF.out), (p33_ hF.out), (p34_ hF.out), (p35_ hF.out), (p36_ hF.out), (p37_ hF.out), (p38_ hF.out), (fun h => absurd ((p39_ hF.out) h 20 (by decide)) (by simp [hd])), (fun h => absurd ((p39_ hF.out) h 20 (by decide)) (by simp [hd]))⟩
    refine StepsF.cons (o := _) rfl (ws := []) (by kernel_rfl) (by decide) (fun d s b w hF hd hw K hK => ?_) ?_
    · have hk : d 38 = false := by cases e : d 38 with | false => rfl | true => exact absurd ((p39_ hF.out) e 21 (by decide)) (by simp [hd])
      have hB : Below V1.heap.size V1 w := (p0_ hF.out) hk
      dsimp only
      go_simp
      exact hK.out (ups s 79 (.int .i64 2)) b _ ⟨(fun _ => hB), (p1_ hF.out), (p2_ hF.out), (p3_ hF.out), (p4_ hF.out), (p5_ hF.out), (p6_ hF.out), (p7_ hF.out), (p8_ hF.out), (p9_ hF.out), (p10_ hF.out), (p11_ hF.out), (p12_ hF.out), (p13_ hF.out), (p14_ hF.out), (p15_ hF.out), (p16_ hF.out), (p17_ hF.out), (p18_ hF.out), (p19_ hF.out), (p20_ hF.out), (p21_ hF.out), (fun _ => rfl), (p23_ hF.out), (p24_ hF.out), (p25_ hF.out), (p26_ hF.out), (p27_ hF.out), (p28_ hF.out), (p29_ hF.out), (p30_ hF.out), (p31_ hF.out), (p32_ hF.out), (p33_ hF.out), (p34_ hF.out), (p35_ hF.out), (p36_ hF.out), (p37_ hF.out), (p38_ hF.out), (fun h => absurd ((p39_ hF.out) h 21 (by decide)) (by simp [hd])), (fun h => absurd ((p39_ hF.out) h 21 (by decide)) (by simp [hd]))⟩
    refine StepsF.cons (o := _) rfl (ws := [21]) (by kernel_rfl) (by decide) (fun d s b w hF hd hw K hK => ?_) ?_
    · have hk : d 38 = false := by cases e : d 38 with | false => rfl | true => exact absurd ((p39_ hF.out) e 22 (by decide)) (by simp [hd])
      have hB : Below V1.heap.size V1 w := (p0_ hF.out) hk
      have e21 : s 79 = .int .i64 2 := (p22_ hF.out) (hw 21 (by decide))
      dsimp only
      go_simp
      exact hK.out (ups (ups s 79 (.int .i64 2)) 80 (.int .i64 6)) b _ ⟨(fun _ => hB), (p1_ hF.out), (p2_ hF.out), (p3_ hF.out), (p4_ hF.out), (p5_ hF.out), (p6_ hF.out), (p7_ hF.out), (p8_ hF.out), (p9_ hF.out), (p10_ hF.out), (p11_ hF.out), (p12_ hF.out), (p13_ hF.out), (p14_ hF.out), (p15_ hF.out), (p16_ hF.out), (p17_ hF.out), (p18_ hF.out), (p19_ hF.out), (p20_ hF.out), (p21_ hF.out), (fun _ => rfl), (fun _ => rfl), (p24_ hF.out), (p25_ hF.out), (p26_ hF.out), (p27_ hF.out), (p28_ hF.out), (p29_ hF.out), (p30_ hF.out), (p31_ hF.out), (p32_ hF.out), (p33_ hF.out), (p34_ hF.out), (p35_ hF.out), (p36_ hF.out), (p37_ hF.out), (p38_ hF.out), (fun h => absurd ((p39_ hF.out) h 22 (by decide)) (by simp [hd])), (fun h => absurd ((p39_ hF.out) h 22 (by decide)) (by simp [hd]))⟩
    refine StepsF.cons (o := _) rfl (ws := [22]) (by kernel_rfl) (by decide) (fun d s b w hF hd hw K hK => ?_) ?_
    · have hk : d 38 = false := by cases e : d 38 with | false => rfl | true => exact absurd ((p39_ hF.out) e 23 (by decide)) (by simp [hd])
      have hB : Below V1.heap.size V1 w := (p0_ hF.out) hk
      have e22 : s 80 = .int .i64 6 := (p23_ hF.out) (hw 22 (by decide))
      dsimp only
      go_simp
      exact hK.out (ups (ups s 80 (.int .i64 6)) 81 (.int .i64 8)) b _ ⟨(fun _ => hB), (p1_ hF.out), (p2_ hF.out), (p3_ hF.out), (p4_ hF.out), (p5_ hF.out), (p6_ hF.out), (p7_ hF.out), (p8_ hF.out), (p9_ hF.out), (p10_ hF.out), (p11_ hF.out), (p12_ hF.out), (p13_ hF.out), (p14_ hF.out), (p15_ hF.out), (p16_ hF.out), (p17_ hF.out), (p18_ hF.out), (p19_ hF.out), (p20_ hF.out), (p21_ hF.out), (p22_ hF.out), (fun _ => rfl), (fun _ => rfl), (p25_ hF.out), (p26_ hF.out), (p27_ hF.out), (p28_ hF.out), (p29_ hF.out), (p30_ hF.out), (p31_ hF.out), (p32_ hF.out), (p33_ hF.out), (p34_ hF.out), (p35_ hF.out), (p36_ hF.out), (p37_ hF.out), (p38_ hF.out), (fun h => absurd ((p39_ hF.out) h 23 (by decide)) (by simp [hd])), (fun h => absurd ((p39_ hF.out) h 23 (by decide)) (by simp [hd]))⟩
    refine StepsF.cons (o := _) rfl (ws := [23]) (by kernel_rfl) (by decide) (fun d s b w hF hd hw K hK => ?_) ?_
    · have hk : d 38 = false := by cases e : d 38 with | false => rfl | true => exact absurd ((p39_ hF.out) e 24 (by decide)) (by simp [hd])
      have hB : Below V1.heap.size V1 w := (p0_ hF.out) hk
      have e23 : s 81 = .int .i64 8 := (p24_ hF.out) (hw 23 (by decide))
      dsimp only
      go_simp
      exact hK.out (ups (ups s 81 (.int .i64 8)) 82 (.pointer (some ⟨A, 8, none⟩))) b _ ⟨(fun _ => hB), (p1_ hF.out), (p2_ hF.out), (p3_ hF.out), (p4_ hF.out), (p5_ hF.out), (p6_ hF.out), (p7_ hF.out), (p8_ hF.out), (p9_ hF.out), (p10_ hF.out), (p11_ hF.out), (p12_ hF.out), (p13_ hF.out), (p14_ hF.out), (p15_ hF.out), (p16_ hF.out), (p17_ hF.out), (p18_ hF.out), (p19_ hF.out), (p20_ hF.out), (p21_ hF.out), (p22_ hF.out), (p23_ hF.out), (fun _ => rfl), (fun _ => rfl), (p26_ hF.out), (p27_ hF.out), (p28_ hF.out), (p29_ hF.out), (p30_ hF.out), (p31_ hF.out), (p32_ hF.out), (p33_ hF.out), (p34_ hF.out), (p35_ hF.out), (p36_ hF.out), (p37_ hF.out), (p38_ hF.out), (fun h => absurd ((p39_ hF.out) h 24 (by decide)) (by simp [hd])), (fun h => absurd ((p39_ hF.out) h 24 (by decide)) (by simp [hd]))⟩
    refine StepsF.cons (o := _) rfl (ws := [24]) (by kernel_rfl) (by decide) (fun d s b w hF hd hw K hK => ?_) ?_
    · have hk : d 38 = false := by cases e : d 38 with | false => rfl | true => exact absurd ((p39_ hF.out) e 25 (by decide)) (by simp [hd])
      have hB : Below V1.heap.size V1 w := (p0_ hF.out) hk
      have e24 : s 82 = .pointer (some ⟨A, 8, none⟩) := (p25_ hF.out) (hw 24 (by decide))
      dsimp only
      have oxa := HA.out.later hB
      have xa6 := oxa.at 6 _ rfl
      have xa7 := oxa.at 7 _ rfl
      have xa8 := oxa.at 8 _ rfl
      clear oxa
      have oxq := HQ.out.later hB
      have xq0 := oxq.at 0 _ rfl
      have xq1 := oxq.at 1 _ rfl
      have xq2 := oxq.at 2 _ rfl
      clear oxq
      have oxb := HB.out.later hB
      have xb2 := oxb.at 2 _ rfl
      clear oxb
      go_simp
      exact hK.out (ups (ups s 82 (.pointer (some ⟨A, 8, none⟩))) 83 (.int .i8 m8)) b _ ⟨(fun _ => hB), (p1_ hF.out), (p2_ hF.out), (p3_ hF.out), (p4_ hF.out), (p5_ hF.out), (p6_ hF.out), (p7_ hF.out), (p8_ hF.out), (p9_ hF.out), (p10_ hF.out), (p11_ hF.out), (p12_ hF.out), (p13_ hF.out), (p14_ hF.out), (p15_ hF.out), (p16_ hF.out), (p17_ hF.out), (p18_ hF.out), (p19_ hF.out), (p20_ hF.out), (p21_ hF.out), (p22_ hF.out), (p23_ hF.out), (p24_ hF.out), (fun _ => rfl), (fun _ => rfl), (p27_ hF.out), (p28_ hF.out), (p29_ hF.out), (p30_ hF.out), (p31_ hF.out), (p32_ hF.out), (p33_ hF.out), (p34_ hF.out), (p35_ hF.out), (p36_ hF.out), (p37_ hF.out), (p38_ hF.out), (fun h => absurd ((p39_ hF.out) h 25 (by decide)) (by simp [hd])), (fun h => absurd ((p39_ hF.out) h 25 (by decide)) (by simp [hd]))⟩
    refine StepsF.cons (o := _) rfl (ws := [25]) (by kernel_rfl) (by decide) (fun d s b w hF hd hw K hK => ?_) ?_
    · have hk : d 38 = false := by cases e : d 38 with | false => rfl | true => exact absurd ((p39_ hF.out) e 26 (by decide)) (by simp [hd])
      have hB : Below V1.heap.size V1 w := (p0_ hF.out) hk
      have e25 : s 83 = .int .i8 m8 := (p26_ hF.out) (hw 25 (by decide))
      dsimp only
      have cv := cm8.out
      go_simp
      first | rw [cv] | rw [IntWalk.i64_left, cv] | simp only [IntWalk.i64_left, cv] | (trace_state; fail)
      exact hK.out (ups (ups s 83 (.int .i8 m8)) 84 (.int .i64 m8)) b _ ⟨(fun _ => hB), (p1_ hF.out), (p2_ hF.out), (p3_ hF.out), (p4_ hF.out), (p5_ hF.out), (p6_ hF.out), (p7_ hF.out), (p8_ hF.out), (p9_ hF.out), (p10_ hF.out), (p11_ hF.out), (p12_ hF.out), (p13_ hF.out), (p14_ hF.out), (p15_ hF.out), (p16_ hF.out), (p17_ hF.out), (p18_ hF.out), (p19_ hF.out), (p20_ hF.out), (p21_ hF.out), (p22_ hF.out), (p23_ hF.out), (p24_ hF.out), (p25_ hF.out), (fun _ => rfl), (fun _ => rfl), (p28_ hF.out), (p29_ hF.out), (p30_ hF.out), (p31_ hF.out), (p32_ hF.out), (p33_ hF.out), (p34_ hF.out), (p35_ hF.out), (p36_ hF.out), (p37_ hF.out), (p38_ hF.out), (fun h => absurd ((p39_ hF.out) h 26 (by decide)) (by simp [hd])), (fun h => absurd ((p39_ hF.out) h 26 (by decide)) (by simp [hd]))⟩
    refine StepsF.cons (o := _) rfl (ws := []) (by kernel_rfl) (by decide) (fun d s b w hF hd hw K hK => ?_) ?_
    · have hk : d 38 = false := by cases e : d 38 with | false => rfl | true => exact absurd ((p39_ hF.out) e 27 (by decide)) (by simp [hd])
      have hB : Below V1.heap.size V1 w := (p0_ hF.out) hk
      dsimp only
      go_simp
      exact hK.out (ups s 85 (.pointer (some ⟨Q, 2, none⟩))) b _ ⟨(fun _ => hB), (p1_ hF.out), (p2_ hF.out), (p3_ hF.out), (p4_ hF.out), (p5_ hF.out), (p6_ hF.out), (p7_ hF.out), (p8_ hF.out), (p9_ hF.out), (p10_ hF.out), (p11_ hF.out), (p12_ hF.out), (p13_ hF.out), (p14_ hF.out), (p15_ hF.out), (p16_ hF.out), (p17_ hF.out), (p18_ hF.out), (p19_ hF.out), (p20_ hF.out), (p21_ hF.out), (p22_ hF.out), (p23_ hF.out), (p24_ hF.out), (p25_ hF.out), (p26_ hF.out), (p27_ hF.out), (fun _ => rfl), (p29_ hF.out), (p30_ hF.out), (p31_ hF.out), (p32_ hF.out), (p33_ hF.out), (p34_ hF.out), (p35_ hF.out), (p36_ hF.out), (p37_ hF.out), (p38_ hF.out), (fun h => absurd ((p39_ hF.out) h 27 (by decide)) (by simp [hd])), (fun h => absurd ((p39_ hF.out) h 27 (by decide)) (by simp [hd]))⟩
    refine StepsF.cons (o := _) rfl (ws := [27]) (by kernel_rfl) (by decide) (fun d s b w hF hd hw K hK => ?_) ?_
    · have hk : d 38 = false := by cases e : d 38 with | false => rfl | true => exact absurd ((p39_ hF.out) e 28 (by decide)) (by simp [hd])
      have hB : Below V1.heap.size V1 w := (p0_ hF.out) hk
      have e27 : s 85 = .pointer (some ⟨Q, 2, none⟩) := (p28_ hF.out) (hw 27 (by decide))
      dsimp only
      have oxa := HA.out.later hB
      have xa6 := oxa.at 6 _ rfl
      have xa7 := oxa.at 7 _ rfl
      have xa8 := oxa.at 8 _ rfl
      clear oxa
      have oxq := HQ.out.later hB
      have xq0 := oxq.at 0 _ rfl
      have xq1 := oxq.at 1 _ rfl
      have xq2 := oxq.at 2 _ rfl
      clear oxq
      have oxb := HB.out.later hB
      have xb2 := oxb.at 2 _ rfl
      clear oxb
      go_simp
      exact hK.out (ups (ups s 85 (.pointer (some ⟨Q, 2, none⟩))) 86 (.int .i8 q2)) b _ ⟨(fun _ => hB), (p1_ hF.out), (p2_ hF.out), (p3_ hF.out), (p4_ hF.out), (p5_ hF.out), (p6_ hF.out), (p7_ hF.out), (p8_ hF.out), (p9_ hF.out), (p10_ hF.out), (p11_ hF.out), (p12_ hF.out), (p13_ hF.out), (p14_ hF.out), (p15_ hF.out), (p16_ hF.out), (p17_ hF.out), (p18_ hF.out), (p19_ hF.out), (p20_ hF.out), (p21_ hF.out), (p22_ hF.out), (p23_ hF.out), (p24_ hF.out), (p25_ hF.out), (p26_ hF.out), (p27_ hF.out), (fun _ => rfl), (fun _ => rfl), (p30_ hF.out), (p31_ hF.out), (p32_ hF.out), (p33_ hF.out), (p34_ hF.out), (p35_ hF.out), (p36_ hF.out), (p37_ hF.out), (p38_ hF.out), (fun h => absurd ((p39_ hF.out) h 28 (by decide)) (by simp [hd])), (fun h => absurd ((p39_ hF.out) h 28 (by decide)) (by simp [hd]))⟩
    refine StepsF.cons (o := _) rfl (ws := [28]) (by kernel_rfl) (by decide) (fun d s b w hF hd hw K hK => ?_) ?_
    · have hk : d 38 = false := by cases e : d 38 with | false => rfl | true => exact absurd ((p39_ hF.out) e 29 (by decide)) (by simp [hd])
      have hB : Below V1.heap.size V1 w := (p0_ hF.out) hk
      have e28 : s 86 = .int .i8 q2 := (p29_ hF.out) (hw 28 (by decide))
      dsimp only
      have cv := cq2.out
      go_simp
      first | rw [cv] | rw [IntWalk.i64_left, cv] | simp only [IntWalk.i64_left, cv] | (trace_state; fail)
      exact hK.out (ups (ups s 86 (.int .i8 q2)) 87 (.int .i64 q2)) b _ ⟨(fun _ => hB), (p1_ hF.out), (p2_ hF.out), (p3_ hF.out), (p4_ hF.out), (p5_ hF.out), (p6_ hF.out), (p7_ hF.out), (p8_ hF.out), (p9_ hF.out), (p10_ hF.out), (p11_ hF.out), (p12_ hF.out), (p13_ hF.out), (p14_ hF.out), (p15_ hF.out), (p16_ hF.out), (p17_ hF.out), (p18_ hF.out), (p19_ hF.out), (p20_ hF.out), (p21_ hF.out), (p22_ hF.out), (p23_ hF.out), (p24_ hF.out), (p25_ hF.out), (p26_ hF.out), (p27_ hF.out), (p28_ hF.out), (fun _ => rfl), (fun _ => rfl), (p31_ hF.out), (p32_ hF.out), (p33_ hF.out), (p34_ hF.out), (p35_ hF.out), (p36_ hF.out), (p37_ hF.out), (p38_ hF.out), (fun h => absurd ((p39_ hF.out) h 29 (by decide)) (by simp [hd])), (fun h => absurd ((p39_ hF.out) h 29 (by decide)) (by simp [hd]))⟩
    refine StepsF.cons (o := _) rfl (ws := [26, 29]) (by kernel_rfl) (by decide) (fun d s b w hF hd hw K hK => ?_) ?_
    · have hk : d 38 = false := by cases e : d 38 with | false => rfl | true => exact absurd ((p39_ hF.out) e 30 (by decide)) (by simp [hd])
      have hB : Below V1.heap.size V1 w := (p0_ hF.out) hk
      have e26 : s 84 = .int .i64 m8 := (p27_ hF.out) (hw 26 (by decide))
      have e29 : s 87 = .int .i64 q2 := (p30_ hF.out) (hw 29 (by decide))
      dsimp only
      have cv := hp8.out
      go_simp
      first | rw [cv] | rw [IntWalk.i64_left, cv] | simp only [IntWalk.i64_left, cv] | (trace_state; fail)
      exact hK.out (ups (ups (ups s 84 (.int .i64 m8)) 87 (.int .i64 q2)) 88 (.int .i64 p8)) b _ ⟨(fun _ => hB), (p1_ hF.out), (p2_ hF.out), (p3_ hF.out), (p4_ hF.out), (p5_ hF.out), (p6_ hF.out), (p7_ hF.out), (p8_ hF.out), (p9_ hF.out), (p10_ hF.out), (p11_ hF.out), (p12_ hF.out), (p13_ hF.out), (p14_ hF.out), (p15_ hF.out), (p16_ hF.out), (p17_ hF.out), (p18_ hF.out), (p19_ hF.out), (p20_ hF.out), (p21_ hF.out), (p22_ hF.out), (p23_ hF.out), (p24_ hF.out), (p25_ hF.out), (p26_ hF.out), (fun _ => rfl), (p28_ hF.out), (p29_ hF.out), (fun _ => rfl), (fun _ => rfl), (p32_ hF.out), (p33_ hF.out), (p34_ hF.out), (p35_ hF.out), (p36_ hF.out), (p37_ hF.out), (p38_ hF.out), (fun h => absurd ((p39_ hF.out) h 30 (by decide)) (by simp [hd])), (fun h => absurd ((p39_ hF.out) h 30 (by decide)) (by simp [hd]))⟩
    refine StepsF.cons (o := _) rfl (ws := [20, 30]) (by kernel_rfl) (by decide) (fun d s b w hF hd hw K hK => ?_) ?_
    · have hk : d 38 = false := by cases e : d 38 with | false => rfl | true => exact absurd ((p39_ hF.out) e 31 (by decide)) (by simp [hd])
      have hB : Below V1.heap.size V1 w := (p0_ hF.out) hk
      have e20 : s 78 = .int .i64 s2 := (p21_ hF.out) (hw 20 (by decide))
      have e30 : s 88 = .int .i64 p8 := (p31_ hF.out) (hw 30 (by decide))
      dsimp only
      have cv := hu2.out
      go_simp
      first | rw [cv] | rw [IntWalk.i64_left, cv] | simp only [IntWalk.i64_left, cv] | (trace_state; fail)
      exact hK.out (ups (ups (ups s 78 (.int .i64 s2)) 88 (.int .i64 p8)) 89 (.int .i64 v2)) b _ ⟨(fun _ => hB), (p1_ hF.out), (p2_ hF.out), (p3_ hF.out), (p4_ hF.out), (p5_ hF.out), (p6_ hF.out), (p7_ hF.out), (p8_ hF.out), (p9_ hF.out), (p10_ hF.out), (p11_ hF.out), (p12_ hF.out), (p13_ hF.out), (p14_ hF.out), (p15_ hF.out), (p16_ hF.out), (p17_ hF.out), (p18_ hF.out), (p19_ hF.out), (p20_ hF.out), (fun _ => rfl), (p22_ hF.out), (p23_ hF.out), (p24_ hF.out), (p25_ hF.out), (p26_ hF.out), (p27_ hF.out), (p28_ hF.out), (p29_ hF.out), (p30_ hF.out), (fun _ => rfl), (fun _ => rfl), (p33_ hF.out), (p34_ hF.out), (p35_ hF.out), (p36_ hF.out), (p37_ hF.out), (p38_ hF.out), (fun h => absurd ((p39_ hF.out) h 31 (by decide)) (by simp [hd])), (fun h => absurd ((p39_ hF.out) h 31 (by decide)) (by simp [hd]))⟩
    refine StepsF.cons (o := _) rfl (ws := []) (by kernel_rfl) (by decide) (fun d s b w hF hd hw K hK => ?_) ?_
    · have hk : d 38 = false := by cases e : d 38 with | false => rfl | true => exact absurd ((p39_ hF.out) e 32 (by decide)) (by simp [hd])
      have hB : Below V1.heap.size V1 w := (p0_ hF.out) hk
      dsimp only
      go_simp
      exact hK.out (ups s 90 (.int .i64 2)) b _ ⟨(fun _ => hB), (p1_ hF.out), (p2_ hF.out), (p3_ hF.out), (p4_ hF.out), (p5_ hF.out), (p6_ hF.out), (p7_ hF.out), (p8_ hF.out), (p9_ hF.out), (p10_ hF.out), (p11_ hF.out), (p12_ hF.out), (p13_ hF.out), (p14_ hF.out), (p15_ hF.out), (p16_ hF.out), (p17_ hF.out), (p18_ hF.out), (p19_ hF.out), (p20_ hF.out), (p21_ hF.out), (p22_ hF.out), (p23_ hF.out), (p24_ hF.out), (p25_ hF.out), (p26_ hF.out), (p27_ hF.out), (p28_ hF.out), (p29_ hF.out), (p30_ hF.out), (p31_ hF.out), (p32_ hF.out), (fun _ => rfl), (p34_ hF.out), (p35_ hF.out), (p36_ hF.out), (p37_ hF.out), (p38_ hF.out), (fun h => absurd ((p39_ hF.out) h 32 (by decide)) (by simp [hd])), (fun h => absurd ((p39_ hF.out) h 32 (by decide)) (by simp [hd]))⟩
    refine StepsF.cons (o := _) rfl (ws := [32]) (by kernel_rfl) (by decide) (fun d s b w hF hd hw K hK => ?_) ?_
    · have hk : d 38 = false := by cases e : d 38 with | false => rfl | true => exact absurd ((p39_ hF.out) e 33 (by decide)) (by simp [hd])
      have hB : Below V1.heap.size V1 w := (p0_ hF.out) hk
      have e32 : s 90 = .int .i64 2 := (p33_ hF.out) (hw 32 (by decide))
      dsimp only
      go_simp
      exact hK.out (ups (ups s 90 (.int .i64 2)) 91 (.pointer (some ⟨B, 2, none⟩))) b _ ⟨(fun _ => hB), (p1_ hF.out), (p2_ hF.out), (p3_ hF.out), (p4_ hF.out), (p5_ hF.out), (p6_ hF.out), (p7_ hF.out), (p8_ hF.out), (p9_ hF.out), (p10_ hF.out), (p11_ hF.out), (p12_ hF.out), (p13_ hF.out), (p14_ hF.out), (p15_ hF.out), (p16_ hF.out), (p17_ hF.out), (p18_ hF.out), (p19_ hF.out), (p20_ hF.out), (p21_ hF.out), (p22_ hF.out), (p23_ hF.out), (p24_ hF.out), (p25_ hF.out), (p26_ hF.out), (p27_ hF.out), (p28_ hF.out), (p29_ hF.out), (p30_ hF.out), (p31_ hF.out), (p32_ hF.out), (fun _ => rfl), (fun _ => rfl), (p35_ hF.out), (p36_ hF.out), (p37_ hF.out), (p38_ hF.out), (fun h => absurd ((p39_ hF.out) h 33 (by decide)) (by simp [hd])), (fun h => absurd ((p39_ hF.out) h 33 (by decide)) (by simp [hd]))⟩
    refine StepsF.cons (o := _) rfl (ws := [33]) (by kernel_rfl) (by decide) (fun d s b w hF hd hw K hK => ?_) ?_
    · have hk : d 38 = false := by cases e : d 38 with | false => rfl | true => exact absurd ((p39_ hF.out) e 34 (by decide)) (by simp [hd])
      have hB : Below V1.heap.size V1 w := (p0_ hF.out) hk
      have e33 : s 91 = .pointer (some ⟨B, 2, none⟩) := (p34_ hF.out) (hw 33 (by decide))
      dsimp only
      have oxa := HA.out.later hB
      have xa6 := oxa.at 6 _ rfl
      have xa7 := oxa.at 7 _ rfl
      have xa8 := oxa.at 8 _ rfl
      clear oxa
      have oxq := HQ.out.later hB
      have xq0 := oxq.at 0 _ rfl
      have xq1 := oxq.at 1 _ rfl
      have xq2 := oxq.at 2 _ rfl
      clear oxq
      have oxb := HB.out.later hB
      have xb2 := oxb.at 2 _ rfl
      clear oxb
      go_simp
      exact hK.out (ups (ups s 91 (.pointer (some ⟨B, 2, none⟩))) 92 (.int .i16 t2)) b _ ⟨(fun _ => hB), (p1_ hF.out), (p2_ hF.out), (p3_ hF.out), (p4_ hF.out), (p5_ hF.out), (p6_ hF.out), (p7_ hF.out), (p8_ hF.out), (p9_ hF.out), (p10_ hF.out), (p11_ hF.out), (p12_ hF.out), (p13_ hF.out), (p14_ hF.out), (p15_ hF.out), (p16_ hF.out), (p17_ hF.out), (p18_ hF.out), (p19_ hF.out), (p20_ hF.out), (p21_ hF.out), (p22_ hF.out), (p23_ hF.out), (p24_ hF.out), (p25_ hF.out), (p26_ hF.out), (p27_ hF.out), (p28_ hF.out), (p29_ hF.out), (p30_ hF.out), (p31_ hF.out), (p32_ hF.out), (p33_ hF.out), (fun _ => rfl), (fun _ => rfl), (p36_ hF.out), (p37_ hF.out), (p38_ hF.out), (fun h => absurd ((p39_ hF.out) h 34 (by decide)) (by simp [hd])), (fun h => absurd ((p39_ hF.out) h 34 (by decide)) (by simp [hd]))⟩
    refine StepsF.cons (o := _) rfl (ws := [34]) (by kernel_rfl) (by decide) (fun d s b w hF hd hw K hK => ?_) ?_
    · have hk : d 38 = false := by cases e : d 38 with | false => rfl | true => exact absurd ((p39_ hF.out) e 35 (by decide)) (by simp [hd])
      have hB : Below V1.heap.size V1 w := (p0_ hF.out) hk
      have e34 : s 92 = .int .i16 t2 := (p35_ hF.out) (hw 34 (by decide))
      dsimp only
      have cv := ct2.out
      go_simp
      first | rw [cv] | rw [IntWalk.i64_left, cv] | simp only [IntWalk.i64_left, cv] | (trace_state; fail)
      exact hK.out (ups (ups s 92 (.int .i16 t2)) 93 (.int .i64 t2)) b _ ⟨(fun _ => hB), (p1_ hF.out), (p2_ hF.out), (p3_ hF.out), (p4_ hF.out), (p5_ hF.out), (p6_ hF.out), (p7_ hF.out), (p8_ hF.out), (p9_ hF.out), (p10_ hF.out), (p11_ hF.out), (p12_ hF.out), (p13_ hF.out), (p14_ hF.out), (p15_ hF.out), (p16_ hF.out), (p17_ hF.out), (p18_ hF.out), (p19_ hF.out), (p20_ hF.out), (p21_ hF.out), (p22_ hF.out), (p23_ hF.out), (p24_ hF.out), (p25_ hF.out), (p26_ hF.out), (p27_ hF.out), (p28_ hF.out), (p29_ hF.out), (p30_ hF.out), (p31_ hF.out), (p32_ hF.out), (p33_ hF.out), (p34_ hF.out), (fun _ => rfl), (fun _ => rfl), (p37_ hF.out), (p38_ hF.out), (fun h => absurd ((p39_ hF.out) h 35 (by decide)) (by simp [hd])), (fun h => absurd ((p39_ hF.out) h 35 (by decide)) (by simp [hd]))⟩
    refine StepsF.cons (o := _) rfl (ws := [31, 35]) (by kernel_rfl) (by decide) (fun d s b w hF hd hw K hK => ?_) ?_
    · have hk : d 38 = false := by cases e : d 38 with | false => rfl | true => exact absurd ((p39_ hF.out) e 36 (by decide)) (by simp [hd])
      have hB : Below V1.heap.size V1 w := (p0_ hF.out) hk
      have e31 : s 89 = .int .i64 v2 := (p32_ hF.out) (hw 31 (by decide))
      have e35 : s 93 = .int .i64 t2 := (p36_ hF.out) (hw 35 (by decide))
      dsimp only
      have cv := hw2.out
      go_simp
      first | rw [cv] | rw [IntWalk.i64_left, cv] | simp only [IntWalk.i64_left, cv] | (trace_state; fail)
      exact hK.out (ups (ups (ups s 89 (.int .i64 v2)) 93 (.int .i64 t2)) 94 (.int .i64 W2_)) b _ ⟨(fun _ => hB), (p1_ hF.out), (p2_ hF.out), (p3_ hF.out), (p4_ hF.out), (p5_ hF.out), (p6_ hF.out), (p7_ hF.out), (p8_ hF.out), (p9_ hF.out), (p10_ hF.out), (p11_ hF.out), (p12_ hF.out), (p13_ hF.out), (p14_ hF.out), (p15_ hF.out), (p16_ hF.out), (p17_ hF.out), (p18_ hF.out), (p19_ hF.out), (p20_ hF.out), (p21_ hF.out), (p22_ hF.out), (p23_ hF.out), (p24_ hF.out), (p25_ hF.out), (p26_ hF.out), (p27_ hF.out), (p28_ hF.out), (p29_ hF.out), (p30_ hF.out), (p31_ hF.out), (fun _ => rfl), (p33_ hF.out), (p34_ hF.out), (p35_ hF.out), (fun _ => rfl), (fun _ => rfl), (p38_ hF.out), (fun h => absurd ((p39_ hF.out) h 36 (by decide)) (by simp [hd])), (fun h => absurd ((p39_ hF.out) h 36 (by decide)) (by simp [hd]))⟩
    refine StepsF.cons (o := _) rfl (ws := [0, 0, 1, 2, 3, 4, 5, 6, 7, 8, 9, 10, 11, 12, 13, 14, 15, 16, 17, 18, 19, 20, 21, 22, 23, 24, 25, 26, 27, 28, 29, 30, 31, 32, 33, 34, 35, 36]) (by kernel_rfl) (by decide) (fun d s b w hF hd hw K hK => ?_) ?_
    · have hk : d 38 = false := by cases e : d 38 with | false => rfl | true => exact absurd ((p39_ hF.out) e 37 (by decide)) (by simp [hd])
      have hB : Below V1.heap.size V1 w := (p0_ hF.out) hk
      have e0 : s 58 = .int .i64 2 := (p1_ hF.out) (hw 0 (by decide))
      have e1 : s 59 = .int .i64 2 := (p2_ hF.out) (hw 1 (by decide))
      have e2 : s 60 = .int .i64 6 := (p3_ hF.out) (hw 2 (by decide))
      have e3 : s 61 = .pointer (some ⟨A, 6, none⟩) := (p4_ hF.out) (hw 3 (by decide))
      have e4 : s 62 = .int .i8 m6 := (p5_ hF.out) (hw 4 (by decide))
      have e5 : s 63 = .int .i64 m6 := (p6_ hF.out) (hw 5 (by decide))
      have e6 : s 64 = .pointer (some ⟨Q, 0, none⟩) := (p7_ hF.out) (hw 6 (by decide))
      have e7 : s 65 = .int .i8 q0 := (p8_ hF.out) (hw 7 (by decide))
      have e8 : s 66 = .int .i64 q0 := (p9_ hF.out) (hw 8 (by decide))
      have e9 : s 67 = .int .i64 p6 := (p10_ hF.out) (hw 9 (by decide))
      have e10 : s 68 = .int .i64 2 := (p11_ hF.out) (hw 10 (by decide))
      have e11 : s 69 = .int .i64 6 := (p12_ hF.out) (hw 11 (by decide))
      have e12 : s 70 = .int .i64 7 := (p13_ hF.out) (hw 12 (by decide))
      have e13 : s 71 = .pointer (some ⟨A, 7, none⟩) := (p14_ hF.out) (hw 13 (by decide))
      have e14 : s 72 = .int .i8 m7 := (p15_ hF.out) (hw 14 (by decide))
      have e15 : s 73 = .int .i64 m7 := (p16_ hF.out) (hw 15 (by decide))
      have e16 : s 74 = .pointer (some ⟨Q, 1, none⟩) := (p17_ hF.out) (hw 16 (by decide))
      have e17 : s 75 = .int .i8 q1 := (p18_ hF.out) (hw 17 (by decide))
      have e18 : s 76 = .int .i64 q1 := (p19_ hF.out) (hw 18 (by decide))
      have e19 : s 77 = .int .i64 p7 := (p20_ hF.out) (hw 19 (by decide))
      have e20 : s 78 = .int .i64 s2 := (p21_ hF.out) (hw 20 (by decide))
      have e21 : s 79 = .int .i64 2 := (p22_ hF.out) (hw 21 (by decide))
      have e22 : s 80 = .int .i64 6 := (p23_ hF.out) (hw 22 (by decide))
      have e23 : s 81 = .int .i64 8 := (p24_ hF.out) (hw 23 (by decide))
      have e24 : s 82 = .pointer (some ⟨A, 8, none⟩) := (p25_ hF.out) (hw 24 (by decide))
      have e25 : s 83 = .int .i8 m8 := (p26_ hF.out) (hw 25 (by decide))
      have e26 : s 84 = .int .i64 m8 := (p27_ hF.out) (hw 26 (by decide))
      have e27 : s 85 = .pointer (some ⟨Q, 2, none⟩) := (p28_ hF.out) (hw 27 (by decide))
      have e28 : s 86 = .int .i8 q2 := (p29_ hF.out) (hw 28 (by decide))
      have e29 : s 87 = .int .i64 q2 := (p30_ hF.out) (hw 29 (by decide))
      have e30 : s 88 = .int .i64 p8 := (p31_ hF.out) (hw 30 (by decide))
      have e31 : s 89 = .int .i64 v2 := (p32_ hF.out) (hw 31 (by decide))
      have e32 : s 90 = .int .i64 2 := (p33_ hF.out) (hw 32 (by decide))
      have e33 : s 91 = .pointer (some ⟨B, 2, none⟩) := (p34_ hF.out) (hw 33 (by decide))
      have e34 : s 92 = .int .i16 t2 := (p35_ hF.out) (hw 34 (by decide))
      have e35 : s 93 = .int .i64 t2 := (p36_ hF.out) (hw 35 (by decide))
      have e36 : s 94 = .int .i64 W2_ := (p37_ hF.out) (hw 36 (by decide))
      dsimp only
      go_simp
      exact hK.out (ups (ups (ups (ups (ups (ups (ups (ups (ups (ups (ups (ups (ups (ups (ups (ups (ups (ups (ups (ups (ups (ups (ups (ups (ups (ups (ups (ups (ups (ups (ups (ups (ups (ups (ups (ups (ups (ups s 58 (.int .i64 2)) 59 (.int .i64 2)) 60 (.int .i64 6)) 61 (.pointer (some ⟨A, 6, none⟩))) 62 (.int .i8 m6)) 63 (.int .i64 m6)) 64 (.pointer (some ⟨Q, 0, none⟩))) 65 (.int .i8 q0)) 66 (.int .i64 q0)) 67 (.int .i64 p6)) 68 (.int .i64 2)) 69 (.int .i64 6)) 70 (.int .i64 7)) 71 (.pointer (some ⟨A, 7, none⟩))) 72 (.int .i8 m7)) 73 (.int .i64 m7)) 74 (.pointer (some ⟨Q, 1, none⟩))) 75 (.int .i8 q1)) 76 (.int .i64 q1)) 77 (.int .i64 p7)) 78 (.int .i64 s2)) 79 (.int .i64 2)) 80 (.int .i64 6)) 81 (.int .i64 8)) 82 (.pointer (some ⟨A, 8, none⟩))) 83 (.int .i8 m8)) 84 (.int .i64 m8)) 85 (.pointer (some ⟨Q, 2, none⟩))) 86 (.int .i8 q2)) 87 (.int .i64 q2)) 88 (.int .i64 p8)) 89 (.int .i64 v2)) 90 (.int .i64 2)) 91 (.pointer (some ⟨B, 2, none⟩))) 92 (.int .i16 t2)) 93 (.int .i64 t2)) 94 (.int .i64 W2_)) 95 (.pointer (some ⟨E, 2, none⟩))) b _ ⟨(fun _ => hB), (fun _ => rfl), (fun _ => rfl), (fun _ => rfl), (fun _ => rfl), (fun _ => rfl), (fun _ => rfl), (fun _ => rfl), (fun _ => rfl), (fun _ => rfl), (fun _ => rfl), (fun _ => rfl), (fun _ => rfl), (fun _ => rfl), (fun _ => rfl), (fun _ => rfl), (fun _ => rfl), (fun _ => rfl), (fun _ => rfl), (fun _ => rfl), (fun _ => rfl), (fun _ => rfl), (fun _ => rfl), (fun _ => rfl), (fun _ => rfl), (fun _ => rfl), (fun _ => rfl), (fun _ => rfl), (fun _ => rfl), (fun _ => rfl), (fun _ => rfl), (fun _ => rfl), (fun _ => rfl), (fun _ => rfl), (fun _ => rfl), (fun _ => rfl), (fun _ => rfl), (fun _ => rfl), (fun _ => rfl), (fun h => absurd ((p39_ hF.out) h 37 (by decide)) (by simp [hd])), (fun h => absurd ((p39_ hF.out) h 37 (by decide)) (by simp [hd]))⟩
    refine StepsF.cons (o := _) rfl (ws := [37, 36, 0, 1, 2, 3, 4, 5, 6, 7, 8, 9, 10, 11, 12, 13, 14, 15, 16, 17, 18, 19, 20, 21, 22, 23, 24, 25, 26, 27, 28, 29, 30, 31, 32, 33, 34, 35, 36]) (by kernel_rfl) (by decide) (fun d s b w hF hd hw K hK => ?_) ?_
    · have hB : Below V1.heap.size V1 w := (p0_ hF.out) hd
      have e0 : s 58 = .int .i64 2 := (p1_ hF.out) (hw 0 (by decide))
      have e1 : s 59 = .int .i64 2 := (p2_ hF.out) (hw 1 (by decide))
      have e2 : s 60 = .int .i64 6 := (p3_ hF.out) (hw 2 (by decide))
      have e3 : s 61 = .pointer (some ⟨A, 6, none⟩) := (p4_ hF.out) (hw 3 (by decide))
      have e4 : s 62 = .int .i8 m6 := (p5_ hF.out) (hw 4 (by decide))
      have e5 : s 63 = .int .i64 m6 := (p6_ hF.out) (hw 5 (by decide))
      have e6 : s 64 = .pointer (some ⟨Q, 0, none⟩) := (p7_ hF.out) (hw 6 (by decide))
      have e7 : s 65 = .int .i8 q0 := (p8_ hF.out) (hw 7 (by decide))
      have e8 : s 66 = .int .i64 q0 := (p9_ hF.out) (hw 8 (by decide))
      have e9 : s 67 = .int .i64 p6 := (p10_ hF.out) (hw 9 (by decide))
      have e10 : s 68 = .int .i64 2 := (p11_ hF.out) (hw 10 (by decide))
      have e11 : s 69 = .int .i64 6 := (p12_ hF.out) (hw 11 (by decide))
      have e12 : s 70 = .int .i64 7 := (p13_ hF.out) (hw 12 (by decide))
      have e13 : s 71 = .pointer (some ⟨A, 7, none⟩) := (p14_ hF.out) (hw 13 (by decide))
      have e14 : s 72 = .int .i8 m7 := (p15_ hF.out) (hw 14 (by decide))
      have e15 : s 73 = .int .i64 m7 := (p16_ hF.out) (hw 15 (by decide))
      have e16 : s 74 = .pointer (some ⟨Q, 1, none⟩) := (p17_ hF.out) (hw 16 (by decide))
      have e17 : s 75 = .int .i8 q1 := (p18_ hF.out) (hw 17 (by decide))
      have e18 : s 76 = .int .i64 q1 := (p19_ hF.out) (hw 18 (by decide))
      have e19 : s 77 = .int .i64 p7 := (p20_ hF.out) (hw 19 (by decide))
      have e20 : s 78 = .int .i64 s2 := (p21_ hF.out) (hw 20 (by decide))
      have e21 : s 79 = .int .i64 2 := (p22_ hF.out) (hw 21 (by decide))
      have e22 : s 80 = .int .i64 6 := (p23_ hF.out) (hw 22 (by decide))
      have e23 : s 81 = .int .i64 8 := (p24_ hF.out) (hw 23 (by decide))
      have e24 : s 82 = .pointer (some ⟨A, 8, none⟩) := (p25_ hF.out) (hw 24 (by decide))
      have e25 : s 83 = .int .i8 m8 := (p26_ hF.out) (hw 25 (by decide))
      have e26 : s 84 = .int .i64 m8 := (p27_ hF.out) (hw 26 (by decide))
      have e27 : s 85 = .pointer (some ⟨Q, 2, none⟩) := (p28_ hF.out) (hw 27 (by decide))
      have e28 : s 86 = .int .i8 q2 := (p29_ hF.out) (hw 28 (by decide))
      have e29 : s 87 = .int .i64 q2 := (p30_ hF.out) (hw 29 (by decide))
      have e30 : s 88 = .int .i64 p8 := (p31_ hF.out) (hw 30 (by decide))
      have e31 : s 89 = .int .i64 v2 := (p32_ hF.out) (hw 31 (by decide))
      have e32 : s 90 = .int .i64 2 := (p33_ hF.out) (hw 32 (by decide))
      have e33 : s 91 = .pointer (some ⟨B, 2, none⟩) := (p34_ hF.out) (hw 33 (by decide))
      have e34 : s 92 = .int .i16 t2 := (p35_ hF.out) (hw 34 (by decide))
      have e35 : s 93 = .int .i64 t2 := (p36_ hF.out) (hw 35 (by decide))
      have e36 : s 94 = .int .i64 W2_ := (p37_ hF.out) (hw 36 (by decide))
      have e37 : s 95 = .pointer (some ⟨E, 2, none⟩) := (p38_ hF.out) (hw 37 (by decide))
      dsimp only
      have oX := HE.out.later hB
      have fr2 := oX.ok 2 (by simp)
      have ce2 := oX.at 2 _ rfl
      clear oX
      go_simp
      exact hK.out (ups (ups (ups (ups (ups (ups (ups (ups (ups (ups (ups (ups (ups (ups (ups (ups (ups (ups (ups (ups (ups (ups (ups (ups (ups (ups (ups (ups (ups (ups (ups (ups (ups (ups (ups (ups (ups (ups s 58 (.int .i64 2)) 59 (.int .i64 2)) 60 (.int .i64 6)) 61 (.pointer (some ⟨A, 6, none⟩))) 62 (.int .i8 m6)) 63 (.int .i64 m6)) 64 (.pointer (some ⟨Q, 0, none⟩))) 65 (.int .i8 q0)) 66 (.int .i64 q0)) 67 (.int .i64 p6)) 68 (.int .i64 2)) 69 (.int .i64 6)) 70 (.int .i64 7)) 71 (.pointer (some ⟨A, 7, none⟩))) 72 (.int .i8 m7)) 73 (.int .i64 m7)) 74 (.pointer (some ⟨Q, 1, none⟩))) 75 (.int .i8 q1)) 76 (.int .i64 q1)) 77 (.int .i64 p7)) 78 (.int .i64 s2)) 79 (.int .i64 2)) 80 (.int .i64 6)) 81 (.int .i64 8)) 82 (.pointer (some ⟨A, 8, none⟩))) 83 (.int .i8 m8)) 84 (.int .i64 m8)) 85 (.pointer (some ⟨Q, 2, none⟩))) 86 (.int .i8 q2)) 87 (.int .i64 q2)) 88 (.int .i64 p8)) 89 (.int .i64 v2)) 90 (.int .i64 2)) 91 (.pointer (some ⟨B, 2, none⟩))) 92 (.int .i16 t2)) 93 (.int .i64 t2)) 94 (.int .i64 W2_)) 95 (.pointer (some ⟨E, 2, none⟩))) b _ ⟨(fun h => nomatch h), (fun _ => rfl), (fun _ => rfl), (fun _ => rfl), (fun _ => rfl), (fun _ => rfl), (fun _ => rfl), (fun _ => rfl), (fun _ => rfl), (fun _ => rfl), (fun _ => rfl), (fun _ => rfl), (fun _ => rfl), (fun _ => rfl), (fun _ => rfl), (fun _ => rfl), (fun _ => rfl), (fun _ => rfl), (fun _ => rfl), (fun _ => rfl), (fun _ => rfl), (fun _ => rfl), (fun _ => rfl), (fun _ => rfl), (fun _ => rfl), (fun _ => rfl), (fun _ => rfl), (fun _ => rfl), (fun _ => rfl), (fun _ => rfl), (fun _ => rfl), (fun _ => rfl), (fun _ => rfl), (fun _ => rfl), (fun _ => rfl), (fun _ => rfl), (fun _ => rfl), (fun _ => rfl), (fun _ => rfl), (fun _ j hj => by have hj2 := hw j (by simp; omega); simp [upd, hj2]), (fun _ => ⟨w, hB, rfl⟩)⟩
    exact StepsF.nil
  intro d s b z2 hF hall
  replace hF := Lib.hid hF
  obtain ⟨z2, hB, rfl⟩ := (q40_ hF.out) (hall 38 (by decide))
  try dsimp only
  have e0 : s 58 = .int .i64 2 := (p1_ hF.out) (hall 0 (by decide))
  have e1 : s 59 = .int .i64 2 := (p2_ hF.out) (hall 1 (by decide))
  have e2 : s 60 = .int .i64 6 := (p3_ hF.out) (hall 2 (by decide))
  have e3 : s 61 = .pointer (some ⟨A, 6, none⟩) := (p4_ hF.out) (hall 3 (by decide))
  have e4 : s 62 = .int .i8 m6 := (p5_ hF.out) (hall 4 (by decide))
  have e5 : s 63 = .int .i64 m6 := (p6_ hF.out) (hall 5 (by decide))
  have e6 : s 64 = .pointer (some ⟨Q, 0, none⟩) := (p7_ hF.out) (hall 6 (by decide))
  have e7 : s 65 = .int .i8 q0 := (p8_ hF.out) (hall 7 (by decide))
  have e8 : s 66 = .int .i64 q0 := (p9_ hF.out) (hall 8 (by decide))
  have e9 : s 67 = .int .i64 p6 := (p10_ hF.out) (hall 9 (by decide))
  have e10 : s 68 = .int .i64 2 := (p11_ hF.out) (hall 10 (by decide))
  have e11 : s 69 = .int .i64 6 := (p12_ hF.out) (hall 11 (by decide))
  have e12 : s 70 = .int .i64 7 := (p13_ hF.out) (hall 12 (by decide))
  have e13 : s 71 = .pointer (some ⟨A, 7, none⟩) := (p14_ hF.out) (hall 13 (by decide))
  have e14 : s 72 = .int .i8 m7 := (p15_ hF.out) (hall 14 (by decide))
  have e15 : s 73 = .int .i64 m7 := (p16_ hF.out) (hall 15 (by decide))
  have e16 : s 74 = .pointer (some ⟨Q, 1, none⟩) := (p17_ hF.out) (hall 16 (by decide))
  have e17 : s 75 = .int .i8 q1 := (p18_ hF.out) (hall 17 (by decide))
  have e18 : s 76 = .int .i64 q1 := (p19_ hF.out) (hall 18 (by decide))
  have e19 : s 77 = .int .i64 p7 := (p20_ hF.out) (hall 19 (by decide))
  have e20 : s 78 = .int .i64 s2 := (p21_ hF.out) (hall 20 (by decide))
  have e21 : s 79 = .int .i64 2 := (p22_ hF.out) (hall 21 (by decide))
  have e22 : s 80 = .int .i64 6 := (p23_ hF.out) (hall 22 (by decide))
  have e23 : s 81 = .int .i64 8 := (p24_ hF.out) (hall 23 (by decide))
  have e24 : s 82 = .pointer (some ⟨A, 8, none⟩) := (p25_ hF.out) (hall 24 (by decide))
  have e25 : s 83 = .int .i8 m8 := (p26_ hF.out) (hall 25 (by decide))
  have e26 : s 84 = .int .i64 m8 := (p27_ hF.out) (hall 26 (by decide))
  have e27 : s 85 = .pointer (some ⟨Q, 2, none⟩) := (p28_ hF.out) (hall 27 (by decide))
  have e28 : s 86 = .int .i8 q2 := (p29_ hF.out) (hall 28 (by decide))
  have e29 : s 87 = .int .i64 q2 := (p30_ hF.out) (hall 29 (by decide))
  have e30 : s 88 = .int .i64 p8 := (p31_ hF.out) (hall 30 (by decide))
  have e31 : s 89 = .int .i64 v2 := (p32_ hF.out) (hall 31 (by decide))
  have e32 : s 90 = .int .i64 2 := (p33_ hF.out) (hall 32 (by decide))
  have e33 : s 91 = .pointer (some ⟨B, 2, none⟩) := (p34_ hF.out) (hall 33 (by decide))
  have e34 : s 92 = .int .i16 t2 := (p35_ hF.out) (hall 34 (by decide))
  have e35 : s 93 = .int .i64 t2 := (p36_ hF.out) (hall 35 (by decide))
  have e36 : s 94 = .int .i64 W2_ := (p37_ hF.out) (hall 36 (by decide))
  have e37 : s 95 = .pointer (some ⟨E, 2, none⟩) := (p38_ hF.out) (hall 37 (by decide))
  rw [e0, e1, e2, e3, e4, e5, e6, e7, e8, e9, e10, e11, e12, e13, e14, e15, e16, e17, e18, e19, e20, e21, e22, e23, e24, e25, e26, e27, e28, e29, e30, e31, e32, e33, e34, e35, e36, e37]
  clear hall hF e0 e1 e2 e3 e4 e5 e6 e7 e8 e9 e10 e11 e12 e13 e14 e15 e16 e17 e18 e19 e20 e21 e22 e23 e24 e25 e26 e27 e28 e29 e30 e31 e32 e33 e34 e35 e36 e37
  clear d s b
  have HEn : Hid (Own E [.int .i64 W0_, .int .i64 W1_, .int .i64 W2_] (z2.setCells E 2 [.int .i64 W2_])) := Lib.hid (show Own E (over _ 2 [.int .i64 W2_]) _ from Own.part (HE.out.later hB) (by simp))
  have HAn : Hid (Own A [.int .i8 m0, .int .i8 m1, .int .i8 m2, .int .i8 m3, .int .i8 m4, .int .i8 m5, .int .i8 m6, .int .i8 m7, .int .i8 m8] (z2.setCells E 2 [.int .i64 W2_])) := Lib.hid (Own.far (o := 2) (vs := [.int .i64 W2_]) (HA.out.later hB) nAE)
  have HBn : Hid (Own B [.int .i16 t0, .int .i16 t1, .int .i16 t2] (z2.setCells E 2 [.int .i64 W2_])) := Lib.hid (Own.far (o := 2) (vs := [.int .i64 W2_]) (HB.out.later hB) nBE)
  have HQn : Hid (Own Q [.int .i8 q0, .int .i8 q1, .int .i8 q2] (z2.setCells E 2 [.int .i64 W2_])) := Lib.hid (Own.far (o := 2) (vs := [.int .i64 W2_]) (HQ.out.later hB) nQE)
  have HNn : Hid (Own N [.int .i64 X, .int .i64 Y, .int .i64 Z] (z2.setCells E 2 [.int .i64 W2_])) := Lib.hid (Own.far (o := 2) (vs := [.int .i64 W2_]) (HN.out.later hB) nNE)
  have V2b : Below w.heap.size w (z2.setCells E 2 [.int .i64 W2_]) := Below.setCells (Below.go V1b hB) Ew [.int .i64 W2_] 2
  generalize (z2.setCells E 2 [.int .i64 W2_]) = V2 at *
  clear HE HA HB HQ HN hB
  have HE := HEn
  clear HEn
  have HA := HAn
  clear HAn
  have HB := HBn
  clear HBn
  have HQ := HQn
  clear HQn
  have HN := HNn
  clear HNn
  clear V1b
  have oE := HE.out
  have E0 := oE.at 0 _ rfl
  have E1 := oE.at 1 _ rfl
  have E2 := oE.at 2 _ rfl
  have El := oE.lt
  clear oE
  go_upto_region 15 with fail
  refine wp_norm (fun a' w' => V2 = w' ∧ ∃ (v u96_2 u97_2 u98_2 u99_2 u100_2 u101_2 u102_2 u103_2 u104_2 u105_2 u106_2 u107_2 u108_2 : Value), v = .bool (farB (farB (farB false W0_) W1_) W2_) ∧ a' = ⟨#[(.agg #[.int .i8 m0, .int .i8 m1, .int .i8 m2, .int .i8 m3, .int .i8 m4, .int .i8 m5, .int .i8 m6, .int .i8 m7, .int .i8 m8]), (.agg #[.int .i16 t0, .int .i16 t1, .int .i16 t2]), (.agg #[.int .i8 q0, .int .i8 q1, .int .i8 q2]), .pointer (some ⟨A, 0, none⟩), .pointer (some ⟨B, 0, none⟩), .pointer (some ⟨Q, 0, none⟩), .bool false, .pointer (some ⟨D, 0, none⟩), .int .i64 8, .int .i8 m8, .pointer (some ⟨N, 0, none⟩), .int .i64 c, .pointer (some ⟨E, 0, none⟩), v, .int .i64 2, (.agg #[.int .i8 m0, .int .i8 m1, .int .i8 m2, .int .i8 m3, .int .i8 m4, .int .i8 m5, .int .i8 m6, .int .i8 m7, .int .i8 m8]), .int .i64 9, .bool false, .int .i64 8, .int .i8 m8, .int .i64 8, .int .i8 m8, .int .i64 m8, .int .i64 M8, .pointer (some ⟨D, 0, none⟩), .pointer (some ⟨D, 8, none⟩), .int .i64 9, .pointer (some ⟨B, 0, none⟩), .int .i16 t0, .int .i64 t0, .pointer (some ⟨B, 1, none⟩), .int .i16 t1, .int .i64 t1, .pointer (some ⟨B, 2, none⟩), .int .i16 t2, .int .i64 t2, (.agg #[.int .i64 t0, .int .i64 t1, .int .i64 t2]), (.agg #[.int .i64 T0_, .int .i64 T1_, .int .i64 T2_]), .pointer (some ⟨D, 9, none⟩), .tuple #[(.agg #[.int .i64 X, .int .i64 Y, .int .i64 Z]), .int .i64 c], (.agg #[.int .i64 M0, .int .i64 M1, .int .i64 M2, .int .i64 M3, .int .i64 M4, .int .i64 M5, .int .i64 M6, .int .i64 M7, .int .i64 M8, .int .i64 T0_, .int .i64 T1_, .int .i64 T2_]), .pointer (some ⟨Q, 0, none⟩), .int .i8 q0, .int .i64 q0, .pointer (some ⟨Q, 1, none⟩), .int .i8 q1, .int .i64 q1, .pointer (some ⟨Q, 2, none⟩), .int .i8 q2, .int .i64 q2, (.agg #[.int .i64 q0, .int .i64 q1, .int .i64 q2]), .tuple #[(.agg #[.int .i64 X, .int .i64 Y, .int .i64 Z]), .int .i64 c], (.agg #[.int .i64 X, .int .i64 Y, .int .i64 Z]), .int .i64 c, (.agg #[.int .i64 0, .int .i64 0, .int .i64 0]), .int .i64 2, .bool true, .int .i64 2, .int .i64 2, .int .i64 2, .int .i64 6, .pointer (some ⟨A, 6, none⟩), .int .i8 m6, .int .i64 m6, .pointer (some ⟨Q, 0, none⟩), .int .i8 q0, .int .i64 q0, .int .i64 p6, .int .i64 2, .int .i64 6, .int .i64 7, .pointer (some ⟨A, 7, none⟩), .int .i8 m7, .int .i64 m7, .pointer (some ⟨Q, 1, none⟩), .int .i8 q1, .int .i64 q1, .int .i64 p7, .int .i64 s2, .int .i64 2, .int .i64 6, .int .i64 8, .pointer (some ⟨A, 8, none⟩), .int .i8 m8, .int .i64 m8, .pointer (some ⟨Q, 2, none⟩), .int .i8 q2, .int .i64 q2, .int .i64 p8, .int .i64 v2, .int .i64 2, .pointer (some ⟨B, 2, none⟩), .int .i16 t2, .int .i64 t2, .int .i64 W2_, .pointer (some ⟨E, 2, none⟩), u96_2, u97_2, u98_2, u99_2, u100_2, u101_2, u102_2, u103_2, u104_2, u105_2, u106_2, u107_2, u108_2, .int .i64 2, undef, undef, undef, undef, undef, undef, undef, undef, undef, undef, undef, undef, undef, undef, undef, undef, undef, undef, undef, undef, undef, undef, undef, undef, undef, undef, undef], []⟩) ?first ?_
  case first =>
    intro J K' hJ hK
    obtain ⟨b, hb⟩ : ∃ b, b = (farB (farB false W0_) W1_) := ⟨_, rfl⟩
    rw [← hb] at hJ ⊢
    clear hb
    cases b
    all_goals
      by_cases g1 : 65536 < W2_
      all_goals by_cases g2 : W2_ < -65536
      all_goals go_wp2_with (fail)
      all_goals exact Met.intro (hJ _ _ ⟨rfl, _, _, _, _, _, _, _, _, _, _, _, _, _, _, by first | (simp [farB]; done) | (simp [farB]; omega) | (simp [farB, *]; done), rfl⟩)
  rintro a' w' ⟨rfl, v, u96_2, u97_2, u98_2, u99_2, u100_2, u101_2, u102_2, u103_2, u104_2, u105_2, u106_2, u107_2, u108_2, rfl, rfl⟩
  go_wp2_with (fail)
  rw [rounds_succ]
  have oN := HN.out
  have N0 := oN.at 0 _ rfl
  have N1 := oN.at 1 _ rfl
  have N2 := oN.at 2 _ rfl
  have Nl := oN.lt
  clear oN
  rcases hfin.out with ⟨hf, rfl, rfl, rfl, rfl⟩ | ⟨hf, rfl, rfl, rfl, rfl⟩
  all_goals
    rw [hf]
    go_wp2_with (go_at_call 55; refine (wk.out _).mono ?_; rintro e w9 ⟨rfl, hb⟩)
    go_ret
    exact ⟨rfl, Below.go V2b hb⟩
end Go.Proofs.Ytgggngcgcpmkbaa
