/- mesh: the walk of MeshCorners. -/
import Derived.Test.YtnopcgkhoennfaaSU
import Derived.Test.YtnopcgkhoennfaaSM
import Derived.Lib.Hide
import Derived.LoopN
import Derived.LoopTactic
import Derived.Deep.Onto
import Derived.Deep.RegionHeld3
import Derived.Deep.QuietTactic
import Derived.BigQuiet
namespace Go.Proofs.Ytnopcgkhoennfaa
set_option linter.unusedVariables false
set_option maxRecDepth 2000
set_option linter.unusedSimpArgs false
open Go.RowKit
theorem eqP9 (w : World) : (binOp .eql 47 (.agg #[.int .i64 0, .int .i64 0, .int .i64 0, .int .i64 0, .int .i64 0, .int .i64 0, .int .i64 0, .int .i64 0, .int .i64 0]) (.agg #[.int .i64 0, .int .i64 0, .int .i64 0, .int .i64 0, .int .i64 0, .int .i64 0, .int .i64 0, .int .i64 0, .int .i64 0])).run Try.prog w = .ok (.bool true) w := by kernel_rfl
attribute [local go_sem ↓] ix3_0 ix3_1 ix3_2 eqP9 neqP_self neqU_self
set_option maxHeartbeats 16000000 in
theorem Corners_law (M : Msh) (t : Int) (w : World) (hM : MeshAt M w) : Calls Try.prog 5 #[.agg #[.slice M.qv M.nv M.cv, .slice M.qu M.nu M.cu, .slice M.qt M.nt M.ct], .int .i64 t] w fun e w' => e = .returned (.bool true) ∧ Below w.heap.size w w' := by
  have HM := Lib.hid hM
  clear hM
  go_enter Try.func5, Try.ntmps5
  go_upto_region 1 with fail
  obtain ⟨W0, hW⟩ : ∃ W0, W0 = (w.alloc (.cells #[.slice M.qv M.nv M.cv, .slice M.qu M.nu M.cu, .slice M.qt M.nt M.ct] 26)) := ⟨_, rfl⟩
  have hB0 : Below w.heap.size w W0 := hW ▸ (Below.al (Below.refl _ _))
  have HA : Hid (Own w.heap.size [.slice M.qv M.nv M.cv, .slice M.qu M.nu M.cu, .slice M.qt M.nt M.ct] W0) := Lib.hid (hW ▸ (Own.newAt (by simp)))
  rw [← hW]
  clear hW
  obtain ⟨A, eA⟩ : ∃ X, X = w.heap.size := ⟨_, rfl⟩
  rw [← eA] at HA ⊢
  have Aw : w.heap.size ≤ A := by omega
  clear eA
  have HM0 := Lib.hid (HM.out.later hB0)
  have oA := HA.out
  have A0 := oA.at 0 _ rfl
  have A1 := oA.at 1 _ rfl
  have A2 := oA.at 2 _ rfl
  have Al := oA.lt
  clear oA
  go_wp2_with (fail)
  go_at_call 8
  refine (FewM_any M _ HM0.out).mono ?_
  rintro e w1 ⟨rfl, hb⟩
  have HA1 := Lib.hid (HA.out.later hb); have HB1 := Lib.hid (Below.go hB0 hb)
  have HY := Lib.hid (fewM_at HM.out)
  clear hb hB0 HM HM0 HA A0 A1 A2 Al
  generalize fewM M = Y at *
  have oA := HA1.out
  have A0 := oA.at 0 _ rfl
  have Af0 := oA.ok 0 (by simp)
  have A1 := oA.at 1 _ rfl
  have Af1 := oA.ok 1 (by simp)
  have A2 := oA.at 2 _ rfl
  have Af2 := oA.ok 2 (by simp)
  have Al := oA.lt
  clear oA
  go_upto_region 2 with fail
  clear A0 A1 A2 Af0 Af1 Af2 Al
  rw [show (((w1.setCell ⟨A, 0, none⟩ (.slice Y.qv Y.nv Y.cv)).setCell ⟨A, 1, none⟩ (.slice Y.qu Y.nu Y.cu)).setCell ⟨A, 2, none⟩ (.slice Y.qt Y.nt Y.ct)) = w1.setCells A 0 [.slice Y.qv Y.nv Y.cv, .slice Y.qu Y.nu Y.cu, .slice Y.qt Y.nt Y.ct] from rfl]
  have HA : Hid (Own A [.slice Y.qv Y.nv Y.cv, .slice Y.qu Y.nu Y.cu, .slice Y.qt Y.nt Y.ct] (w1.setCells A 0 [.slice Y.qv Y.nv Y.cv, .slice Y.qu Y.nu Y.cu, .slice Y.qt Y.nt Y.ct])) := Lib.hid (Own.store HA1.out rfl)
  have HB : Hid (Below w.heap.size w (w1.setCells A 0 [.slice Y.qv Y.nv Y.cv, .slice Y.qu Y.nu Y.cu, .slice Y.qt Y.nt Y.ct])) := Lib.hid (Below.setCells HB1.out Aw _ _)
  clear HA1 HB1
  generalize w1.setCells A 0 [.slice Y.qv Y.nv Y.cv, .slice Y.qu Y.nu Y.cu, .slice Y.qt Y.nt Y.ct] = w2 at *
  obtain ⟨z, ez⟩ : ∃ z, chkM Y = z := ⟨_, rfl⟩
  have CD := Lib.hid (RCheck_any Y)
  rw [ez] at CD
  by_cases hz : z = 0
  · subst hz
    by_cases ht : t < 0 ∨ (Y.nt : Int) ≤ t
    · have CY := Lib.hid (fun w hM => Corners_arg Y t w hM ez ht)
      obtain ⟨b, hb0⟩ : ∃ b, decide (t < 0) = b := ⟨_, rfl⟩
      have hc : b = false → decide ((Y.nt : Int) ≤ t) = true := fun h => by rw [h] at hb0; have := of_decide_eq_false hb0; simp; omega
      clear ht ez
      have oA := HA.out
      have A0 := oA.at 0 _ rfl
      have A1 := oA.at 1 _ rfl
      have A2 := oA.at 2 _ rfl
      have Al := oA.lt
      clear oA
      go_wp2_with (fail)
      go_at_call 18
      refine (CY.out _ (HY.out.later HB.out)).mono ?_
      rintro e w3 ⟨rfl, hb⟩
      have HA_ := Lib.hid (HA.out.later hb)
      have HB_ := Lib.hid (Below.go HB.out hb)
      clear hb HB HA
      have HA := HA_
      clear HA_
      have HB := HB_
      clear HB_
      clear A0 A1 A2 Al CY
      go_upto_region 3 with fail
      obtain ⟨w4, hW⟩ : ∃ w4, w4 = ((w3.alloc (.cells #[.int .i64 0, .int .i64 0, .int .i64 0, .int .i64 0, .int .i64 0, .int .i64 0, .int .i64 0, .int .i64 0, .int .i64 0] 47)).alloc (.cells #[.int .i64 0, .int .i64 0, .int .i64 0, .int .i64 0, .int .i64 0, .int .i64 0] 49)) := ⟨_, rfl⟩
      have hBx : Below w3.heap.size w3 w4 := hW ▸ (Below.al (Below.al (Below.refl _ _)))
      have HP : Hid (Own w3.heap.size ([.int .i64 0, .int .i64 0, .int .i64 0, .int .i64 0, .int .i64 0, .int .i64 0, .int .i64 0, .int .i64 0, .int .i64 0]) w4) := Lib.hid (hW ▸ (show Own w3.heap.size ([.int .i64 0, .int .i64 0, .int .i64 0, .int .i64 0, .int .i64 0, .int .i64 0, .int .i64 0, .int .i64 0, .int .i64 0]) (w3.alloc (.cells #[.int .i64 0, .int .i64 0, .int .i64 0, .int .i64 0, .int .i64 0, .int .i64 0, .int .i64 0, .int .i64 0, .int .i64 0] 47)) from Own.newAt (by simp)).alloc)
      have HX : Hid (Own (w3.heap.size + 1) ([.int .i64 0, .int .i64 0, .int .i64 0, .int .i64 0, .int .i64 0, .int .i64 0]) w4) := Lib.hid (hW ▸ (show Own (w3.heap.size + 1) ([.int .i64 0, .int .i64 0, .int .i64 0, .int .i64 0, .int .i64 0, .int .i64 0]) ((w3.alloc (.cells #[.int .i64 0, .int .i64 0, .int .i64 0, .int .i64 0, .int .i64 0, .int .i64 0, .int .i64 0, .int .i64 0, .int .i64 0] 47)).alloc (.cells #[.int .i64 0, .int .i64 0, .int .i64 0, .int .i64 0, .int .i64 0, .int .i64 0] 49)) from Own.newAt (by simp)))
      rw [← hW]
      clear hW
      obtain ⟨X, eX⟩ : ∃ X, X = (w3.heap.size + 1) := ⟨_, rfl⟩
      rw [← eX] at HX ⊢
      have Xw : w3.heap.size ≤ X := by omega
      obtain ⟨P, eP⟩ : ∃ X, X = w3.heap.size := ⟨_, rfl⟩
      rw [← eP] at HP ⊢
      have Pw : w3.heap.size ≤ P := by omega
      have nPX : P ≠ X := by omega
      have nXP : X ≠ P := by omega
      clear eP eX
      have HA_ := Lib.hid (HA.out.later hBx); have HB_ := Lib.hid (Below.go HB.out hBx)
      clear HA HB hBx Pw Xw
      have HA := HA_; have HB := HB_
      clear HA_ HB_
      have oA := HA.out
      have A0 := oA.at 0 _ rfl
      have A1 := oA.at 1 _ rfl
      have A2 := oA.at 2 _ rfl
      have Al := oA.lt
      clear oA
      go_wp2_with (fail)
      go_at_call 12
      refine (CD.out _ (HY.out.later HB.out)).mono ?_
      rintro e w5 ⟨rfl, hb⟩
      have HA_ := Lib.hid (HA.out.later hb)
      have HP_ := Lib.hid (HP.out.later hb)
      have HX_ := Lib.hid (HX.out.later hb)
      have HB_ := Lib.hid (Below.go HB.out hb)
      clear hb HB HA HP HX
      have HA := HA_
      clear HA_
      have HP := HP_
      clear HP_
      have HX := HX_
      clear HX_
      have HB := HB_
      clear HB_
      clear A0 A1 A2 Al CD
      cases b with
      | true =>
        clear hc
        have oP := HP.out
        have P0 := oP.at 0 _ rfl
        have P1 := oP.at 1 _ rfl
        have P2 := oP.at 2 _ rfl
        have P3 := oP.at 3 _ rfl
        have P4 := oP.at 4 _ rfl
        have P5 := oP.at 5 _ rfl
        have P6 := oP.at 6 _ rfl
        have P7 := oP.at 7 _ rfl
        have P8 := oP.at 8 _ rfl
        have Pl := oP.lt
        clear oP
        go_wp2_with (fail)
        clear P0 P1 P2 P3 P4 P5 P6 P7 P8 Pl
        go_at_call 14
        refine (works_any _).mono ?_
        rintro e w9 ⟨rfl, hb⟩
        have HB9 := Below.go HB.out hb
        clear hb HB
        go_wp2_with (fail)
        go_ret
        exact ⟨rfl, HB9⟩
      | false =>
        have hc1 := hc rfl
        clear hc
        have oA := HA.out
        have A2 := oA.at 2 _ rfl
        have Al := oA.lt
        clear oA
        have oP := HP.out
        have P0 := oP.at 0 _ rfl
        have P1 := oP.at 1 _ rfl
        have P2 := oP.at 2 _ rfl
        have P3 := oP.at 3 _ rfl
        have P4 := oP.at 4 _ rfl
        have P5 := oP.at 5 _ rfl
        have P6 := oP.at 6 _ rfl
        have P7 := oP.at 7 _ rfl
        have P8 := oP.at 8 _ rfl
        have Pl := oP.lt
        clear oP
        go_wp2_with (fail)
        clear P0 P1 P2 P3 P4 P5 P6 P7 P8 Pl A2 Al
        go_at_call 14
        refine (works_any _).mono ?_
        rintro e w9 ⟨rfl, hb⟩
        have HB9 := Below.go HB.out hb
        clear hb HB
        go_wp2_with (fail)
        go_ret
        exact ⟨rfl, HB9⟩
    · obtain ⟨t, rfl⟩ : ∃ k : Nat, t = (k : Int) := ⟨t.toNat, by omega⟩
      have ht2 : t < Y.nt := by omega
      have CY := Lib.hid (fun w hM => Corners_yes Y t w hM ez ht2)
      have GD := Lib.hid (chk_good (show chkF Y.nv Y.nu Y.nt Y.V Y.U Y.R = 0 from ez))
      have hM := HY.out
      clear ez
      obtain ⟨qv, nv, cv, V, qu, nu, cu, U, qt, nt, ct, R⟩ := Y
      dsimp only at *
      have d1 : decide ((t : Int) < 0) = false := decide_eq_false (by omega)
      have d2 : decide ((nt : Int) ≤ (t : Int)) = false := decide_eq_false (by omega)
      obtain ⟨D3, o3, eqt, hD3, t0, t1, t2⟩ := hM.t.at3 ht2
      have b0 := GD.out.t (t * 3) (by omega); have b1 := GD.out.t (t * 3 + 1) (by omega); have b2 := GD.out.t (t * 3 + 2) (by omega)
      dsimp only at *
      obtain ⟨j0, e0⟩ : ∃ j, (R (t * 3)).toNat = j := ⟨_, rfl⟩
      obtain ⟨j1, e1⟩ : ∃ j, (R (t * 3 + 1)).toNat = j := ⟨_, rfl⟩
      obtain ⟨j2, e2⟩ : ∃ j, (R (t * 3 + 2)).toNat = j := ⟨_, rfl⟩
      rw [e0, e1, e2] at CY
      have l0 : j0 < nv := by omega
      have l1 : j1 < nv := by omega
      have l2 : j2 < nv := by omega
      have un : nu = nv := GD.out.hu
      obtain ⟨DV, oV, eqv, hDV, -⟩ := hM.v.at3 l0
      obtain ⟨DU, oU, equ, hDU, -⟩ := hM.u.at2 (show j0 < nu by omega)
      dsimp only at *
      subst eqv equ eqt
      have HX3 := Lib.hid (show Has D3 (o3 + t * 3) [.int .i64 (j0 : Int), .int .i64 (j1 : Int), .int .i64 (j2 : Int)] w from ⟨hD3, fun j v hj => by
        match j, hj with
        | 0, hj => cases hj; rw [show (j0 : Int) = R (t * 3) by omega]; exact t0
        | 1, hj => cases hj; rw [show (j1 : Int) = R (t * 3 + 1) by omega]; exact t1
        | 2, hj => cases hj; rw [show (j2 : Int) = R (t * 3 + 2) by omega]; exact t2⟩)
      have HV0 := Lib.hid (show Has DV (oV + j0 * 3) [.int .i64 (V (j0 * 3)), .int .i64 (V (j0 * 3 + 1)), .int .i64 (V (j0 * 3 + 2))] w by
        obtain ⟨D, o, eq, hD, c0, c1, c2⟩ := hM.v.at3 l0
        cases eq
        exact ⟨hD, fun j v hj => by
          match j, hj with
          | 0, hj => cases hj; exact c0
          | 1, hj => cases hj; exact c1
          | 2, hj => cases hj; exact c2⟩)
      have HU0 := Lib.hid (show Has DU (oU + j0 * 2) [.int .i64 (U (j0 * 2)), .int .i64 (U (j0 * 2 + 1))] w by
        obtain ⟨D, o, eq, hD, c0, c1⟩ := hM.u.at2 (show j0 < nu by omega)
        cases eq
        exact ⟨hD, fun j v hj => by
          match j, hj with
          | 0, hj => cases hj; exact c0
          | 1, hj => cases hj; exact c1⟩)
      have HV1 := Lib.hid (show Has DV (oV + j1 * 3) [.int .i64 (V (j1 * 3)), .int .i64 (V (j1 * 3 + 1)), .int .i64 (V (j1 * 3 + 2))] w by
        obtain ⟨D, o, eq, hD, c0, c1, c2⟩ := hM.v.at3 l1
        cases eq
        exact ⟨hD, fun j v hj => by
          match j, hj with
          | 0, hj => cases hj; exact c0
          | 1, hj => cases hj; exact c1
          | 2, hj => cases hj; exact c2⟩)
      have HU1 := Lib.hid (show Has DU (oU + j1 * 2) [.int .i64 (U (j1 * 2)), .int .i64 (U (j1 * 2 + 1))] w by
        obtain ⟨D, o, eq, hD, c0, c1⟩ := hM.u.at2 (show j1 < nu by omega)
        cases eq
        exact ⟨hD, fun j v hj => by
          match j, hj with
          | 0, hj => cases hj; exact c0
          | 1, hj => cases hj; exact c1⟩)
      have HV2 := Lib.hid (show Has DV (oV + j2 * 3) [.int .i64 (V (j2 * 3)), .int .i64 (V (j2 * 3 + 1)), .int .i64 (V (j2 * 3 + 2))] w by
        obtain ⟨D, o, eq, hD, c0, c1, c2⟩ := hM.v.at3 l2
        cases eq
        exact ⟨hD, fun j v hj => by
          match j, hj with
          | 0, hj => cases hj; exact c0
          | 1, hj => cases hj; exact c1
          | 2, hj => cases hj; exact c2⟩)
      have HU2 := Lib.hid (show Has DU (oU + j2 * 2) [.int .i64 (U (j2 * 2)), .int .i64 (U (j2 * 2 + 1))] w by
        obtain ⟨D, o, eq, hD, c0, c1⟩ := hM.u.at2 (show j2 < nu by omega)
        cases eq
        exact ⟨hD, fun j v hj => by
          match j, hj with
          | 0, hj => cases hj; exact c0
          | 1, hj => cases hj; exact c1⟩)
      have x0 : (0 : Int) ≤ (t : Int) := by omega
      have x1 : (t : Int) < (nt : Int) := by omega
      have p0 : (0 : Int) ≤ (j0 : Int) := by omega
      have q0 : (j0 : Int) < (nv : Int) := by omega
      have r0 : (j0 : Int) < (nu : Int) := by omega
      have p1 : (0 : Int) ≤ (j1 : Int) := by omega
      have q1 : (j1 : Int) < (nv : Int) := by omega
      have r1 : (j1 : Int) < (nu : Int) := by omega
      have p2 : (0 : Int) ≤ (j2 : Int) := by omega
      have q2 : (j2 : Int) < (nv : Int) := by omega
      have r2 : (j2 : Int) < (nu : Int) := by omega
      clear e0 e1 e2 b0 b1 b2 l0 l1 l2 un t0 t1 t2 hD3 hDV hDU GD hM ht2 ht
      have oA := HA.out
      have A0 := oA.at 0 _ rfl
      have A1 := oA.at 1 _ rfl
      have A2 := oA.at 2 _ rfl
      have Al := oA.lt
      clear oA
      go_wp2_with (fail)
      go_at_call 18
      refine (CY.out _ (HY.out.later HB.out)).mono ?_
      rintro e w3 ⟨rfl, hb⟩
      have HA_ := Lib.hid (HA.out.later hb)
      have HB_ := Lib.hid (Below.go HB.out hb)
      clear hb HB HA
      have HA := HA_
      clear HA_
      have HB := HB_
      clear HB_
      clear A0 A1 A2 Al CY
      go_upto_region 3 with fail
      obtain ⟨w4, hW⟩ : ∃ w4, w4 = ((w3.alloc (.cells #[.int .i64 (V (j0 * 3)), .int .i64 (V (j0 * 3 + 1)), .int .i64 (V (j0 * 3 + 2)), .int .i64 (V (j1 * 3)), .int .i64 (V (j1 * 3 + 1)), .int .i64 (V (j1 * 3 + 2)), .int .i64 (V (j2 * 3)), .int .i64 (V (j2 * 3 + 1)), .int .i64 (V (j2 * 3 + 2))] 47)).alloc (.cells #[.int .i64 (U (j0 * 2)), .int .i64 (U (j0 * 2 + 1)), .int .i64 (U (j1 * 2)), .int .i64 (U (j1 * 2 + 1)), .int .i64 (U (j2 * 2)), .int .i64 (U (j2 * 2 + 1))] 49)) := ⟨_, rfl⟩
      have hBx : Below w3.heap.size w3 w4 := hW ▸ (Below.al (Below.al (Below.refl _ _)))
      have HP : Hid (Own w3.heap.size ([.int .i64 (V (j0 * 3)), .int .i64 (V (j0 * 3 + 1)), .int .i64 (V (j0 * 3 + 2)), .int .i64 (V (j1 * 3)), .int .i64 (V (j1 * 3 + 1)), .int .i64 (V (j1 * 3 + 2)), .int .i64 (V (j2 * 3)), .int .i64 (V (j2 * 3 + 1)), .int .i64 (V (j2 * 3 + 2))]) w4) := Lib.hid (hW ▸ (show Own w3.heap.size ([.int .i64 (V (j0 * 3)), .int .i64 (V (j0 * 3 + 1)), .int .i64 (V (j0 * 3 + 2)), .int .i64 (V (j1 * 3)), .int .i64 (V (j1 * 3 + 1)), .int .i64 (V (j1 * 3 + 2)), .int .i64 (V (j2 * 3)), .int .i64 (V (j2 * 3 + 1)), .int .i64 (V (j2 * 3 + 2))]) (w3.alloc (.cells #[.int .i64 (V (j0 * 3)), .int .i64 (V (j0 * 3 + 1)), .int .i64 (V (j0 * 3 + 2)), .int .i64 (V (j1 * 3)), .int .i64 (V (j1 * 3 + 1)), .int .i64 (V (j1 * 3 + 2)), .int .i64 (V (j2 * 3)), .int .i64 (V (j2 * 3 + 1)), .int .i64 (V (j2 * 3 + 2))] 47)) from Own.newAt (by simp)).alloc)
      have HX : Hid (Own (w3.heap.size + 1) ([.int .i64 (U (j0 * 2)), .int .i64 (U (j0 * 2 + 1)), .int .i64 (U (j1 * 2)), .int .i64 (U (j1 * 2 + 1)), .int .i64 (U (j2 * 2)), .int .i64 (U (j2 * 2 + 1))]) w4) := Lib.hid (hW ▸ (show Own (w3.heap.size + 1) ([.int .i64 (U (j0 * 2)), .int .i64 (U (j0 * 2 + 1)), .int .i64 (U (j1 * 2)), .int .i64 (U (j1 * 2 + 1)), .int .i64 (U (j2 * 2)), .int .i64 (U (j2 * 2 + 1))]) ((w3.alloc (.cells #[.int .i64 (V (j0 * 3)), .int .i64 (V (j0 * 3 + 1)), .int .i64 (V (j0 * 3 + 2)), .int .i64 (V (j1 * 3)), .int .i64 (V (j1 * 3 + 1)), .int .i64 (V (j1 * 3 + 2)), .int .i64 (V (j2 * 3)), .int .i64 (V (j2 * 3 + 1)), .int .i64 (V (j2 * 3 + 2))] 47)).alloc (.cells #[.int .i64 (U (j0 * 2)), .int .i64 (U (j0 * 2 + 1)), .int .i64 (U (j1 * 2)), .int .i64 (U (j1 * 2 + 1)), .int .i64 (U (j2 * 2)), .int .i64 (U (j2 * 2 + 1))] 49)) from Own.newAt (by simp)))
      rw [← hW]
      clear hW
      obtain ⟨X, eX⟩ : ∃ X, X = (w3.heap.size + 1) := ⟨_, rfl⟩
      rw [← eX] at HX ⊢
      have Xw : w3.heap.size ≤ X := by omega
      obtain ⟨P, eP⟩ : ∃ X, X = w3.heap.size := ⟨_, rfl⟩
      rw [← eP] at HP ⊢
      have Pw : w3.heap.size ≤ P := by omega
      have nPX : P ≠ X := by omega
      have nXP : X ≠ P := by omega
      clear eP eX
      have HA_ := Lib.hid (HA.out.later hBx); have HB_ := Lib.hid (Below.go HB.out hBx)
      clear HA HB hBx Pw Xw
      have HA := HA_; have HB := HB_
      clear HA_ HB_
      have oA := HA.out
      have A0 := oA.at 0 _ rfl
      have A1 := oA.at 1 _ rfl
      have A2 := oA.at 2 _ rfl
      have Al := oA.lt
      clear oA
      go_wp2_with (fail)
      go_at_call 12
      refine (CD.out _ (HY.out.later HB.out)).mono ?_
      rintro e w5 ⟨rfl, hb⟩
      have HA_ := Lib.hid (HA.out.later hb)
      have HP_ := Lib.hid (HP.out.later hb)
      have HX_ := Lib.hid (HX.out.later hb)
      have HB_ := Lib.hid (Below.go HB.out hb)
      clear hb HB HA HP HX
      have HA := HA_
      clear HA_
      have HP := HP_
      clear HP_
      have HX := HX_
      clear HX_
      have HB := HB_
      clear HB_
      clear A0 A1 A2 Al CD
      have oA := HA.out
      have A2 := oA.at 2 _ rfl
      have Al := oA.lt
      clear oA
      have T3 := HX3.out.below HB.out HX3.out.lt
      have t0 : w5.cell? ⟨D3, o3 + t * 3, none⟩ = some (.int .i64 (j0 : Int)) := T3.at 0 _ rfl
      have t1 : w5.cell? ⟨D3, o3 + t * 3 + 1, none⟩ = some (.int .i64 (j1 : Int)) := T3.at 1 _ rfl
      have t2 : w5.cell? ⟨D3, o3 + t * 3 + 2, none⟩ = some (.int .i64 (j2 : Int)) := T3.at 2 _ rfl
      have Tl := T3.lt
      clear T3
      go_wp2_with (fail)
      clear t0 t1 t2 Tl A2 Al HX3
      refine wp_loop_rounds 4 ?_
      rw [rounds_succ]
      go_wp2_with (fail)
      have oA := HA.out
      have A0 := oA.at 0 _ rfl
      have A1 := oA.at 1 _ rfl
      have Al := oA.lt
      clear oA
      have T3 := HV0.out.below HB.out HV0.out.lt
      have c0 : w5.cell? ⟨DV, oV + j0 * 3, none⟩ = some (.int .i64 (V (j0 * 3))) := T3.at 0 _ rfl
      have c1 := T3.at 1 _ rfl; have c2 := T3.at 2 _ rfl; have cl := T3.lt
      have T2 := HU0.out.below HB.out HU0.out.lt
      have u0 : w5.cell? ⟨DU, oU + j0 * 2, none⟩ = some (.int .i64 (U (j0 * 2))) := T2.at 0 _ rfl
      have u1 := T2.at 1 _ rfl; have ul := T2.lt
      have oP := HP.out
      have P0 := oP.at 0 _ rfl
      have P1 := oP.at 1 _ rfl
      have P2 := oP.at 2 _ rfl
      have Pl := oP.lt
      clear oP
      have oX := HX.out
      have X0 := oX.at 0 _ rfl
      have X1 := oX.at 1 _ rfl
      have Xl := oX.lt
      clear oX
      clear T3 T2
      go_quiet (fail)
      have hBd : Below w5.heap.size w5 (w5.drewN nq) := below_drewN (Below.refl _ _) _
      have HA_ := Lib.hid (HA.out.later hBd); have HP_ := Lib.hid (HP.out.later hBd); have HX_ := Lib.hid (HX.out.later hBd); have HB_ := Lib.hid (Below.go HB.out hBd)
      clear HA HP HX HB hBd A0 A1 Al c0 c1 c2 cl u0 u1 ul P0 P1 P2 Pl X0 X1 Xl
      generalize w5.drewN nq = y0 at *
      have HA := HA_; have HP := HP_; have HX := HX_; have HB := HB_
      clear HA_ HP_ HX_ HB_
      go_wp2_with (fail)
      rw [rounds_succ]
      go_wp2_with (fail)
      have oA := HA.out
      have A0 := oA.at 0 _ rfl
      have A1 := oA.at 1 _ rfl
      have Al := oA.lt
      clear oA
      have T3 := HV1.out.below HB.out HV1.out.lt
      have c0 : y0.cell? ⟨DV, oV + j1 * 3, none⟩ = some (.int .i64 (V (j1 * 3))) := T3.at 0 _ rfl
      have c1 := T3.at 1 _ rfl; have c2 := T3.at 2 _ rfl; have cl := T3.lt
      have T2 := HU1.out.below HB.out HU1.out.lt
      have u0 : y0.cell? ⟨DU, oU + j1 * 2, none⟩ = some (.int .i64 (U (j1 * 2))) := T2.at 0 _ rfl
      have u1 := T2.at 1 _ rfl; have ul := T2.lt
      have oP := HP.out
      have P3 := oP.at 3 _ rfl
      have P4 := oP.at 4 _ rfl
      have P5 := oP.at 5 _ rfl
      have Pl := oP.lt
      clear oP
      have oX := HX.out
      have X2 := oX.at 2 _ rfl
      have X3 := oX.at 3 _ rfl
      have Xl := oX.lt
      clear oX
      clear T3 T2
      go_quiet (fail)
      have hBd : Below y0.heap.size y0 (y0.drewN nq) := below_drewN (Below.refl _ _) _
      have HA_ := Lib.hid (HA.out.later hBd); have HP_ := Lib.hid (HP.out.later hBd); have HX_ := Lib.hid (HX.out.later hBd); have HB_ := Lib.hid (Below.go HB.out hBd)
      clear HA HP HX HB hBd A0 A1 Al c0 c1 c2 cl u0 u1 ul P3 P4 P5 Pl X2 X3 Xl
      generalize y0.drewN nq = y1 at *
      have HA := HA_; have HP := HP_; have HX := HX_; have HB := HB_
      clear HA_ HP_ HX_ HB_
      go_wp2_with (fail)
      rw [rounds_succ]
      go_wp2_with (fail)
      have oA := HA.out
      have A0 := oA.at 0 _ rfl
      have A1 := oA.at 1 _ rfl
      have Al := oA.lt
      clear oA
      have T3 := HV2.out.below HB.out HV2.out.lt
      have c0 : y1.cell? ⟨DV, oV + j2 * 3, none⟩ = some (.int .i64 (V (j2 * 3))) := T3.at 0 _ rfl
      have c1 := T3.at 1 _ rfl; have c2 := T3.at 2 _ rfl; have cl := T3.lt
      have T2 := HU2.out.below HB.out HU2.out.lt
      have u0 : y1.cell? ⟨DU, oU + j2 * 2, none⟩ = some (.int .i64 (U (j2 * 2))) := T2.at 0 _ rfl
      have u1 := T2.at 1 _ rfl; have ul := T2.lt
      have oP := HP.out
      have P6 := oP.at 6 _ rfl
      have P7 := oP.at 7 _ rfl
      have P8 := oP.at 8 _ rfl
      have Pl := oP.lt
      clear oP
      have oX := HX.out
      have X4 := oX.at 4 _ rfl
      have X5 := oX.at 5 _ rfl
      have Xl := oX.lt
      clear oX
      clear T3 T2
      go_quiet (fail)
      have hBd : Below y1.heap.size y1 (y1.drewN nq) := below_drewN (Below.refl _ _) _
      have HA_ := Lib.hid (HA.out.later hBd); have HP_ := Lib.hid (HP.out.later hBd); have HX_ := Lib.hid (HX.out.later hBd); have HB_ := Lib.hid (Below.go HB.out hBd)
      clear HA HP HX HB hBd A0 A1 Al c0 c1 c2 cl u0 u1 ul P6 P7 P8 Pl X4 X5 Xl
      generalize y1.drewN nq = y2 at *
      have HA := HA_; have HP := HP_; have HX := HX_; have HB := HB_
      clear HA_ HP_ HX_ HB_
      go_wp2_with (fail)
      rw [rounds_succ]
      go_wp2_with (fail)
      go_at_call 14
      refine (works_any _).mono ?_
      rintro e w9 ⟨rfl, hb⟩
      have HB9 := Below.go HB.out hb
      clear hb HB
      go_wp2_with (fail)
      go_ret
      exact ⟨rfl, HB9⟩
  · have CY := Lib.hid (fun w hM => Corners_no Y t z w hM ez hz)
    have hd : (z != 0) = true := by simpa using hz
    clear ez hz
    have oA := HA.out
    have A0 := oA.at 0 _ rfl
    have A1 := oA.at 1 _ rfl
    have A2 := oA.at 2 _ rfl
    have Al := oA.lt
    clear oA
    go_wp2_with (fail)
    go_at_call 18
    refine (CY.out _ (HY.out.later HB.out)).mono ?_
    rintro e w3 ⟨rfl, hb⟩
    have HA_ := Lib.hid (HA.out.later hb)
    have HB_ := Lib.hid (Below.go HB.out hb)
    clear hb HB HA
    have HA := HA_
    clear HA_
    have HB := HB_
    clear HB_
    clear A0 A1 A2 Al CY
    go_upto_region 3 with fail
    obtain ⟨w4, hW⟩ : ∃ w4, w4 = ((w3.alloc (.cells #[.int .i64 0, .int .i64 0, .int .i64 0, .int .i64 0, .int .i64 0, .int .i64 0, .int .i64 0, .int .i64 0, .int .i64 0] 47)).alloc (.cells #[.int .i64 0, .int .i64 0, .int .i64 0, .int .i64 0, .int .i64 0, .int .i64 0] 49)) := ⟨_, rfl⟩
    have hBx : Below w3.heap.size w3 w4 := hW ▸ (Below.al (Below.al (Below.refl _ _)))
    have HP : Hid (Own w3.heap.size ([.int .i64 0, .int .i64 0, .int .i64 0, .int .i64 0, .int .i64 0, .int .i64 0, .int .i64 0, .int .i64 0, .int .i64 0]) w4) := Lib.hid (hW ▸ (show Own w3.heap.size ([.int .i64 0, .int .i64 0, .int .i64 0, .int .i64 0, .int .i64 0, .int .i64 0, .int .i64 0, .int .i64 0, .int .i64 0]) (w3.alloc (.cells #[.int .i64 0, .int .i64 0, .int .i64 0, .int .i64 0, .int .i64 0, .int .i64 0, .int .i64 0, .int .i64 0, .int .i64 0] 47)) from Own.newAt (by simp)).alloc)
    have HX : Hid (Own (w3.heap.size + 1) ([.int .i64 0, .int .i64 0, .int .i64 0, .int .i64 0, .int .i64 0, .int .i64 0]) w4) := Lib.hid (hW ▸ (show Own (w3.heap.size + 1) ([.int .i64 0, .int .i64 0, .int .i64 0, .int .i64 0, .int .i64 0, .int .i64 0]) ((w3.alloc (.cells #[.int .i64 0, .int .i64 0, .int .i64 0, .int .i64 0, .int .i64 0, .int .i64 0, .int .i64 0, .int .i64 0, .int .i64 0] 47)).alloc (.cells #[.int .i64 0, .int .i64 0, .int .i64 0, .int .i64 0, .int .i64 0, .int .i64 0] 49)) from Own.newAt (by simp)))
    rw [← hW]
    clear hW
    obtain ⟨X, eX⟩ : ∃ X, X = (w3.heap.size + 1) := ⟨_, rfl⟩
    rw [← eX] at HX ⊢
    have Xw : w3.heap.size ≤ X := by omega
    obtain ⟨P, eP⟩ : ∃ X, X = w3.heap.size := ⟨_, rfl⟩
    rw [← eP] at HP ⊢
    have Pw : w3.heap.size ≤ P := by omega
    have nPX : P ≠ X := by omega
    have nXP : X ≠ P := by omega
    clear eP eX
    have HA_ := Lib.hid (HA.out.later hBx); have HB_ := Lib.hid (Below.go HB.out hBx)
    clear HA HB hBx Pw Xw
    have HA := HA_; have HB := HB_
    clear HA_ HB_
    have oA := HA.out
    have A0 := oA.at 0 _ rfl
    have A1 := oA.at 1 _ rfl
    have A2 := oA.at 2 _ rfl
    have Al := oA.lt
    clear oA
    go_wp2_with (fail)
    go_at_call 12
    refine (CD.out _ (HY.out.later HB.out)).mono ?_
    rintro e w5 ⟨rfl, hb⟩
    have HA_ := Lib.hid (HA.out.later hb)
    have HP_ := Lib.hid (HP.out.later hb)
    have HX_ := Lib.hid (HX.out.later hb)
    have HB_ := Lib.hid (Below.go HB.out hb)
    clear hb HB HA HP HX
    have HA := HA_
    clear HA_
    have HP := HP_
    clear HP_
    have HX := HX_
    clear HX_
    have HB := HB_
    clear HB_
    clear A0 A1 A2 Al CD
    go_wp2_with (fail)
    go_at_call 14
    refine (works_any _).mono ?_
    rintro e w9 ⟨rfl, hb⟩
    have HB9 := Below.go HB.out hb
    clear hb HB
    go_wp2_with (fail)
    go_ret
    exact ⟨rfl, HB9⟩
end Go.Proofs.Ytnopcgkhoennfaa
