/- mesh: Corners. -/
import Derived.Test.YtnopcgkhoennfaaSE
import Derived.Test.YtnopcgkhoennfaaSH
import Derived.Lib.Hide
import Derived.LoopN
import Derived.LoopTactic
import Derived.Deep.Onto
import Derived.Deep.RegionHeld3
import Derived.Deep.QuietTactic
import Derived.BigQuiet
namespace Go.Proofs.Ytnopcgkhoennfaa
set_option linter.unusedVariables false
set_option maxRecDepth 2000
set_option linter.unusedSimpArgs false
open Go.RowKit
attribute [local go_sem] setCell_self
attribute [local go_sem ↓] ix3_0 ix3_1 ix3_2
theorem res_three {P : Program} {fn : Func} {tmps : Array Value} {w : World} {r r2 s T T2 : Nat} {a a2 : Addr} {v v2 u : Value} (hf : fn.results = #[.cell r T, .cell r2 T2, .tmp s]) (ha : tmps[r]?.getD undef = .pointer (some a)) (hl : (loadVar T a).run P w = .ok v w) (ha2 : tmps[r2]?.getD undef = .pointer (some a2)) (hl2 : (loadVar T2 a2).run P w = .ok v2 w) (hs : tmps[s]?.getD undef = u) : (results fn tmps).run P w = .ok (.tuple #[v, v2, u]) w := by
  subst hs
  have hx : (asAddr (Value.pointer (some a))).run P w = .ok a w := by simp [asAddr]
  have hx2 : (asAddr (Value.pointer (some a2))).run P w = .ok a2 w := by simp [asAddr]
  simp [results, hf, ha, hx, hl, ha2, hx2, hl2]
set_option maxHeartbeats 8000000 in
theorem Corners_no (M : Msh) (t z : Int) (w : World) (hM : MeshAt M w) (hz : chkM M = z) (h0 : z ≠ 0) : Calls Try.prog 18 #[(.agg #[.slice M.qv M.nv M.cv, .slice M.qu M.nu M.cu, .slice M.qt M.nt M.ct]), .int .i64 t] w fun e w' => e = .returned (.tuple #[(.agg #[.int .i64 0, .int .i64 0, .int .i64 0, .int .i64 0, .int .i64 0, .int .i64 0, .int .i64 0, .int .i64 0, .int .i64 0]), (.agg #[.int .i64 0, .int .i64 0, .int .i64 0, .int .i64 0, .int .i64 0, .int .i64 0]), .int .i64 z]) ∧ Below w.heap.size w w' := by
  have HM := Lib.hid hM
  have HZ := Lib.hid hz
  have hd : (z != 0) = true := by simpa using h0
  clear hM hz h0
  go_enter Try.func18, Try.ntmps18
  go_upto_region 1 with fail
  obtain ⟨W0, hW⟩ : ∃ W0, W0 = (((w.alloc (.cells #[.slice M.qv M.nv M.cv, .slice M.qu M.nu M.cu, .slice M.qt M.nt M.ct] 26)).alloc (.cells #[.int .i64 0, .int .i64 0, .int .i64 0, .int .i64 0, .int .i64 0, .int .i64 0, .int .i64 0, .int .i64 0, .int .i64 0] 47)).alloc (.cells #[.int .i64 0, .int .i64 0, .int .i64 0, .int .i64 0, .int .i64 0, .int .i64 0] 49)) := ⟨_, rfl⟩
  have hB0 : Below w.heap.size w W0 := hW ▸ (Below.al (Below.al (Below.al (Below.refl _ _))))
  have HA : Hid (Own w.heap.size [.slice M.qv M.nv M.cv, .slice M.qu M.nu M.cu, .slice M.qt M.nt M.ct] W0) := Lib.hid (hW ▸ (Own.newAt (by simp)).alloc.alloc)
  have HP : Hid (Own (w.heap.size + 1) [.int .i64 0, .int .i64 0, .int .i64 0, .int .i64 0, .int .i64 0, .int .i64 0, .int .i64 0, .int .i64 0, .int .i64 0] W0) := Lib.hid (hW ▸ (Own.newAt (by simp)).alloc)
  have HX : Hid (Own ((w.heap.size + 1) + 1) [.int .i64 0, .int .i64 0, .int .i64 0, .int .i64 0, .int .i64 0, .int .i64 0] W0) := Lib.hid (hW ▸ (Own.newAt (by simp)))
  rw [← hW]
  clear hW
  obtain ⟨X, eX⟩ : ∃ X, X = ((w.heap.size + 1) + 1) := ⟨_, rfl⟩
  rw [← eX] at HX ⊢
  have Xw : w.heap.size ≤ X := by omega
  obtain ⟨P, eP⟩ : ∃ X, X = (w.heap.size + 1) := ⟨_, rfl⟩
  rw [← eP] at HP ⊢
  have Pw : w.heap.size ≤ P := by omega
  obtain ⟨A, eA⟩ : ∃ X, X = w.heap.size := ⟨_, rfl⟩
  rw [← eA] at HA ⊢
  have Aw : w.heap.size ≤ A := by omega
  have nAP : A ≠ P := by omega
  have nPA : P ≠ A := by omega
  have nAX : A ≠ X := by omega
  have nXA : X ≠ A := by omega
  have nPX : P ≠ X := by omega
  have nXP : X ≠ P := by omega
  clear eA eP eX
  have HM0 := Lib.hid (HM.out.later hB0)
  clear HM
  have oA := HA.out
  have A0 := oA.at 0 _ rfl
  have A1 := oA.at 1 _ rfl
  have A2 := oA.at 2 _ rfl
  have Al := oA.lt
  clear oA
  go_wp2_with (fail)
  go_at_call 11
  refine (Check_any M _ HM0.out).mono ?_
  rintro e w1 ⟨rfl, hb⟩
  have HA1 := Lib.hid (HA.out.later hb); have HP1 := Lib.hid (HP.out.later hb); have HX1 := Lib.hid (HX.out.later hb); have HM1 := Lib.hid (HM0.out.later hb); have HB1 := Lib.hid (Below.go hB0 hb)
  clear hb hB0 HM0 HA HP HX A0 A1 A2 Al
  rw [HZ.out]
  go_upto_region 3 with fail
  have oP := HP1.out
  have P0 := oP.at 0 _ rfl
  have Pf0 := oP.ok 0 (by simp)
  have P1 := oP.at 1 _ rfl
  have Pf1 := oP.ok 1 (by simp)
  have P2 := oP.at 2 _ rfl
  have Pf2 := oP.ok 2 (by simp)
  have P3 := oP.at 3 _ rfl
  have Pf3 := oP.ok 3 (by simp)
  have P4 := oP.at 4 _ rfl
  have Pf4 := oP.ok 4 (by simp)
  have P5 := oP.at 5 _ rfl
  have Pf5 := oP.ok 5 (by simp)
  have P6 := oP.at 6 _ rfl
  have Pf6 := oP.ok 6 (by simp)
  have P7 := oP.at 7 _ rfl
  have Pf7 := oP.ok 7 (by simp)
  have P8 := oP.at 8 _ rfl
  have Pf8 := oP.ok 8 (by simp)
  have Pl := oP.lt
  clear oP
  have oX := HX1.out
  have X0 := oX.at 0 _ rfl
  have Xf0 := oX.ok 0 (by simp)
  have X1 := oX.at 1 _ rfl
  have Xf1 := oX.ok 1 (by simp)
  have X2 := oX.at 2 _ rfl
  have Xf2 := oX.ok 2 (by simp)
  have X3 := oX.at 3 _ rfl
  have Xf3 := oX.ok 3 (by simp)
  have X4 := oX.at 4 _ rfl
  have Xf4 := oX.ok 4 (by simp)
  have X5 := oX.at 5 _ rfl
  have Xf5 := oX.ok 5 (by simp)
  have Xl := oX.lt
  clear oX
  go_region_held3 (fun w' => w' = w1.drew) (first | rfl | assumption) (fail)
  clear P0 Pf0 P1 Pf1 P2 Pf2 P3 Pf3 P4 Pf4 P5 Pf5 P6 Pf6 P7 Pf7 P8 Pf8 Pl X0 Xf0 X1 Xf1 X2 Xf2 X3 Xf3 X4 Xf4 X5 Xf5 Xl
  have HP2 := Lib.hid (HP1.out.drew); have HX2 := Lib.hid (HX1.out.drew); have HB2 := Lib.hid (HB1.out.drew)
  generalize w1.drew = w2 at *
  go_wp2_with (fail)
  have hL1 := run_loadVar_mid (P := Try.prog) _ P 0 47 [.int .i64 0, .int .i64 0, .int .i64 0, .int .i64 0, .int .i64 0, .int .i64 0, .int .i64 0, .int .i64 0, .int .i64 0] _ HP2.out.cell Try.underlying47 rfl (by kernel_rfl)
  have hL2 := run_loadVar_mid (P := Try.prog) _ X 0 49 [.int .i64 0, .int .i64 0, .int .i64 0, .int .i64 0, .int .i64 0, .int .i64 0] _ HX2.out.cell Try.underlying49 rfl (by kernel_rfl)
  exact bodyPost_ret (v := .tuple #[.agg ([.int .i64 0, .int .i64 0, .int .i64 0, .int .i64 0, .int .i64 0, .int .i64 0, .int .i64 0, .int .i64 0, .int .i64 0] : List Value).toArray, .agg ([.int .i64 0, .int .i64 0, .int .i64 0, .int .i64 0, .int .i64 0, .int .i64 0] : List Value).toArray, .int .i64 z]) (res_three Try.results18 rfl hL1 rfl hL2 rfl) rfl ⟨rfl, HB2.out⟩
set_option maxHeartbeats 8000000 in
theorem Corners_arg (M : Msh) (t : Int) (w : World) (hM : MeshAt M w) (hz : chkM M = 0) (ht : t < 0 ∨ (M.nt : Int) ≤ t) : Calls Try.prog 18 #[(.agg #[.slice M.qv M.nv M.cv, .slice M.qu M.nu M.cu, .slice M.qt M.nt M.ct]), .int .i64 t] w fun e w' => e = .returned (.tuple #[(.agg #[.int .i64 0, .int .i64 0, .int .i64 0, .int .i64 0, .int .i64 0, .int .i64 0, .int .i64 0, .int .i64 0, .int .i64 0]), (.agg #[.int .i64 0, .int .i64 0, .int .i64 0, .int .i64 0, .int .i64 0, .int .i64 0]), .int .i64 2]) ∧ Below w.heap.size w w' := by
  have HM := Lib.hid hM
  have HZ := Lib.hid hz
  have hd : ∃ b, decide (t < 0) = b := ⟨_, rfl⟩
  obtain ⟨b, hb0⟩ := hd
  have hc : b = false → decide ((M.nt : Int) ≤ t) = true := fun h => by rw [h] at hb0; have := of_decide_eq_false hb0; simp; omega
  clear hM hz ht
  go_enter Try.func18, Try.ntmps18
  go_upto_region 1 with fail
  obtain ⟨W0, hW⟩ : ∃ W0, W0 = (((w.alloc (.cells #[.slice M.qv M.nv M.cv, .slice M.qu M.nu M.cu, .slice M.qt M.nt M.ct] 26)).alloc (.cells #[.int .i64 0, .int .i64 0, .int .i64 0, .int .i64 0, .int .i64 0, .int .i64 0, .int .i64 0, .int .i64 0, .int .i64 0] 47)).alloc (.cells #[.int .i64 0, .int .i64 0, .int .i64 0, .int .i64 0, .int .i64 0, .int .i64 0] 49)) := ⟨_, rfl⟩
  have hB0 : Below w.heap.size w W0 := hW ▸ (Below.al (Below.al (Below.al (Below.refl _ _))))
  have HA : Hid (Own w.heap.size [.slice M.qv M.nv M.cv, .slice M.qu M.nu M.cu, .slice M.qt M.nt M.ct] W0) := Lib.hid (hW ▸ (Own.newAt (by simp)).alloc.alloc)
  have HP : Hid (Own (w.heap.size + 1) [.int .i64 0, .int .i64 0, .int .i64 0, .int .i64 0, .int .i64 0, .int .i64 0, .int .i64 0, .int .i64 0, .int .i64 0] W0) := Lib.hid (hW ▸ (Own.newAt (by simp)).alloc)
  have HX : Hid (Own ((w.heap.size + 1) + 1) [.int .i64 0, .int .i64 0, .int .i64 0, .int .i64 0, .int .i64 0, .int .i64 0] W0) := Lib.hid (hW ▸ (Own.newAt (by simp)))
  rw [← hW]
  clear hW
  obtain ⟨X, eX⟩ : ∃ X, X = ((w.heap.size + 1) + 1) := ⟨_, rfl⟩
  rw [← eX] at HX ⊢
  have Xw : w.heap.size ≤ X := by omega
  obtain ⟨P, eP⟩ : ∃ X, X = (w.heap.size + 1) := ⟨_, rfl⟩
  rw [← eP] at HP ⊢
  have Pw : w.heap.size ≤ P := by omega
  obtain ⟨A, eA⟩ : ∃ X, X = w.heap.size := ⟨_, rfl⟩
  rw [← eA] at HA ⊢
  have Aw : w.heap.size ≤ A := by omega
  have nAP : A ≠ P := by omega
  have nPA : P ≠ A := by omega
  have nAX : A ≠ X := by omega
  have nXA : X ≠ A := by omega
  have nPX : P ≠ X := by omega
  have nXP : X ≠ P := by omega
  clear eA eP eX
  have HM0 := Lib.hid (HM.out.later hB0)
  clear HM
  have oA := HA.out
  have A0 := oA.at 0 _ rfl
  have A1 := oA.at 1 _ rfl
  have A2 := oA.at 2 _ rfl
  have Al := oA.lt
  clear oA
  go_wp2_with (fail)
  go_at_call 11
  refine (Check_any M _ HM0.out).mono ?_
  rintro e w1 ⟨rfl, hb⟩
  have HA1 := Lib.hid (HA.out.later hb); have HP1 := Lib.hid (HP.out.later hb); have HX1 := Lib.hid (HX.out.later hb); have HM1 := Lib.hid (HM0.out.later hb); have HB1 := Lib.hid (Below.go hB0 hb)
  clear hb hB0 HM0 HA HP HX A0 A1 A2 Al
  rw [HZ.out]
  cases b with
  | true =>
    clear hc
    have oA := HA1.out
    have A2 := oA.at 2 _ rfl
    have Al := oA.lt
    clear oA
    go_upto_region 5 with fail
    clear A2 Al
    have oP := HP1.out
    have P0 := oP.at 0 _ rfl
    have Pf0 := oP.ok 0 (by simp)
    have P1 := oP.at 1 _ rfl
    have Pf1 := oP.ok 1 (by simp)
    have P2 := oP.at 2 _ rfl
    have Pf2 := oP.ok 2 (by simp)
    have P3 := oP.at 3 _ rfl
    have Pf3 := oP.ok 3 (by simp)
    have P4 := oP.at 4 _ rfl
    have Pf4 := oP.ok 4 (by simp)
    have P5 := oP.at 5 _ rfl
    have Pf5 := oP.ok 5 (by simp)
    have P6 := oP.at 6 _ rfl
    have Pf6 := oP.ok 6 (by simp)
    have P7 := oP.at 7 _ rfl
    have Pf7 := oP.ok 7 (by simp)
    have P8 := oP.at 8 _ rfl
    have Pf8 := oP.ok 8 (by simp)
    have Pl := oP.lt
    clear oP
    have oX := HX1.out
    have X0 := oX.at 0 _ rfl
    have Xf0 := oX.ok 0 (by simp)
    have X1 := oX.at 1 _ rfl
    have Xf1 := oX.ok 1 (by simp)
    have X2 := oX.at 2 _ rfl
    have Xf2 := oX.ok 2 (by simp)
    have X3 := oX.at 3 _ rfl
    have Xf3 := oX.ok 3 (by simp)
    have X4 := oX.at 4 _ rfl
    have Xf4 := oX.ok 4 (by simp)
    have X5 := oX.at 5 _ rfl
    have Xf5 := oX.ok 5 (by simp)
    have Xl := oX.lt
    clear oX
    go_region_held3 (fun w' => w' = w1.drew) (first | rfl | assumption) (fail)
    clear P0 Pf0 P1 Pf1 P2 Pf2 P3 Pf3 P4 Pf4 P5 Pf5 P6 Pf6 P7 Pf7 P8 Pf8 Pl X0 Xf0 X1 Xf1 X2 Xf2 X3 Xf3 X4 Xf4 X5 Xf5 Xl
    have HP2 := Lib.hid (HP1.out.drew); have HX2 := Lib.hid (HX1.out.drew); have HB2 := Lib.hid (HB1.out.drew)
    generalize w1.drew = w2 at *
    go_wp2_with (fail)
    have hL1 := run_loadVar_mid (P := Try.prog) _ P 0 47 [.int .i64 0, .int .i64 0, .int .i64 0, .int .i64 0, .int .i64 0, .int .i64 0, .int .i64 0, .int .i64 0, .int .i64 0] _ HP2.out.cell Try.underlying47 rfl (by kernel_rfl)
    have hL2 := run_loadVar_mid (P := Try.prog) _ X 0 49 [.int .i64 0, .int .i64 0, .int .i64 0, .int .i64 0, .int .i64 0, .int .i64 0] _ HX2.out.cell Try.underlying49 rfl (by kernel_rfl)
    exact bodyPost_ret (v := .tuple #[.agg ([.int .i64 0, .int .i64 0, .int .i64 0, .int .i64 0, .int .i64 0, .int .i64 0, .int .i64 0, .int .i64 0, .int .i64 0] : List Value).toArray, .agg ([.int .i64 0, .int .i64 0, .int .i64 0, .int .i64 0, .int .i64 0, .int .i64 0] : List Value).toArray, .int .i64 2]) (res_three Try.results18 rfl hL1 rfl hL2 rfl) rfl ⟨rfl, HB2.out⟩
  | false =>
    have hc1 := hc rfl
    clear hc
    have oA := HA1.out
    have A2 := oA.at 2 _ rfl
    have Al := oA.lt
    clear oA
    go_upto_region 5 with fail
    clear A2 Al
    have oP := HP1.out
    have P0 := oP.at 0 _ rfl
    have Pf0 := oP.ok 0 (by simp)
    have P1 := oP.at 1 _ rfl
    have Pf1 := oP.ok 1 (by simp)
    have P2 := oP.at 2 _ rfl
    have Pf2 := oP.ok 2 (by simp)
    have P3 := oP.at 3 _ rfl
    have Pf3 := oP.ok 3 (by simp)
    have P4 := oP.at 4 _ rfl
    have Pf4 := oP.ok 4 (by simp)
    have P5 := oP.at 5 _ rfl
    have Pf5 := oP.ok 5 (by simp)
    have P6 := oP.at 6 _ rfl
    have Pf6 := oP.ok 6 (by simp)
    have P7 := oP.at 7 _ rfl
    have Pf7 := oP.ok 7 (by simp)
    have P8 := oP.at 8 _ rfl
    have Pf8 := oP.ok 8 (by simp)
    have Pl := oP.lt
    clear oP
    have oX := HX1.out
    have X0 := oX.at 0 _ rfl
    have Xf0 := oX.ok 0 (by simp)
    have X1 := oX.at 1 _ rfl
    have Xf1 := oX.ok 1 (by simp)
    have X2 := oX.at 2 _ rfl
    have Xf2 := oX.ok 2 (by simp)
    have X3 := oX.at 3 _ rfl
    have Xf3 := oX.ok 3 (by simp)
    have X4 := oX.at 4 _ rfl
    have Xf4 := oX.ok 4 (by simp)
    have X5 := oX.at 5 _ rfl
    have Xf5 := oX.ok 5 (by simp)
    have Xl := oX.lt
    clear oX
    go_region_held3 (fun w' => w' = w1.drew) (first | rfl | assumption) (fail)
    clear P0 Pf0 P1 Pf1 P2 Pf2 P3 Pf3 P4 Pf4 P5 Pf5 P6 Pf6 P7 Pf7 P8 Pf8 Pl X0 Xf0 X1 Xf1 X2 Xf2 X3 Xf3 X4 Xf4 X5 Xf5 Xl
    have HP2 := Lib.hid (HP1.out.drew); have HX2 := Lib.hid (HX1.out.drew); have HB2 := Lib.hid (HB1.out.drew)
    generalize w1.drew = w2 at *
    go_wp2_with (fail)
    have hL1 := run_loadVar_mid (P := Try.prog) _ P 0 47 [.int .i64 0, .int .i64 0, .int .i64 0, .int .i64 0, .int .i64 0, .int .i64 0, .int .i64 0, .int .i64 0, .int .i64 0] _ HP2.out.cell Try.underlying47 rfl (by kernel_rfl)
    have hL2 := run_loadVar_mid (P := Try.prog) _ X 0 49 [.int .i64 0, .int .i64 0, .int .i64 0, .int .i64 0, .int .i64 0, .int .i64 0] _ HX2.out.cell Try.underlying49 rfl (by kernel_rfl)
    exact bodyPost_ret (v := .tuple #[.agg ([.int .i64 0, .int .i64 0, .int .i64 0, .int .i64 0, .int .i64 0, .int .i64 0, .int .i64 0, .int .i64 0, .int .i64 0] : List Value).toArray, .agg ([.int .i64 0, .int .i64 0, .int .i64 0, .int .i64 0, .int .i64 0, .int .i64 0] : List Value).toArray, .int .i64 2]) (res_three Try.results18 rfl hL1 rfl hL2 rfl) rfl ⟨rfl, HB2.out⟩
set_option maxHeartbeats 16000000 in
theorem Corners_yes (M : Msh) (t : Nat) (w : World) (hM : MeshAt M w) (hz : chkM M = 0) (ht : t < M.nt) : Calls Try.prog 18 #[(.agg #[.slice M.qv M.nv M.cv, .slice M.qu M.nu M.cu, .slice M.qt M.nt M.ct]), .int .i64 t] w fun e w' => e = .returned (.tuple #[(.agg #[.int .i64 (M.V ((M.R (t * 3)).toNat * 3)), .int .i64 (M.V ((M.R (t * 3)).toNat * 3 + 1)), .int .i64 (M.V ((M.R (t * 3)).toNat * 3 + 2)), .int .i64 (M.V ((M.R (t * 3 + 1)).toNat * 3)), .int .i64 (M.V ((M.R (t * 3 + 1)).toNat * 3 + 1)), .int .i64 (M.V ((M.R (t * 3 + 1)).toNat * 3 + 2)), .int .i64 (M.V ((M.R (t * 3 + 2)).toNat * 3)), .int .i64 (M.V ((M.R (t * 3 + 2)).toNat * 3 + 1)), .int .i64 (M.V ((M.R (t * 3 + 2)).toNat * 3 + 2))]), (.agg #[.int .i64 (M.U ((M.R (t * 3)).toNat * 2)), .int .i64 (M.U ((M.R (t * 3)).toNat * 2 + 1)), .int .i64 (M.U ((M.R (t * 3 + 1)).toNat * 2)), .int .i64 (M.U ((M.R (t * 3 + 1)).toNat * 2 + 1)), .int .i64 (M.U ((M.R (t * 3 + 2)).toNat * 2)), .int .i64 (M.U ((M.R (t * 3 + 2)).toNat * 2 + 1))]), .int .i64 0]) ∧ Below w.heap.size w w' := by
  have HZ := Lib.hid hz
  have HM := Lib.hid hM
  have CK := Lib.hid (Check_any M)
  have GD := Lib.hid (chk_good (show chkF M.nv M.nu M.nt M.V M.U M.R = 0 from hz))
  obtain ⟨qv, nv, cv, V, qu, nu, cu, U, qt, nt, ct, R⟩ := M
  dsimp only at *
  have HT := Lib.hid ht
  have d1 : decide ((t : Int) < 0) = false := decide_eq_false (by omega)
  have d2 : decide ((nt : Int) ≤ (t : Int)) = false := decide_eq_false (by omega)
  obtain ⟨D3, o3, eqt, hD3, t0, t1, t2⟩ := hM.t.at3 ht
  have b0 := GD.out.t (t * 3) (by omega); have b1 := GD.out.t (t * 3 + 1) (by omega); have b2 := GD.out.t (t * 3 + 2) (by omega)
  dsimp only at *
  obtain ⟨j0, e0⟩ : ∃ j, (R (t * 3)).toNat = j := ⟨_, rfl⟩
  obtain ⟨j1, e1⟩ : ∃ j, (R (t * 3 + 1)).toNat = j := ⟨_, rfl⟩
  obtain ⟨j2, e2⟩ : ∃ j, (R (t * 3 + 2)).toNat = j := ⟨_, rfl⟩
  rw [e0, e1, e2]
  have l0 : j0 < nv := by omega
  have l1 : j1 < nv := by omega
  have l2 : j2 < nv := by omega
  have un : nu = nv := GD.out.hu
  obtain ⟨DV, oV, eqv, hDV, _⟩ := hM.v.at3 l0
  obtain ⟨DU, oU, equ, hDU, _⟩ := hM.u.at2 (show j0 < nu by omega)
  dsimp only at *
  subst eqv equ eqt
  have HX3 := Lib.hid (show Has D3 (o3 + t * 3) [.int .i64 (j0 : Int), .int .i64 (j1 : Int), .int .i64 (j2 : Int)] w from ⟨hD3, fun j v hj => by
    match j, hj with
    | 0, hj => cases hj; rw [show (j0 : Int) = R (t * 3) by omega]; exact t0
    | 1, hj => cases hj; rw [show (j1 : Int) = R (t * 3 + 1) by omega]; exact t1
    | 2, hj => cases hj; rw [show (j2 : Int) = R (t * 3 + 2) by omega]; exact t2⟩)
  have HV0 := Lib.hid (show Has DV (oV + j0 * 3) [.int .i64 (V (j0 * 3)), .int .i64 (V (j0 * 3 + 1)), .int .i64 (V (j0 * 3 + 2))] w by
    obtain ⟨D, o, eq, hD, c0, c1, c2⟩ := hM.v.at3 l0
    cases eq
    exact ⟨hD, fun j v hj => by
      match j, hj with
      | 0, hj => cases hj; exact c0
      | 1, hj => cases hj; exact c1
      | 2, hj => cases hj; exact c2⟩)
  have HU0 := Lib.hid (show Has DU (oU + j0 * 2) [.int .i64 (U (j0 * 2)), .int .i64 (U (j0 * 2 + 1))] w by
    obtain ⟨D, o, eq, hD, c0, c1⟩ := hM.u.at2 (show j0 < nu by omega)
    cases eq
    exact ⟨hD, fun j v hj => by
      match j, hj with
      | 0, hj => cases hj; exact c0
      | 1, hj => cases hj; exact c1⟩)
  have HV1 := Lib.hid (show Has DV (oV + j1 * 3) [.int .i64 (V (j1 * 3)), .int .i64 (V (j1 * 3 + 1)), .int .i64 (V (j1 * 3 + 2))] w by
    obtain ⟨D, o, eq, hD, c0, c1, c2⟩ := hM.v.at3 l1
    cases eq
    exact ⟨hD, fun j v hj => by
      match j, hj with
      | 0, hj => cases hj; exact c0
      | 1, hj => cases hj; exact c1
      | 2, hj => cases hj; exact c2⟩)
  have HU1 := Lib.hid (show Has DU (oU + j1 * 2) [.int .i64 (U (j1 * 2)), .int .i64 (U (j1 * 2 + 1))] w by
    obtain ⟨D, o, eq, hD, c0, c1⟩ := hM.u.at2 (show j1 < nu by omega)
    cases eq
    exact ⟨hD, fun j v hj => by
      match j, hj with
      | 0, hj => cases hj; exact c0
      | 1, hj => cases hj; exact c1⟩)
  have HV2 := Lib.hid (show Has DV (oV + j2 * 3) [.int .i64 (V (j2 * 3)), .int .i64 (V (j2 * 3 + 1)), .int .i64 (V (j2 * 3 + 2))] w by
    obtain ⟨D, o, eq, hD, c0, c1, c2⟩ := hM.v.at3 l2
    cases eq
    exact ⟨hD, fun j v hj => by
      match j, hj with
      | 0, hj => cases hj; exact c0
      | 1, hj => cases hj; exact c1
      | 2, hj => cases hj; exact c2⟩)
  have HU2 := Lib.hid (show Has DU (oU + j2 * 2) [.int .i64 (U (j2 * 2)), .int .i64 (U (j2 * 2 + 1))] w by
    obtain ⟨D, o, eq, hD, c0, c1⟩ := hM.u.at2 (show j2 < nu by omega)
    cases eq
    exact ⟨hD, fun j v hj => by
      match j, hj with
      | 0, hj => cases hj; exact c0
      | 1, hj => cases hj; exact c1⟩)
  have x0 : (0 : Int) ≤ (t : Int) := by omega
  have x1 : (t : Int) < (nt : Int) := by omega
  have p0 : (0 : Int) ≤ (j0 : Int) := by omega
  have q0 : (j0 : Int) < (nv : Int) := by omega
  have r0 : (j0 : Int) < (nu : Int) := by omega
  have p1 : (0 : Int) ≤ (j1 : Int) := by omega
  have q1 : (j1 : Int) < (nv : Int) := by omega
  have r1 : (j1 : Int) < (nu : Int) := by omega
  have p2 : (0 : Int) ≤ (j2 : Int) := by omega
  have q2 : (j2 : Int) < (nv : Int) := by omega
  have r2 : (j2 : Int) < (nu : Int) := by omega
  clear e0 e1 e2 b0 b1 b2 l0 l1 l2 un t0 t1 t2 hD3 hDV hDU GD HT hM hz ht
  go_enter Try.func18, Try.ntmps18
  go_upto_region 1 with fail
  obtain ⟨W0, hW⟩ : ∃ W0, W0 = (((w.alloc (.cells #[.slice (some ⟨DV, oV, none⟩) nv cv, .slice (some ⟨DU, oU, none⟩) nu cu, .slice (some ⟨D3, o3, none⟩) nt ct] 26)).alloc (.cells #[.int .i64 0, .int .i64 0, .int .i64 0, .int .i64 0, .int .i64 0, .int .i64 0, .int .i64 0, .int .i64 0, .int .i64 0] 47)).alloc (.cells #[.int .i64 0, .int .i64 0, .int .i64 0, .int .i64 0, .int .i64 0, .int .i64 0] 49)) := ⟨_, rfl⟩
  have hB0 : Below w.heap.size w W0 := hW ▸ (Below.al (Below.al (Below.al (Below.refl _ _))))
  have HA : Hid (Own w.heap.size [.slice (some ⟨DV, oV, none⟩) nv cv, .slice (some ⟨DU, oU, none⟩) nu cu, .slice (some ⟨D3, o3, none⟩) nt ct] W0) := Lib.hid (hW ▸ (Own.newAt (by simp)).alloc.alloc)
  have HP : Hid (Own (w.heap.size + 1) [.int .i64 0, .int .i64 0, .int .i64 0, .int .i64 0, .int .i64 0, .int .i64 0, .int .i64 0, .int .i64 0, .int .i64 0] W0) := Lib.hid (hW ▸ (Own.newAt (by simp)).alloc)
  have HX : Hid (Own ((w.heap.size + 1) + 1) [.int .i64 0, .int .i64 0, .int .i64 0, .int .i64 0, .int .i64 0, .int .i64 0] W0) := Lib.hid (hW ▸ (Own.newAt (by simp)))
  rw [← hW]
  clear hW
  obtain ⟨X, eX⟩ : ∃ X, X = ((w.heap.size + 1) + 1) := ⟨_, rfl⟩
  rw [← eX] at HX ⊢
  have Xw : w.heap.size ≤ X := by omega
  obtain ⟨P, eP⟩ : ∃ X, X = (w.heap.size + 1) := ⟨_, rfl⟩
  rw [← eP] at HP ⊢
  have Pw : w.heap.size ≤ P := by omega
  obtain ⟨A, eA⟩ : ∃ X, X = w.heap.size := ⟨_, rfl⟩
  rw [← eA] at HA ⊢
  have Aw : w.heap.size ≤ A := by omega
  have nAP : A ≠ P := by omega
  have nPA : P ≠ A := by omega
  have nAX : A ≠ X := by omega
  have nXA : X ≠ A := by omega
  have nPX : P ≠ X := by omega
  have nXP : X ≠ P := by omega
  clear eA eP eX
  have HM0 := Lib.hid (HM.out.later hB0)
  clear HM
  have oA := HA.out
  have A0 := oA.at 0 _ rfl
  have A1 := oA.at 1 _ rfl
  have A2 := oA.at 2 _ rfl
  have Al := oA.lt
  clear oA
  go_wp2_with (fail)
  go_at_call 11
  refine (CK.out _ HM0.out).mono ?_
  rintro e w1 ⟨rfl, hb⟩
  have HA1 := Lib.hid (HA.out.later hb); have HP1 := Lib.hid (HP.out.later hb); have HX1 := Lib.hid (HX.out.later hb); have HM1 := Lib.hid (HM0.out.later hb); have HB1 := Lib.hid (Below.go hB0 hb)
  clear hb hB0 HM0 HA HP HX A0 A1 A2 Al
  rw [HZ.out]
  have T3 := HX3.out.below HB1.out HX3.out.lt
  have t0 : w1.cell? ⟨D3, o3 + t * 3, none⟩ = some (.int .i64 (j0 : Int)) := T3.at 0 _ rfl
  have t1 : w1.cell? ⟨D3, o3 + t * 3 + 1, none⟩ = some (.int .i64 (j1 : Int)) := T3.at 1 _ rfl
  have t2 : w1.cell? ⟨D3, o3 + t * 3 + 2, none⟩ = some (.int .i64 (j2 : Int)) := T3.at 2 _ rfl
  have Tl := T3.lt
  clear CK T3
  have oA := HA1.out
  have A0 := oA.at 0 _ rfl
  have A1 := oA.at 1 _ rfl
  have A2 := oA.at 2 _ rfl
  have Al := oA.lt
  clear oA
  go_wp2_with (fail)
  clear t0 t1 t2 Tl A0 A1 A2 Al HX3
  refine wp_loop_rounds 4 ?_
  rw [rounds_succ]
  go_upto_region 9 with fail
  have HPd := Lib.hid HP1.out.drew; have HXd := Lib.hid HX1.out.drew; have HAd := Lib.hid HA1.out.drew; have HBd := Lib.hid HB1.out.drew
  have hbp : But P w1.drew (w1.drew.setCells P 0 [.int .i64 (V (j0 * 3)), .int .i64 (V (j0 * 3 + 1)), .int .i64 (V (j0 * 3 + 2))]) := But.store
  have HPs : Hid (Own P [.int .i64 (V (j0 * 3)), .int .i64 (V (j0 * 3 + 1)), .int .i64 (V (j0 * 3 + 2)), .int .i64 0, .int .i64 0, .int .i64 0, .int .i64 0, .int .i64 0, .int .i64 0] (w1.drew.setCells P 0 [.int .i64 (V (j0 * 3)), .int .i64 (V (j0 * 3 + 1)), .int .i64 (V (j0 * 3 + 2))])) := Lib.hid (show Own P (over _ 0 [.int .i64 (V (j0 * 3)), .int .i64 (V (j0 * 3 + 1)), .int .i64 (V (j0 * 3 + 2))]) _ from Own.part HPd.out (by simp))
  have HXs := Lib.hid (HXd.out.but hbp nXP); have HAs := Lib.hid (HAd.out.but hbp nAP)
  have HBs : Hid (Below w.heap.size w (w1.drew.setCells P 0 [.int .i64 (V (j0 * 3)), .int .i64 (V (j0 * 3 + 1)), .int .i64 (V (j0 * 3 + 2))])) := Lib.hid (Below.setCells HBd.out Pw _ _)
  have hbx : But X (w1.drew.setCells P 0 [.int .i64 (V (j0 * 3)), .int .i64 (V (j0 * 3 + 1)), .int .i64 (V (j0 * 3 + 2))]) ((w1.drew.setCells P 0 [.int .i64 (V (j0 * 3)), .int .i64 (V (j0 * 3 + 1)), .int .i64 (V (j0 * 3 + 2))]).setCells X 0 [.int .i64 (U (j0 * 2)), .int .i64 (U (j0 * 2 + 1))]) := But.store
  have HPu := Lib.hid (HPs.out.but hbx nPX)
  have HXu : Hid (Own X [.int .i64 (U (j0 * 2)), .int .i64 (U (j0 * 2 + 1)), .int .i64 0, .int .i64 0, .int .i64 0, .int .i64 0] ((w1.drew.setCells P 0 [.int .i64 (V (j0 * 3)), .int .i64 (V (j0 * 3 + 1)), .int .i64 (V (j0 * 3 + 2))]).setCells X 0 [.int .i64 (U (j0 * 2)), .int .i64 (U (j0 * 2 + 1))])) := Lib.hid (show Own X (over _ 0 [.int .i64 (U (j0 * 2)), .int .i64 (U (j0 * 2 + 1))]) _ from Own.part HXs.out (by simp))
  have HAu := Lib.hid (HAs.out.but hbx nAX)
  have HBu : Hid (Below w.heap.size w ((w1.drew.setCells P 0 [.int .i64 (V (j0 * 3)), .int .i64 (V (j0 * 3 + 1)), .int .i64 (V (j0 * 3 + 2))]).setCells X 0 [.int .i64 (U (j0 * 2)), .int .i64 (U (j0 * 2 + 1))])) := Lib.hid (Below.setCells HBs.out Xw _ _)
  have S0 : Hid (w1.drew.cell? ⟨A, 0, none⟩ = some (.slice (some ⟨DV, oV, none⟩) nv cv) ∧ w1.drew.cell? ⟨A, 1, none⟩ = some (.slice (some ⟨DU, oU, none⟩) nu cu) ∧ w1.drew.cell? ⟨DV, oV + j0 * 3, none⟩ = some (.int .i64 (V (j0 * 3))) ∧ w1.drew.cell? ⟨DV, oV + j0 * 3 + 1, none⟩ = some (.int .i64 (V (j0 * 3 + 1))) ∧ w1.drew.cell? ⟨DV, oV + j0 * 3 + 2, none⟩ = some (.int .i64 (V (j0 * 3 + 2))) ∧ w1.drew.cell? ⟨DU, oU + j0 * 2, none⟩ = some (.int .i64 (U (j0 * 2))) ∧ w1.drew.cell? ⟨DU, oU + j0 * 2 + 1, none⟩ = some (.int .i64 (U (j0 * 2 + 1))) ∧ A < w1.drew.heap.size ∧ DV < w1.drew.heap.size ∧ DU < w1.drew.heap.size) := Lib.hid ⟨HAd.out.at 0 _ rfl, HAd.out.at 1 _ rfl, (HV0.out.below HBd.out HV0.out.lt).at 0 _ rfl, (HV0.out.below HBd.out HV0.out.lt).at 1 _ rfl, (HV0.out.below HBd.out HV0.out.lt).at 2 _ rfl, (HU0.out.below HBd.out HU0.out.lt).at 0 _ rfl, (HU0.out.below HBd.out HU0.out.lt).at 1 _ rfl, HAd.out.lt, (HV0.out.below HBd.out HV0.out.lt).lt, (HU0.out.below HBd.out HU0.out.lt).lt⟩
  have S1 : Hid ((w1.drew.setCells P 0 [.int .i64 (V (j0 * 3)), .int .i64 (V (j0 * 3 + 1)), .int .i64 (V (j0 * 3 + 2))]).cell? ⟨A, 0, none⟩ = some (.slice (some ⟨DV, oV, none⟩) nv cv) ∧ (w1.drew.setCells P 0 [.int .i64 (V (j0 * 3)), .int .i64 (V (j0 * 3 + 1)), .int .i64 (V (j0 * 3 + 2))]).cell? ⟨A, 1, none⟩ = some (.slice (some ⟨DU, oU, none⟩) nu cu) ∧ (w1.drew.setCells P 0 [.int .i64 (V (j0 * 3)), .int .i64 (V (j0 * 3 + 1)), .int .i64 (V (j0 * 3 + 2))]).cell? ⟨DV, oV + j0 * 3, none⟩ = some (.int .i64 (V (j0 * 3))) ∧ (w1.drew.setCells P 0 [.int .i64 (V (j0 * 3)), .int .i64 (V (j0 * 3 + 1)), .int .i64 (V (j0 * 3 + 2))]).cell? ⟨DV, oV + j0 * 3 + 1, none⟩ = some (.int .i64 (V (j0 * 3 + 1))) ∧ (w1.drew.setCells P 0 [.int .i64 (V (j0 * 3)), .int .i64 (V (j0 * 3 + 1)), .int .i64 (V (j0 * 3 + 2))]).cell? ⟨DV, oV + j0 * 3 + 2, none⟩ = some (.int .i64 (V (j0 * 3 + 2))) ∧ (w1.drew.setCells P 0 [.int .i64 (V (j0 * 3)), .int .i64 (V (j0 * 3 + 1)), .int .i64 (V (j0 * 3 + 2))]).cell? ⟨DU, oU + j0 * 2, none⟩ = some (.int .i64 (U (j0 * 2))) ∧ (w1.drew.setCells P 0 [.int .i64 (V (j0 * 3)), .int .i64 (V (j0 * 3 + 1)), .int .i64 (V (j0 * 3 + 2))]).cell? ⟨DU, oU + j0 * 2 + 1, none⟩ = some (.int .i64 (U (j0 * 2 + 1))) ∧ A < (w1.drew.setCells P 0 [.int .i64 (V (j0 * 3)), .int .i64 (V (j0 * 3 + 1)), .int .i64 (V (j0 * 3 + 2))]).heap.size ∧ DV < (w1.drew.setCells P 0 [.int .i64 (V (j0 * 3)), .int .i64 (V (j0 * 3 + 1)), .int .i64 (V (j0 * 3 + 2))]).heap.size ∧ DU < (w1.drew.setCells P 0 [.int .i64 (V (j0 * 3)), .int .i64 (V (j0 * 3 + 1)), .int .i64 (V (j0 * 3 + 2))]).heap.size) := Lib.hid ⟨HAs.out.at 0 _ rfl, HAs.out.at 1 _ rfl, (HV0.out.below HBs.out HV0.out.lt).at 0 _ rfl, (HV0.out.below HBs.out HV0.out.lt).at 1 _ rfl, (HV0.out.below HBs.out HV0.out.lt).at 2 _ rfl, (HU0.out.below HBs.out HU0.out.lt).at 0 _ rfl, (HU0.out.below HBs.out HU0.out.lt).at 1 _ rfl, HAs.out.lt, (HV0.out.below HBs.out HV0.out.lt).lt, (HU0.out.below HBs.out HU0.out.lt).lt⟩
  have S2 : Hid (((w1.drew.setCells P 0 [.int .i64 (V (j0 * 3)), .int .i64 (V (j0 * 3 + 1)), .int .i64 (V (j0 * 3 + 2))]).setCells X 0 [.int .i64 (U (j0 * 2)), .int .i64 (U (j0 * 2 + 1))]).cell? ⟨A, 0, none⟩ = some (.slice (some ⟨DV, oV, none⟩) nv cv) ∧ ((w1.drew.setCells P 0 [.int .i64 (V (j0 * 3)), .int .i64 (V (j0 * 3 + 1)), .int .i64 (V (j0 * 3 + 2))]).setCells X 0 [.int .i64 (U (j0 * 2)), .int .i64 (U (j0 * 2 + 1))]).cell? ⟨A, 1, none⟩ = some (.slice (some ⟨DU, oU, none⟩) nu cu) ∧ ((w1.drew.setCells P 0 [.int .i64 (V (j0 * 3)), .int .i64 (V (j0 * 3 + 1)), .int .i64 (V (j0 * 3 + 2))]).setCells X 0 [.int .i64 (U (j0 * 2)), .int .i64 (U (j0 * 2 + 1))]).cell? ⟨DV, oV + j0 * 3, none⟩ = some (.int .i64 (V (j0 * 3))) ∧ ((w1.drew.setCells P 0 [.int .i64 (V (j0 * 3)), .int .i64 (V (j0 * 3 + 1)), .int .i64 (V (j0 * 3 + 2))]).setCells X 0 [.int .i64 (U (j0 * 2)), .int .i64 (U (j0 * 2 + 1))]).cell? ⟨DV, oV + j0 * 3 + 1, none⟩ = some (.int .i64 (V (j0 * 3 + 1))) ∧ ((w1.drew.setCells P 0 [.int .i64 (V (j0 * 3)), .int .i64 (V (j0 * 3 + 1)), .int .i64 (V (j0 * 3 + 2))]).setCells X 0 [.int .i64 (U (j0 * 2)), .int .i64 (U (j0 * 2 + 1))]).cell? ⟨DV, oV + j0 * 3 + 2, none⟩ = some (.int .i64 (V (j0 * 3 + 2))) ∧ ((w1.drew.setCells P 0 [.int .i64 (V (j0 * 3)), .int .i64 (V (j0 * 3 + 1)), .int .i64 (V (j0 * 3 + 2))]).setCells X 0 [.int .i64 (U (j0 * 2)), .int .i64 (U (j0 * 2 + 1))]).cell? ⟨DU, oU + j0 * 2, none⟩ = some (.int .i64 (U (j0 * 2))) ∧ ((w1.drew.setCells P 0 [.int .i64 (V (j0 * 3)), .int .i64 (V (j0 * 3 + 1)), .int .i64 (V (j0 * 3 + 2))]).setCells X 0 [.int .i64 (U (j0 * 2)), .int .i64 (U (j0 * 2 + 1))]).cell? ⟨DU, oU + j0 * 2 + 1, none⟩ = some (.int .i64 (U (j0 * 2 + 1))) ∧ A < ((w1.drew.setCells P 0 [.int .i64 (V (j0 * 3)), .int .i64 (V (j0 * 3 + 1)), .int .i64 (V (j0 * 3 + 2))]).setCells X 0 [.int .i64 (U (j0 * 2)), .int .i64 (U (j0 * 2 + 1))]).heap.size ∧ DV < ((w1.drew.setCells P 0 [.int .i64 (V (j0 * 3)), .int .i64 (V (j0 * 3 + 1)), .int .i64 (V (j0 * 3 + 2))]).setCells X 0 [.int .i64 (U (j0 * 2)), .int .i64 (U (j0 * 2 + 1))]).heap.size ∧ DU < ((w1.drew.setCells P 0 [.int .i64 (V (j0 * 3)), .int .i64 (V (j0 * 3 + 1)), .int .i64 (V (j0 * 3 + 2))]).setCells X 0 [.int .i64 (U (j0 * 2)), .int .i64 (U (j0 * 2 + 1))]).heap.size) := Lib.hid ⟨HAu.out.at 0 _ rfl, HAu.out.at 1 _ rfl, (HV0.out.below HBu.out HV0.out.lt).at 0 _ rfl, (HV0.out.below HBu.out HV0.out.lt).at 1 _ rfl, (HV0.out.below HBu.out HV0.out.lt).at 2 _ rfl, (HU0.out.below HBu.out HU0.out.lt).at 0 _ rfl, (HU0.out.below HBu.out HU0.out.lt).at 1 _ rfl, HAu.out.lt, (HV0.out.below HBu.out HV0.out.lt).lt, (HU0.out.below HBu.out HU0.out.lt).lt⟩
  clear HP1 HX1 HA1 HB1 HAd HBd HAs HBs hbp hbx
  refine wp_region_held_drew (S := fun w' => (w'.cell? ⟨A, 0, none⟩ = some (.slice (some ⟨DV, oV, none⟩) nv cv) ∧ w'.cell? ⟨A, 1, none⟩ = some (.slice (some ⟨DU, oU, none⟩) nu cu) ∧ w'.cell? ⟨DV, oV + j0 * 3, none⟩ = some (.int .i64 (V (j0 * 3))) ∧ w'.cell? ⟨DV, oV + j0 * 3 + 1, none⟩ = some (.int .i64 (V (j0 * 3 + 1))) ∧ w'.cell? ⟨DV, oV + j0 * 3 + 2, none⟩ = some (.int .i64 (V (j0 * 3 + 2))) ∧ w'.cell? ⟨DU, oU + j0 * 2, none⟩ = some (.int .i64 (U (j0 * 2))) ∧ w'.cell? ⟨DU, oU + j0 * 2 + 1, none⟩ = some (.int .i64 (U (j0 * 2 + 1))) ∧ A < w'.heap.size ∧ DV < w'.heap.size ∧ DU < w'.heap.size)) (by kernel_rfl) S0.out (fun hHeld => ?_)
  refine wpAnyH_take (i := 0) (v := .int .i64 0) rfl (by kernel_rfl) (by kernel_rfl) (by kernel_rfl) (fun _ _ _ h => h) (Or.inl ⟨by rfl, fun w hSw => ?_⟩) (by assumption) ?_
  · (try dsimp only at hSw); go_simp
  try simp only [Act.put, List.getElem_toArray, List.getElem_cons_zero, List.getElem_cons_succ, List.setIfInBounds_toArray, List.set_cons_zero, List.set_cons_succ]
  refine wpAnyH_take (i := 1) (v := .int .i64 0) rfl (by kernel_rfl) (by kernel_rfl) (by kernel_rfl) (fun _ _ _ h => h) (Or.inl ⟨by rfl, fun w hSw => ?_⟩) (by assumption) ?_
  · (try dsimp only at hSw); go_simp
  try simp only [Act.put, List.getElem_toArray, List.getElem_cons_zero, List.getElem_cons_succ, List.setIfInBounds_toArray, List.set_cons_zero, List.set_cons_succ]
  refine wpAnyH_take (i := 2) (v := .pointer (some ⟨A, 0, none⟩)) rfl (by kernel_rfl) (by kernel_rfl) (by kernel_rfl) (fun _ _ _ h => h) (Or.inl ⟨by rfl, fun w hSw => ?_⟩) (by assumption) ?_
  · (try dsimp only at hSw); go_simp
  try simp only [Act.put, List.getElem_toArray, List.getElem_cons_zero, List.getElem_cons_succ, List.setIfInBounds_toArray, List.set_cons_zero, List.set_cons_succ]
  refine wpAnyH_take (i := 3) (v := .slice (some ⟨DV, oV, none⟩) nv cv) rfl (by kernel_rfl) (by kernel_rfl) (by kernel_rfl) (fun _ _ _ h => h) (Or.inl ⟨by rfl, fun w hSw => ?_⟩) (by assumption) ?_
  · (try dsimp only at hSw); go_simp
  try simp only [Act.put, List.getElem_toArray, List.getElem_cons_zero, List.getElem_cons_succ, List.setIfInBounds_toArray, List.set_cons_zero, List.set_cons_succ]
  refine wpAnyH_take (i := 4) (v := .int .i64 (j0 : Int)) rfl (by kernel_rfl) (by kernel_rfl) (by kernel_rfl) (fun _ _ _ h => h) (Or.inl ⟨by rfl, fun w hSw => ?_⟩) (by assumption) ?_
  · (try dsimp only at hSw); go_simp
  try simp only [Act.put, List.getElem_toArray, List.getElem_cons_zero, List.getElem_cons_succ, List.setIfInBounds_toArray, List.set_cons_zero, List.set_cons_succ]
  refine wpAnyH_take (i := 5) (v := .pointer (some ⟨DV, oV + j0 * 3, none⟩)) rfl (by kernel_rfl) (by kernel_rfl) (by kernel_rfl) (fun _ _ _ h => h) (Or.inl ⟨by rfl, fun w hSw => ?_⟩) (by assumption) ?_
  · (try dsimp only at hSw); go_simp
  try simp only [Act.put, List.getElem_toArray, List.getElem_cons_zero, List.getElem_cons_succ, List.setIfInBounds_toArray, List.set_cons_zero, List.set_cons_succ]
  refine wpAnyH_take (i := 6) (v := (.agg #[.int .i64 (V (j0 * 3)), .int .i64 (V (j0 * 3 + 1)), .int .i64 (V (j0 * 3 + 2))])) rfl (by kernel_rfl) (by kernel_rfl) (by kernel_rfl) (fun _ _ _ h => h) (Or.inl ⟨by rfl, fun w hSw => ?_⟩) (by assumption) ?_
  · (try dsimp only at hSw); go_simp
  try simp only [Act.put, List.getElem_toArray, List.getElem_cons_zero, List.getElem_cons_succ, List.setIfInBounds_toArray, List.set_cons_zero, List.set_cons_succ]
  refine wpAnyH_take (i := 7) (v := .pointer (some ⟨A, 1, none⟩)) rfl (by kernel_rfl) (by kernel_rfl) (by kernel_rfl) (fun _ _ _ h => h) (Or.inl ⟨by rfl, fun w hSw => ?_⟩) (by assumption) ?_
  · (try dsimp only at hSw); go_simp
  try simp only [Act.put, List.getElem_toArray, List.getElem_cons_zero, List.getElem_cons_succ, List.setIfInBounds_toArray, List.set_cons_zero, List.set_cons_succ]
  refine wpAnyH_take (i := 8) (v := .slice (some ⟨DU, oU, none⟩) nu cu) rfl (by kernel_rfl) (by kernel_rfl) (by kernel_rfl) (fun _ _ _ h => h) (Or.inl ⟨by rfl, fun w hSw => ?_⟩) (by assumption) ?_
  · (try dsimp only at hSw); go_simp
  try simp only [Act.put, List.getElem_toArray, List.getElem_cons_zero, List.getElem_cons_succ, List.setIfInBounds_toArray, List.set_cons_zero, List.set_cons_succ]
  refine wpAnyH_take (i := 9) (v := .int .i64 (j0 : Int)) rfl (by kernel_rfl) (by kernel_rfl) (by kernel_rfl) (fun _ _ _ h => h) (Or.inl ⟨by rfl, fun w hSw => ?_⟩) (by assumption) ?_
  · (try dsimp only at hSw); go_simp
  try simp only [Act.put, List.getElem_toArray, List.getElem_cons_zero, List.getElem_cons_succ, List.setIfInBounds_toArray, List.set_cons_zero, List.set_cons_succ]
  refine wpAnyH_take (i := 10) (v := .pointer (some ⟨DU, oU + j0 * 2, none⟩)) rfl (by kernel_rfl) (by kernel_rfl) (by kernel_rfl) (fun _ _ _ h => h) (Or.inl ⟨by rfl, fun w hSw => ?_⟩) (by assumption) ?_
  · (try dsimp only at hSw); go_simp
  try simp only [Act.put, List.getElem_toArray, List.getElem_cons_zero, List.getElem_cons_succ, List.setIfInBounds_toArray, List.set_cons_zero, List.set_cons_succ]
  refine wpAnyH_take (i := 11) (v := (.agg #[.int .i64 (U (j0 * 2)), .int .i64 (U (j0 * 2 + 1))])) rfl (by kernel_rfl) (by kernel_rfl) (by kernel_rfl) (fun _ _ _ h => h) (Or.inl ⟨by rfl, fun w hSw => ?_⟩) (by assumption) ?_
  · (try dsimp only at hSw); go_simp
  try simp only [Act.put, List.getElem_toArray, List.getElem_cons_zero, List.getElem_cons_succ, List.setIfInBounds_toArray, List.set_cons_zero, List.set_cons_succ]
  refine wpAnyH_take (i := 12) (v := .pointer (some ⟨P, 0, none⟩)) rfl (by kernel_rfl) (by kernel_rfl) (by kernel_rfl) (fun _ _ _ h => h) (Or.inl ⟨by rfl, fun w hSw => ?_⟩) (by assumption) ?_
  · (try dsimp only at hSw); go_simp
  try simp only [Act.put, List.getElem_toArray, List.getElem_cons_zero, List.getElem_cons_succ, List.setIfInBounds_toArray, List.set_cons_zero, List.set_cons_succ]
  refine wpAnyH_ready (rs := [13]) (by kernel_rfl) (by simp) ?_
  refine AllReadyH.cons rfl (fun K hK => ?_) AllReadyH.nil
  refine step_store (by simp [Region.wanted]) 46 _ _ rfl P 0 #[.int .i64 (V (j0 * 3)), .int .i64 (V (j0 * 3 + 1)), .int .i64 (V (j0 * 3 + 2))] rfl rfl (HPd.out.room (by simp)) (by kernel_rfl) (by simp [Value.oneCell']) ?_
  refine hK.out _ _ S1.out (fun hHeld => ?_)
  clear hK K
  try simp only [Act.put, List.getElem_toArray, List.getElem_cons_zero, List.getElem_cons_succ, List.setIfInBounds_toArray, List.set_cons_zero, List.set_cons_succ]
  refine wpAnyH_take (i := 14) (v := .pointer (some ⟨X, 0, none⟩)) rfl (by kernel_rfl) (by kernel_rfl) (by kernel_rfl) (fun _ _ _ h => h) (Or.inl ⟨by rfl, fun w hSw => ?_⟩) (by assumption) ?_
  · (try dsimp only at hSw); go_simp
  try simp only [Act.put, List.getElem_toArray, List.getElem_cons_zero, List.getElem_cons_succ, List.setIfInBounds_toArray, List.set_cons_zero, List.set_cons_succ]
  refine wpAnyH_ready (rs := [15]) (by kernel_rfl) (by simp) ?_
  refine AllReadyH.cons rfl (fun K hK => ?_) AllReadyH.nil
  refine step_store (by simp [Region.wanted]) 48 _ _ rfl X 0 #[.int .i64 (U (j0 * 2)), .int .i64 (U (j0 * 2 + 1))] rfl rfl (HXs.out.room (by simp)) (by kernel_rfl) (by simp [Value.oneCell']) ?_
  refine hK.out _ _ S2.out (fun hHeld => ?_)
  clear hK K
  try simp only [Act.put, List.getElem_toArray, List.getElem_cons_zero, List.getElem_cons_succ, List.setIfInBounds_toArray, List.set_cons_zero, List.set_cons_succ]
  refine wpAnyH_done (by kernel_rfl) ?_ _
  clear S0 S1 S2 hHeld HPd HXd HPs HXs
  have HPt := HPu; have HXt := HXu; have HAt := HAu; have HBt := HBu
  clear HPu HXu HAu HBu
  generalize ((w1.drew.setCells P 0 [.int .i64 (V (j0 * 3)), .int .i64 (V (j0 * 3 + 1)), .int .i64 (V (j0 * 3 + 2))]).setCells X 0 [.int .i64 (U (j0 * 2)), .int .i64 (U (j0 * 2 + 1))]) = y1 at *
  go_wp2_with (fail)
  rw [rounds_succ]
  go_upto_region 9 with fail
  have HPd := Lib.hid HPt.out.drew; have HXd := Lib.hid HXt.out.drew; have HAd := Lib.hid HAt.out.drew; have HBd := Lib.hid HBt.out.drew
  have hbp : But P y1.drew (y1.drew.setCells P 3 [.int .i64 (V (j1 * 3)), .int .i64 (V (j1 * 3 + 1)), .int .i64 (V (j1 * 3 + 2))]) := But.store
  have HPs : Hid (Own P [.int .i64 (V (j0 * 3)), .int .i64 (V (j0 * 3 + 1)), .int .i64 (V (j0 * 3 + 2)), .int .i64 (V (j1 * 3)), .int .i64 (V (j1 * 3 + 1)), .int .i64 (V (j1 * 3 + 2)), .int .i64 0, .int .i64 0, .int .i64 0] (y1.drew.setCells P 3 [.int .i64 (V (j1 * 3)), .int .i64 (V (j1 * 3 + 1)), .int .i64 (V (j1 * 3 + 2))])) := Lib.hid (show Own P (over _ 3 [.int .i64 (V (j1 * 3)), .int .i64 (V (j1 * 3 + 1)), .int .i64 (V (j1 * 3 + 2))]) _ from Own.part HPd.out (by simp))
  have HXs := Lib.hid (HXd.out.but hbp nXP); have HAs := Lib.hid (HAd.out.but hbp nAP)
  have HBs : Hid (Below w.heap.size w (y1.drew.setCells P 3 [.int .i64 (V (j1 * 3)), .int .i64 (V (j1 * 3 + 1)), .int .i64 (V (j1 * 3 + 2))])) := Lib.hid (Below.setCells HBd.out Pw _ _)
  have hbx : But X (y1.drew.setCells P 3 [.int .i64 (V (j1 * 3)), .int .i64 (V (j1 * 3 + 1)), .int .i64 (V (j1 * 3 + 2))]) ((y1.drew.setCells P 3 [.int .i64 (V (j1 * 3)), .int .i64 (V (j1 * 3 + 1)), .int .i64 (V (j1 * 3 + 2))]).setCells X 2 [.int .i64 (U (j1 * 2)), .int .i64 (U (j1 * 2 + 1))]) := But.store
  have HPu := Lib.hid (HPs.out.but hbx nPX)
  have HXu : Hid (Own X [.int .i64 (U (j0 * 2)), .int .i64 (U (j0 * 2 + 1)), .int .i64 (U (j1 * 2)), .int .i64 (U (j1 * 2 + 1)), .int .i64 0, .int .i64 0] ((y1.drew.setCells P 3 [.int .i64 (V (j1 * 3)), .int .i64 (V (j1 * 3 + 1)), .int .i64 (V (j1 * 3 + 2))]).setCells X 2 [.int .i64 (U (j1 * 2)), .int .i64 (U (j1 * 2 + 1))])) := Lib.hid (show Own X (over _ 2 [.int .i64 (U (j1 * 2)), .int .i64 (U (j1 * 2 + 1))]) _ from Own.part HXs.out (by simp))
  have HAu := Lib.hid (HAs.out.but hbx nAX)
  have HBu : Hid (Below w.heap.size w ((y1.drew.setCells P 3 [.int .i64 (V (j1 * 3)), .int .i64 (V (j1 * 3 + 1)), .int .i64 (V (j1 * 3 + 2))]).setCells X 2 [.int .i64 (U (j1 * 2)), .int .i64 (U (j1 * 2 + 1))])) := Lib.hid (Below.setCells HBs.out Xw _ _)
  have S0 : Hid (y1.drew.cell? ⟨A, 0, none⟩ = some (.slice (some ⟨DV, oV, none⟩) nv cv) ∧ y1.drew.cell? ⟨A, 1, none⟩ = some (.slice (some ⟨DU, oU, none⟩) nu cu) ∧ y1.drew.cell? ⟨DV, oV + j1 * 3, none⟩ = some (.int .i64 (V (j1 * 3))) ∧ y1.drew.cell? ⟨DV, oV + j1 * 3 + 1, none⟩ = some (.int .i64 (V (j1 * 3 + 1))) ∧ y1.drew.cell? ⟨DV, oV + j1 * 3 + 2, none⟩ = some (.int .i64 (V (j1 * 3 + 2))) ∧ y1.drew.cell? ⟨DU, oU + j1 * 2, none⟩ = some (.int .i64 (U (j1 * 2))) ∧ y1.drew.cell? ⟨DU, oU + j1 * 2 + 1, none⟩ = some (.int .i64 (U (j1 * 2 + 1))) ∧ A < y1.drew.heap.size ∧ DV < y1.drew.heap.size ∧ DU < y1.drew.heap.size) := Lib.hid ⟨HAd.out.at 0 _ rfl, HAd.out.at 1 _ rfl, (HV1.out.below HBd.out HV1.out.lt).at 0 _ rfl, (HV1.out.below HBd.out HV1.out.lt).at 1 _ rfl, (HV1.out.below HBd.out HV1.out.lt).at 2 _ rfl, (HU1.out.below HBd.out HU1.out.lt).at 0 _ rfl, (HU1.out.below HBd.out HU1.out.lt).at 1 _ rfl, HAd.out.lt, (HV1.out.below HBd.out HV1.out.lt).lt, (HU1.out.below HBd.out HU1.out.lt).lt⟩
  have S1 : Hid ((y1.drew.setCells P 3 [.int .i64 (V (j1 * 3)), .int .i64 (V (j1 * 3 + 1)), .int .i64 (V (j1 * 3 + 2))]).cell? ⟨A, 0, none⟩ = some (.slice (some ⟨DV, oV, none⟩) nv cv) ∧ (y1.drew.setCells P 3 [.int .i64 (V (j1 * 3)), .int .i64 (V (j1 * 3 + 1)), .int .i64 (V (j1 * 3 + 2))]).cell? ⟨A, 1, none⟩ = some (.slice (some ⟨DU, oU, none⟩) nu cu) ∧ (y1.drew.setCells P 3 [.int .i64 (V (j1 * 3)), .int .i64 (V (j1 * 3 + 1)), .int .i64 (V (j1 * 3 + 2))]).cell? ⟨DV, oV + j1 * 3, none⟩ = some (.int .i64 (V (j1 * 3))) ∧ (y1.drew.setCells P 3 [.int .i64 (V (j1 * 3)), .int .i64 (V (j1 * 3 + 1)), .int .i64 (V (j1 * 3 + 2))]).cell? ⟨DV, oV + j1 * 3 + 1, none⟩ = some (.int .i64 (V (j1 * 3 + 1))) ∧ (y1.drew.setCells P 3 [.int .i64 (V (j1 * 3)), .int .i64 (V (j1 * 3 + 1)), .int .i64 (V (j1 * 3 + 2))]).cell? ⟨DV, oV + j1 * 3 + 2, none⟩ = some (.int .i64 (V (j1 * 3 + 2))) ∧ (y1.drew.setCells P 3 [.int .i64 (V (j1 * 3)), .int .i64 (V (j1 * 3 + 1)), .int .i64 (V (j1 * 3 + 2))]).cell? ⟨DU, oU + j1 * 2, none⟩ = some (.int .i64 (U (j1 * 2))) ∧ (y1.drew.setCells P 3 [.int .i64 (V (j1 * 3)), .int .i64 (V (j1 * 3 + 1)), .int .i64 (V (j1 * 3 + 2))]).cell? ⟨DU, oU + j1 * 2 + 1, none⟩ = some (.int .i64 (U (j1 * 2 + 1))) ∧ A < (y1.drew.setCells P 3 [.int .i64 (V (j1 * 3)), .int .i64 (V (j1 * 3 + 1)), .int .i64 (V (j1 * 3 + 2))]).heap.size ∧ DV < (y1.drew.setCells P 3 [.int .i64 (V (j1 * 3)), .int .i64 (V (j1 * 3 + 1)), .int .i64 (V (j1 * 3 + 2))]).heap.size ∧ DU < (y1.drew.setCells P 3 [.int .i64 (V (j1 * 3)), .int .i64 (V (j1 * 3 + 1)), .int .i64 (V (j1 * 3 + 2))]).heap.size) := Lib.hid ⟨HAs.out.at 0 _ rfl, HAs.out.at 1 _ rfl, (HV1.out.below HBs.out HV1.out.lt).at 0 _ rfl, (HV1.out.below HBs.out HV1.out.lt).at 1 _ rfl, (HV1.out.below HBs.out HV1.out.lt).at 2 _ rfl, (HU1.out.below HBs.out HU1.out.lt).at 0 _ rfl, (HU1.out.below HBs.out HU1.out.lt).at 1 _ rfl, HAs.out.lt, (HV1.out.below HBs.out HV1.out.lt).lt, (HU1.out.below HBs.out HU1.out.lt).lt⟩
  have S2 : Hid (((y1.drew.setCells P 3 [.int .i64 (V (j1 * 3)), .int .i64 (V (j1 * 3 + 1)), .int .i64 (V (j1 * 3 + 2))]).setCells X 2 [.int .i64 (U (j1 * 2)), .int .i64 (U (j1 * 2 + 1))]).cell? ⟨A, 0, none⟩ = some (.slice (some ⟨DV, oV, none⟩) nv cv) ∧ ((y1.drew.setCells P 3 [.int .i64 (V (j1 * 3)), .int .i64 (V (j1 * 3 + 1)), .int .i64 (V (j1 * 3 + 2))]).setCells X 2 [.int .i64 (U (j1 * 2)), .int .i64 (U (j1 * 2 + 1))]).cell? ⟨A, 1, none⟩ = some (.slice (some ⟨DU, oU, none⟩) nu cu) ∧ ((y1.drew.setCells P 3 [.int .i64 (V (j1 * 3)), .int .i64 (V (j1 * 3 + 1)), .int .i64 (V (j1 * 3 + 2))]).setCells X 2 [.int .i64 (U (j1 * 2)), .int .i64 (U (j1 * 2 + 1))]).cell? ⟨DV, oV + j1 * 3, none⟩ = some (.int .i64 (V (j1 * 3))) ∧ ((y1.drew.setCells P 3 [.int .i64 (V (j1 * 3)), .int .i64 (V (j1 * 3 + 1)), .int .i64 (V (j1 * 3 + 2))]).setCells X 2 [.int .i64 (U (j1 * 2)), .int .i64 (U (j1 * 2 + 1))]).cell? ⟨DV, oV + j1 * 3 + 1, none⟩ = some (.int .i64 (V (j1 * 3 + 1))) ∧ ((y1.drew.setCells P 3 [.int .i64 (V (j1 * 3)), .int .i64 (V (j1 * 3 + 1)), .int .i64 (V (j1 * 3 + 2))]).setCells X 2 [.int .i64 (U (j1 * 2)), .int .i64 (U (j1 * 2 + 1))]).cell? ⟨DV, oV + j1 * 3 + 2, none⟩ = some (.int .i64 (V (j1 * 3 + 2))) ∧ ((y1.drew.setCells P 3 [.int .i64 (V (j1 * 3)), .int .i64 (V (j1 * 3 + 1)), .int .i64 (V (j1 * 3 + 2))]).setCells X 2 [.int .i64 (U (j1 * 2)), .int .i64 (U (j1 * 2 + 1))]).cell? ⟨DU, oU + j1 * 2, none⟩ = some (.int .i64 (U (j1 * 2))) ∧ ((y1.drew.setCells P 3 [.int .i64 (V (j1 * 3)), .int .i64 (V (j1 * 3 + 1)), .int .i64 (V (j1 * 3 + 2))]).setCells X 2 [.int .i64 (U (j1 * 2)), .int .i64 (U (j1 * 2 + 1))]).cell? ⟨DU, oU + j1 * 2 + 1, none⟩ = some (.int .i64 (U (j1 * 2 + 1))) ∧ A < ((y1.drew.setCells P 3 [.int .i64 (V (j1 * 3)), .int .i64 (V (j1 * 3 + 1)), .int .i64 (V (j1 * 3 + 2))]).setCells X 2 [.int .i64 (U (j1 * 2)), .int .i64 (U (j1 * 2 + 1))]).heap.size ∧ DV < ((y1.drew.setCells P 3 [.int .i64 (V (j1 * 3)), .int .i64 (V (j1 * 3 + 1)), .int .i64 (V (j1 * 3 + 2))]).setCells X 2 [.int .i64 (U (j1 * 2)), .int .i64 (U (j1 * 2 + 1))]).heap.size ∧ DU < ((y1.drew.setCells P 3 [.int .i64 (V (j1 * 3)), .int .i64 (V (j1 * 3 + 1)), .int .i64 (V (j1 * 3 + 2))]).setCells X 2 [.int .i64 (U (j1 * 2)), .int .i64 (U (j1 * 2 + 1))]).heap.size) := Lib.hid ⟨HAu.out.at 0 _ rfl, HAu.out.at 1 _ rfl, (HV1.out.below HBu.out HV1.out.lt).at 0 _ rfl, (HV1.out.below HBu.out HV1.out.lt).at 1 _ rfl, (HV1.out.below HBu.out HV1.out.lt).at 2 _ rfl, (HU1.out.below HBu.out HU1.out.lt).at 0 _ rfl, (HU1.out.below HBu.out HU1.out.lt).at 1 _ rfl, HAu.out.lt, (HV1.out.below HBu.out HV1.out.lt).lt, (HU1.out.below HBu.out HU1.out.lt).lt⟩
  clear HPt HXt HAt HBt HAd HBd HAs HBs hbp hbx
  refine wp_region_held_drew (S := fun w' => (w'.cell? ⟨A, 0, none⟩ = some (.slice (some ⟨DV, oV, none⟩) nv cv) ∧ w'.cell? ⟨A, 1, none⟩ = some (.slice (some ⟨DU, oU, none⟩) nu cu) ∧ w'.cell? ⟨DV, oV + j1 * 3, none⟩ = some (.int .i64 (V (j1 * 3))) ∧ w'.cell? ⟨DV, oV + j1 * 3 + 1, none⟩ = some (.int .i64 (V (j1 * 3 + 1))) ∧ w'.cell? ⟨DV, oV + j1 * 3 + 2, none⟩ = some (.int .i64 (V (j1 * 3 + 2))) ∧ w'.cell? ⟨DU, oU + j1 * 2, none⟩ = some (.int .i64 (U (j1 * 2))) ∧ w'.cell? ⟨DU, oU + j1 * 2 + 1, none⟩ = some (.int .i64 (U (j1 * 2 + 1))) ∧ A < w'.heap.size ∧ DV < w'.heap.size ∧ DU < w'.heap.size)) (by kernel_rfl) S0.out (fun hHeld => ?_)
  refine wpAnyH_take (i := 0) (v := .int .i64 1) rfl (by kernel_rfl) (by kernel_rfl) (by kernel_rfl) (fun _ _ _ h => h) (Or.inl ⟨by rfl, fun w hSw => ?_⟩) (by assumption) ?_
  · (try dsimp only at hSw); go_simp
  try simp only [Act.put, List.getElem_toArray, List.getElem_cons_zero, List.getElem_cons_succ, List.setIfInBounds_toArray, List.set_cons_zero, List.set_cons_succ]
  refine wpAnyH_take (i := 1) (v := .int .i64 1) rfl (by kernel_rfl) (by kernel_rfl) (by kernel_rfl) (fun _ _ _ h => h) (Or.inl ⟨by rfl, fun w hSw => ?_⟩) (by assumption) ?_
  · (try dsimp only at hSw); go_simp
  try simp only [Act.put, List.getElem_toArray, List.getElem_cons_zero, List.getElem_cons_succ, List.setIfInBounds_toArray, List.set_cons_zero, List.set_cons_succ]
  refine wpAnyH_take (i := 2) (v := .pointer (some ⟨A, 0, none⟩)) rfl (by kernel_rfl) (by kernel_rfl) (by kernel_rfl) (fun _ _ _ h => h) (Or.inl ⟨by rfl, fun w hSw => ?_⟩) (by assumption) ?_
  · (try dsimp only at hSw); go_simp
  try simp only [Act.put, List.getElem_toArray, List.getElem_cons_zero, List.getElem_cons_succ, List.setIfInBounds_toArray, List.set_cons_zero, List.set_cons_succ]
  refine wpAnyH_take (i := 3) (v := .slice (some ⟨DV, oV, none⟩) nv cv) rfl (by kernel_rfl) (by kernel_rfl) (by kernel_rfl) (fun _ _ _ h => h) (Or.inl ⟨by rfl, fun w hSw => ?_⟩) (by assumption) ?_
  · (try dsimp only at hSw); go_simp
  try simp only [Act.put, List.getElem_toArray, List.getElem_cons_zero, List.getElem_cons_succ, List.setIfInBounds_toArray, List.set_cons_zero, List.set_cons_succ]
  refine wpAnyH_take (i := 4) (v := .int .i64 (j1 : Int)) rfl (by kernel_rfl) (by kernel_rfl) (by kernel_rfl) (fun _ _ _ h => h) (Or.inl ⟨by rfl, fun w hSw => ?_⟩) (by assumption) ?_
  · (try dsimp only at hSw); go_simp
  try simp only [Act.put, List.getElem_toArray, List.getElem_cons_zero, List.getElem_cons_succ, List.setIfInBounds_toArray, List.set_cons_zero, List.set_cons_succ]
  refine wpAnyH_take (i := 5) (v := .pointer (some ⟨DV, oV + j1 * 3, none⟩)) rfl (by kernel_rfl) (by kernel_rfl) (by kernel_rfl) (fun _ _ _ h => h) (Or.inl ⟨by rfl, fun w hSw => ?_⟩) (by assumption) ?_
  · (try dsimp only at hSw); go_simp
  try simp only [Act.put, List.getElem_toArray, List.getElem_cons_zero, List.getElem_cons_succ, List.setIfInBounds_toArray, List.set_cons_zero, List.set_cons_succ]
  refine wpAnyH_take (i := 6) (v := (.agg #[.int .i64 (V (j1 * 3)), .int .i64 (V (j1 * 3 + 1)), .int .i64 (V (j1 * 3 + 2))])) rfl (by kernel_rfl) (by kernel_rfl) (by kernel_rfl) (fun _ _ _ h => h) (Or.inl ⟨by rfl, fun w hSw => ?_⟩) (by assumption) ?_
  · (try dsimp only at hSw); go_simp
  try simp only [Act.put, List.getElem_toArray, List.getElem_cons_zero, List.getElem_cons_succ, List.setIfInBounds_toArray, List.set_cons_zero, List.set_cons_succ]
  refine wpAnyH_take (i := 7) (v := .pointer (some ⟨A, 1, none⟩)) rfl (by kernel_rfl) (by kernel_rfl) (by kernel_rfl) (fun _ _ _ h => h) (Or.inl ⟨by rfl, fun w hSw => ?_⟩) (by assumption) ?_
  · (try dsimp only at hSw); go_simp
  try simp only [Act.put, List.getElem_toArray, List.getElem_cons_zero, List.getElem_cons_succ, List.setIfInBounds_toArray, List.set_cons_zero, List.set_cons_succ]
  refine wpAnyH_take (i := 8) (v := .slice (some ⟨DU, oU, none⟩) nu cu) rfl (by kernel_rfl) (by kernel_rfl) (by kernel_rfl) (fun _ _ _ h => h) (Or.inl ⟨by rfl, fun w hSw => ?_⟩) (by assumption) ?_
  · (try dsimp only at hSw); go_simp
  try simp only [Act.put, List.getElem_toArray, List.getElem_cons_zero, List.getElem_cons_succ, List.setIfInBounds_toArray, List.set_cons_zero, List.set_cons_succ]
  refine wpAnyH_take (i := 9) (v := .int .i64 (j1 : Int)) rfl (by kernel_rfl) (by kernel_rfl) (by kernel_rfl) (fun _ _ _ h => h) (Or.inl ⟨by rfl, fun w hSw => ?_⟩) (by assumption) ?_
  · (try dsimp only at hSw); go_simp
  try simp only [Act.put, List.getElem_toArray, List.getElem_cons_zero, List.getElem_cons_succ, List.setIfInBounds_toArray, List.set_cons_zero, List.set_cons_succ]
  refine wpAnyH_take (i := 10) (v := .pointer (some ⟨DU, oU + j1 * 2, none⟩)) rfl (by kernel_rfl) (by kernel_rfl) (by kernel_rfl) (fun _ _ _ h => h) (Or.inl ⟨by rfl, fun w hSw => ?_⟩) (by assumption) ?_
  · (try dsimp only at hSw); go_simp
  try simp only [Act.put, List.getElem_toArray, List.getElem_cons_zero, List.getElem_cons_succ, List.setIfInBounds_toArray, List.set_cons_zero, List.set_cons_succ]
  refine wpAnyH_take (i := 11) (v := (.agg #[.int .i64 (U (j1 * 2)), .int .i64 (U (j1 * 2 + 1))])) rfl (by kernel_rfl) (by kernel_rfl) (by kernel_rfl) (fun _ _ _ h => h) (Or.inl ⟨by rfl, fun w hSw => ?_⟩) (by assumption) ?_
  · (try dsimp only at hSw); go_simp
  try simp only [Act.put, List.getElem_toArray, List.getElem_cons_zero, List.getElem_cons_succ, List.setIfInBounds_toArray, List.set_cons_zero, List.set_cons_succ]
  refine wpAnyH_take (i := 12) (v := .pointer (some ⟨P, 3, none⟩)) rfl (by kernel_rfl) (by kernel_rfl) (by kernel_rfl) (fun _ _ _ h => h) (Or.inl ⟨by rfl, fun w hSw => ?_⟩) (by assumption) ?_
  · (try dsimp only at hSw); go_simp
  try simp only [Act.put, List.getElem_toArray, List.getElem_cons_zero, List.getElem_cons_succ, List.setIfInBounds_toArray, List.set_cons_zero, List.set_cons_succ]
  refine wpAnyH_ready (rs := [13]) (by kernel_rfl) (by simp) ?_
  refine AllReadyH.cons rfl (fun K hK => ?_) AllReadyH.nil
  refine step_store (by simp [Region.wanted]) 46 _ _ rfl P 3 #[.int .i64 (V (j1 * 3)), .int .i64 (V (j1 * 3 + 1)), .int .i64 (V (j1 * 3 + 2))] rfl rfl (HPd.out.room (by simp)) (by kernel_rfl) (by simp [Value.oneCell']) ?_
  refine hK.out _ _ S1.out (fun hHeld => ?_)
  clear hK K
  try simp only [Act.put, List.getElem_toArray, List.getElem_cons_zero, List.getElem_cons_succ, List.setIfInBounds_toArray, List.set_cons_zero, List.set_cons_succ]
  refine wpAnyH_take (i := 14) (v := .pointer (some ⟨X, 2, none⟩)) rfl (by kernel_rfl) (by kernel_rfl) (by kernel_rfl) (fun _ _ _ h => h) (Or.inl ⟨by rfl, fun w hSw => ?_⟩) (by assumption) ?_
  · (try dsimp only at hSw); go_simp
  try simp only [Act.put, List.getElem_toArray, List.getElem_cons_zero, List.getElem_cons_succ, List.setIfInBounds_toArray, List.set_cons_zero, List.set_cons_succ]
  refine wpAnyH_ready (rs := [15]) (by kernel_rfl) (by simp) ?_
  refine AllReadyH.cons rfl (fun K hK => ?_) AllReadyH.nil
  refine step_store (by simp [Region.wanted]) 48 _ _ rfl X 2 #[.int .i64 (U (j1 * 2)), .int .i64 (U (j1 * 2 + 1))] rfl rfl (HXs.out.room (by simp)) (by kernel_rfl) (by simp [Value.oneCell']) ?_
  refine hK.out _ _ S2.out (fun hHeld => ?_)
  clear hK K
  try simp only [Act.put, List.getElem_toArray, List.getElem_cons_zero, List.getElem_cons_succ, List.setIfInBounds_toArray, List.set_cons_zero, List.set_cons_succ]
  refine wpAnyH_done (by kernel_rfl) ?_ _
  clear S0 S1 S2 hHeld HPd HXd HPs HXs
  have HPt := HPu; have HXt := HXu; have HAt := HAu; have HBt := HBu
  clear HPu HXu HAu HBu
  generalize ((y1.drew.setCells P 3 [.int .i64 (V (j1 * 3)), .int .i64 (V (j1 * 3 + 1)), .int .i64 (V (j1 * 3 + 2))]).setCells X 2 [.int .i64 (U (j1 * 2)), .int .i64 (U (j1 * 2 + 1))]) = y2 at *
  go_wp2_with (fail)
  rw [rounds_succ]
  go_upto_region 9 with fail
  have HPd := Lib.hid HPt.out.drew; have HXd := Lib.hid HXt.out.drew; have HAd := Lib.hid HAt.out.drew; have HBd := Lib.hid HBt.out.drew
  have hbp : But P y2.drew (y2.drew.setCells P 6 [.int .i64 (V (j2 * 3)), .int .i64 (V (j2 * 3 + 1)), .int .i64 (V (j2 * 3 + 2))]) := But.store
  have HPs : Hid (Own P [.int .i64 (V (j0 * 3)), .int .i64 (V (j0 * 3 + 1)), .int .i64 (V (j0 * 3 + 2)), .int .i64 (V (j1 * 3)), .int .i64 (V (j1 * 3 + 1)), .int .i64 (V (j1 * 3 + 2)), .int .i64 (V (j2 * 3)), .int .i64 (V (j2 * 3 + 1)), .int .i64 (V (j2 * 3 + 2))] (y2.drew.setCells P 6 [.int .i64 (V (j2 * 3)), .int .i64 (V (j2 * 3 + 1)), .int .i64 (V (j2 * 3 + 2))])) := Lib.hid (show Own P (over _ 6 [.int .i64 (V (j2 * 3)), .int .i64 (V (j2 * 3 + 1)), .int .i64 (V (j2 * 3 + 2))]) _ from Own.part HPd.out (by simp))
  have HXs := Lib.hid (HXd.out.but hbp nXP); have HAs := Lib.hid (HAd.out.but hbp nAP)
  have HBs : Hid (Below w.heap.size w (y2.drew.setCells P 6 [.int .i64 (V (j2 * 3)), .int .i64 (V (j2 * 3 + 1)), .int .i64 (V (j2 * 3 + 2))])) := Lib.hid (Below.setCells HBd.out Pw _ _)
  have hbx : But X (y2.drew.setCells P 6 [.int .i64 (V (j2 * 3)), .int .i64 (V (j2 * 3 + 1)), .int .i64 (V (j2 * 3 + 2))]) ((y2.drew.setCells P 6 [.int .i64 (V (j2 * 3)), .int .i64 (V (j2 * 3 + 1)), .int .i64 (V (j2 * 3 + 2))]).setCells X 4 [.int .i64 (U (j2 * 2)), .int .i64 (U (j2 * 2 + 1))]) := But.store
  have HPu := Lib.hid (HPs.out.but hbx nPX)
  have HXu : Hid (Own X [.int .i64 (U (j0 * 2)), .int .i64 (U (j0 * 2 + 1)), .int .i64 (U (j1 * 2)), .int .i64 (U (j1 * 2 + 1)), .int .i64 (U (j2 * 2)), .int .i64 (U (j2 * 2 + 1))] ((y2.drew.setCells P 6 [.int .i64 (V (j2 * 3)), .int .i64 (V (j2 * 3 + 1)), .int .i64 (V (j2 * 3 + 2))]).setCells X 4 [.int .i64 (U (j2 * 2)), .int .i64 (U (j2 * 2 + 1))])) := Lib.hid (show Own X (over _ 4 [.int .i64 (U (j2 * 2)), .int .i64 (U (j2 * 2 + 1))]) _ from Own.part HXs.out (by simp))
  have HAu := Lib.hid (HAs.out.but hbx nAX)
  have HBu : Hid (Below w.heap.size w ((y2.drew.setCells P 6 [.int .i64 (V (j2 * 3)), .int .i64 (V (j2 * 3 + 1)), .int .i64 (V (j2 * 3 + 2))]).setCells X 4 [.int .i64 (U (j2 * 2)), .int .i64 (U (j2 * 2 + 1))])) := Lib.hid (Below.setCells HBs.out Xw _ _)
  have S0 : Hid (y2.drew.cell? ⟨A, 0, none⟩ = some (.slice (some ⟨DV, oV, none⟩) nv cv) ∧ y2.drew.cell? ⟨A, 1, none⟩ = some (.slice (some ⟨DU, oU, none⟩) nu cu) ∧ y2.drew.cell? ⟨DV, oV + j2 * 3, none⟩ = some (.int .i64 (V (j2 * 3))) ∧ y2.drew.cell? ⟨DV, oV + j2 * 3 + 1, none⟩ = some (.int .i64 (V (j2 * 3 + 1))) ∧ y2.drew.cell? ⟨DV, oV + j2 * 3 + 2, none⟩ = some (.int .i64 (V (j2 * 3 + 2))) ∧ y2.drew.cell? ⟨DU, oU + j2 * 2, none⟩ = some (.int .i64 (U (j2 * 2))) ∧ y2.drew.cell? ⟨DU, oU + j2 * 2 + 1, none⟩ = some (.int .i64 (U (j2 * 2 + 1))) ∧ A < y2.drew.heap.size ∧ DV < y2.drew.heap.size ∧ DU < y2.drew.heap.size) := Lib.hid ⟨HAd.out.at 0 _ rfl, HAd.out.at 1 _ rfl, (HV2.out.below HBd.out HV2.out.lt).at 0 _ rfl, (HV2.out.below HBd.out HV2.out.lt).at 1 _ rfl, (HV2.out.below HBd.out HV2.out.lt).at 2 _ rfl, (HU2.out.below HBd.out HU2.out.lt).at 0 _ rfl, (HU2.out.below HBd.out HU2.out.lt).at 1 _ rfl, HAd.out.lt, (HV2.out.below HBd.out HV2.out.lt).lt, (HU2.out.below HBd.out HU2.out.lt).lt⟩
  have S1 : Hid ((y2.drew.setCells P 6 [.int .i64 (V (j2 * 3)), .int .i64 (V (j2 * 3 + 1)), .int .i64 (V (j2 * 3 + 2))]).cell? ⟨A, 0, none⟩ = some (.slice (some ⟨DV, oV, none⟩) nv cv) ∧ (y2.drew.setCells P 6 [.int .i64 (V (j2 * 3)), .int .i64 (V (j2 * 3 + 1)), .int .i64 (V (j2 * 3 + 2))]).cell? ⟨A, 1, none⟩ = some (.slice (some ⟨DU, oU, none⟩) nu cu) ∧ (y2.drew.setCells P 6 [.int .i64 (V (j2 * 3)), .int .i64 (V (j2 * 3 + 1)), .int .i64 (V (j2 * 3 + 2))]).cell? ⟨DV, oV + j2 * 3, none⟩ = some (.int .i64 (V (j2 * 3))) ∧ (y2.drew.setCells P 6 [.int .i64 (V (j2 * 3)), .int .i64 (V (j2 * 3 + 1)), .int .i64 (V (j2 * 3 + 2))]).cell? ⟨DV, oV + j2 * 3 + 1, none⟩ = some (.int .i64 (V (j2 * 3 + 1))) ∧ (y2.drew.setCells P 6 [.int .i64 (V (j2 * 3)), .int .i64 (V (j2 * 3 + 1)), .int .i64 (V (j2 * 3 + 2))]).cell? ⟨DV, oV + j2 * 3 + 2, none⟩ = some (.int .i64 (V (j2 * 3 + 2))) ∧ (y2.drew.setCells P 6 [.int .i64 (V (j2 * 3)), .int .i64 (V (j2 * 3 + 1)), .int .i64 (V (j2 * 3 + 2))]).cell? ⟨DU, oU + j2 * 2, none⟩ = some (.int .i64 (U (j2 * 2))) ∧ (y2.drew.setCells P 6 [.int .i64 (V (j2 * 3)), .int .i64 (V (j2 * 3 + 1)), .int .i64 (V (j2 * 3 + 2))]).cell? ⟨DU, oU + j2 * 2 + 1, none⟩ = some (.int .i64 (U (j2 * 2 + 1))) ∧ A < (y2.drew.setCells P 6 [.int .i64 (V (j2 * 3)), .int .i64 (V (j2 * 3 + 1)), .int .i64 (V (j2 * 3 + 2))]).heap.size ∧ DV < (y2.drew.setCells P 6 [.int .i64 (V (j2 * 3)), .int .i64 (V (j2 * 3 + 1)), .int .i64 (V (j2 * 3 + 2))]).heap.size ∧ DU < (y2.drew.setCells P 6 [.int .i64 (V (j2 * 3)), .int .i64 (V (j2 * 3 + 1)), .int .i64 (V (j2 * 3 + 2))]).heap.size) := Lib.hid ⟨HAs.out.at 0 _ rfl, HAs.out.at 1 _ rfl, (HV2.out.below HBs.out HV2.out.lt).at 0 _ rfl, (HV2.out.below HBs.out HV2.out.lt).at 1 _ rfl, (HV2.out.below HBs.out HV2.out.lt).at 2 _ rfl, (HU2.out.below HBs.out HU2.out.lt).at 0 _ rfl, (HU2.out.below HBs.out HU2.out.lt).at 1 _ rfl, HAs.out.lt, (HV2.out.below HBs.out HV2.out.lt).lt, (HU2.out.below HBs.out HU2.out.lt).lt⟩
  have S2 : Hid (((y2.drew.setCells P 6 [.int .i64 (V (j2 * 3)), .int .i64 (V (j2 * 3 + 1)), .int .i64 (V (j2 * 3 + 2))]).setCells X 4 [.int .i64 (U (j2 * 2)), .int .i64 (U (j2 * 2 + 1))]).cell? ⟨A, 0, none⟩ = some (.slice (some ⟨DV, oV, none⟩) nv cv) ∧ ((y2.drew.setCells P 6 [.int .i64 (V (j2 * 3)), .int .i64 (V (j2 * 3 + 1)), .int .i64 (V (j2 * 3 + 2))]).setCells X 4 [.int .i64 (U (j2 * 2)), .int .i64 (U (j2 * 2 + 1))]).cell? ⟨A, 1, none⟩ = some (.slice (some ⟨DU, oU, none⟩) nu cu) ∧ ((y2.drew.setCells P 6 [.int .i64 (V (j2 * 3)), .int .i64 (V (j2 * 3 + 1)), .int .i64 (V (j2 * 3 + 2))]).setCells X 4 [.int .i64 (U (j2 * 2)), .int .i64 (U (j2 * 2 + 1))]).cell? ⟨DV, oV + j2 * 3, none⟩ = some (.int .i64 (V (j2 * 3))) ∧ ((y2.drew.setCells P 6 [.int .i64 (V (j2 * 3)), .int .i64 (V (j2 * 3 + 1)), .int .i64 (V (j2 * 3 + 2))]).setCells X 4 [.int .i64 (U (j2 * 2)), .int .i64 (U (j2 * 2 + 1))]).cell? ⟨DV, oV + j2 * 3 + 1, none⟩ = some (.int .i64 (V (j2 * 3 + 1))) ∧ ((y2.drew.setCells P 6 [.int .i64 (V (j2 * 3)), .int .i64 (V (j2 * 3 + 1)), .int .i64 (V (j2 * 3 + 2))]).setCells X 4 [.int .i64 (U (j2 * 2)), .int .i64 (U (j2 * 2 + 1))]).cell? ⟨DV, oV + j2 * 3 + 2, none⟩ = some (.int .i64 (V (j2 * 3 + 2))) ∧ ((y2.drew.setCells P 6 [.int .i64 (V (j2 * 3)), .int .i64 (V (j2 * 3 + 1)), .int .i64 (V (j2 * 3 + 2))]).setCells X 4 [.int .i64 (U (j2 * 2)), .int .i64 (U (j2 * 2 + 1))]).cell? ⟨DU, oU + j2 * 2, none⟩ = some (.int .i64 (U (j2 * 2))) ∧ ((y2.drew.setCells P 6 [.int .i64 (V (j2 * 3)), .int .i64 (V (j2 * 3 + 1)), .int .i64 (V (j2 * 3 + 2))]).setCells X 4 [.int .i64 (U (j2 * 2)), .int .i64 (U (j2 * 2 + 1))]).cell? ⟨DU, oU + j2 * 2 + 1, none⟩ = some (.int .i64 (U (j2 * 2 + 1))) ∧ A < ((y2.drew.setCells P 6 [.int .i64 (V (j2 * 3)), .int .i64 (V (j2 * 3 + 1)), .int .i64 (V (j2 * 3 + 2))]).setCells X 4 [.int .i64 (U (j2 * 2)), .int .i64 (U (j2 * 2 + 1))]).heap.size ∧ DV < ((y2.drew.setCells P 6 [.int .i64 (V (j2 * 3)), .int .i64 (V (j2 * 3 + 1)), .int .i64 (V (j2 * 3 + 2))]).setCells X 4 [.int .i64 (U (j2 * 2)), .int .i64 (U (j2 * 2 + 1))]).heap.size ∧ DU < ((y2.drew.setCells P 6 [.int .i64 (V (j2 * 3)), .int .i64 (V (j2 * 3 + 1)), .int .i64 (V (j2 * 3 + 2))]).setCells X 4 [.int .i64 (U (j2 * 2)), .int .i64 (U (j2 * 2 + 1))]).heap.size) := Lib.hid ⟨HAu.out.at 0 _ rfl, HAu.out.at 1 _ rfl, (HV2.out.below HBu.out HV2.out.lt).at 0 _ rfl, (HV2.out.below HBu.out HV2.out.lt).at 1 _ rfl, (HV2.out.below HBu.out HV2.out.lt).at 2 _ rfl, (HU2.out.below HBu.out HU2.out.lt).at 0 _ rfl, (HU2.out.below HBu.out HU2.out.lt).at 1 _ rfl, HAu.out.lt, (HV2.out.below HBu.out HV2.out.lt).lt, (HU2.out.below HBu.out HU2.out.lt).lt⟩
  clear HPt HXt HAt HBt HAd HBd HAs HBs hbp hbx
  refine wp_region_held_drew (S := fun w' => (w'.cell? ⟨A, 0, none⟩ = some (.slice (some ⟨DV, oV, none⟩) nv cv) ∧ w'.cell? ⟨A, 1, none⟩ = some (.slice (some ⟨DU, oU, none⟩) nu cu) ∧ w'.cell? ⟨DV, oV + j2 * 3, none⟩ = some (.int .i64 (V (j2 * 3))) ∧ w'.cell? ⟨DV, oV + j2 * 3 + 1, none⟩ = some (.int .i64 (V (j2 * 3 + 1))) ∧ w'.cell? ⟨DV, oV + j2 * 3 + 2, none⟩ = some (.int .i64 (V (j2 * 3 + 2))) ∧ w'.cell? ⟨DU, oU + j2 * 2, none⟩ = some (.int .i64 (U (j2 * 2))) ∧ w'.cell? ⟨DU, oU + j2 * 2 + 1, none⟩ = some (.int .i64 (U (j2 * 2 + 1))) ∧ A < w'.heap.size ∧ DV < w'.heap.size ∧ DU < w'.heap.size)) (by kernel_rfl) S0.out (fun hHeld => ?_)
  refine wpAnyH_take (i := 0) (v := .int .i64 2) rfl (by kernel_rfl) (by kernel_rfl) (by kernel_rfl) (fun _ _ _ h => h) (Or.inl ⟨by rfl, fun w hSw => ?_⟩) (by assumption) ?_
  · (try dsimp only at hSw); go_simp
  try simp only [Act.put, List.getElem_toArray, List.getElem_cons_zero, List.getElem_cons_succ, List.setIfInBounds_toArray, List.set_cons_zero, List.set_cons_succ]
  refine wpAnyH_take (i := 1) (v := .int .i64 2) rfl (by kernel_rfl) (by kernel_rfl) (by kernel_rfl) (fun _ _ _ h => h) (Or.inl ⟨by rfl, fun w hSw => ?_⟩) (by assumption) ?_
  · (try dsimp only at hSw); go_simp
  try simp only [Act.put, List.getElem_toArray, List.getElem_cons_zero, List.getElem_cons_succ, List.setIfInBounds_toArray, List.set_cons_zero, List.set_cons_succ]
  refine wpAnyH_take (i := 2) (v := .pointer (some ⟨A, 0, none⟩)) rfl (by kernel_rfl) (by kernel_rfl) (by kernel_rfl) (fun _ _ _ h => h) (Or.inl ⟨by rfl, fun w hSw => ?_⟩) (by assumption) ?_
  · (try dsimp only at hSw); go_simp
  try simp only [Act.put, List.getElem_toArray, List.getElem_cons_zero, List.getElem_cons_succ, List.setIfInBounds_toArray, List.set_cons_zero, List.set_cons_succ]
  refine wpAnyH_take (i := 3) (v := .slice (some ⟨DV, oV, none⟩) nv cv) rfl (by kernel_rfl) (by kernel_rfl) (by kernel_rfl) (fun _ _ _ h => h) (Or.inl ⟨by rfl, fun w hSw => ?_⟩) (by assumption) ?_
  · (try dsimp only at hSw); go_simp
  try simp only [Act.put, List.getElem_toArray, List.getElem_cons_zero, List.getElem_cons_succ, List.setIfInBounds_toArray, List.set_cons_zero, List.set_cons_succ]
  refine wpAnyH_take (i := 4) (v := .int .i64 (j2 : Int)) rfl (by kernel_rfl) (by kernel_rfl) (by kernel_rfl) (fun _ _ _ h => h) (Or.inl ⟨by rfl, fun w hSw => ?_⟩) (by assumption) ?_
  · (try dsimp only at hSw); go_simp
  try simp only [Act.put, List.getElem_toArray, List.getElem_cons_zero, List.getElem_cons_succ, List.setIfInBounds_toArray, List.set_cons_zero, List.set_cons_succ]
  refine wpAnyH_take (i := 5) (v := .pointer (some ⟨DV, oV + j2 * 3, none⟩)) rfl (by kernel_rfl) (by kernel_rfl) (by kernel_rfl) (fun _ _ _ h => h) (Or.inl ⟨by rfl, fun w hSw => ?_⟩) (by assumption) ?_
  · (try dsimp only at hSw); go_simp
  try simp only [Act.put, List.getElem_toArray, List.getElem_cons_zero, List.getElem_cons_succ, List.setIfInBounds_toArray, List.set_cons_zero, List.set_cons_succ]
  refine wpAnyH_take (i := 6) (v := (.agg #[.int .i64 (V (j2 * 3)), .int .i64 (V (j2 * 3 + 1)), .int .i64 (V (j2 * 3 + 2))])) rfl (by kernel_rfl) (by kernel_rfl) (by kernel_rfl) (fun _ _ _ h => h) (Or.inl ⟨by rfl, fun w hSw => ?_⟩) (by assumption) ?_
  · (try dsimp only at hSw); go_simp
  try simp only [Act.put, List.getElem_toArray, List.getElem_cons_zero, List.getElem_cons_succ, List.setIfInBounds_toArray, List.set_cons_zero, List.set_cons_succ]
  refine wpAnyH_take (i := 7) (v := .pointer (some ⟨A, 1, none⟩)) rfl (by kernel_rfl) (by kernel_rfl) (by kernel_rfl) (fun _ _ _ h => h) (Or.inl ⟨by rfl, fun w hSw => ?_⟩) (by assumption) ?_
  · (try dsimp only at hSw); go_simp
  try simp only [Act.put, List.getElem_toArray, List.getElem_cons_zero, List.getElem_cons_succ, List.setIfInBounds_toArray, List.set_cons_zero, List.set_cons_succ]
  refine wpAnyH_take (i := 8) (v := .slice (some ⟨DU, oU, none⟩) nu cu) rfl (by kernel_rfl) (by kernel_rfl) (by kernel_rfl) (fun _ _ _ h => h) (Or.inl ⟨by rfl, fun w hSw => ?_⟩) (by assumption) ?_
  · (try dsimp only at hSw); go_simp
  try simp only [Act.put, List.getElem_toArray, List.getElem_cons_zero, List.getElem_cons_succ, List.setIfInBounds_toArray, List.set_cons_zero, List.set_cons_succ]
  refine wpAnyH_take (i := 9) (v := .int .i64 (j2 : Int)) rfl (by kernel_rfl) (by kernel_rfl) (by kernel_rfl) (fun _ _ _ h => h) (Or.inl ⟨by rfl, fun w hSw => ?_⟩) (by assumption) ?_
  · (try dsimp only at hSw); go_simp
  try simp only [Act.put, List.getElem_toArray, List.getElem_cons_zero, List.getElem_cons_succ, List.setIfInBounds_toArray, List.set_cons_zero, List.set_cons_succ]
  refine wpAnyH_take (i := 10) (v := .pointer (some ⟨DU, oU + j2 * 2, none⟩)) rfl (by kernel_rfl) (by kernel_rfl) (by kernel_rfl) (fun _ _ _ h => h) (Or.inl ⟨by rfl, fun w hSw => ?_⟩) (by assumption) ?_
  · (try dsimp only at hSw); go_simp
  try simp only [Act.put, List.getElem_toArray, List.getElem_cons_zero, List.getElem_cons_succ, List.setIfInBounds_toArray, List.set_cons_zero, List.set_cons_succ]
  refine wpAnyH_take (i := 11) (v := (.agg #[.int .i64 (U (j2 * 2)), .int .i64 (U (j2 * 2 + 1))])) rfl (by kernel_rfl) (by kernel_rfl) (by kernel_rfl) (fun _ _ _ h => h) (Or.inl ⟨by rfl, fun w hSw => ?_⟩) (by assumption) ?_
  · (try dsimp only at hSw); go_simp
  try simp only [Act.put, List.getElem_toArray, List.getElem_cons_zero, List.getElem_cons_succ, List.setIfInBounds_toArray, List.set_cons_zero, List.set_cons_succ]
  refine wpAnyH_take (i := 12) (v := .pointer (some ⟨P, 6, none⟩)) rfl (by kernel_rfl) (by kernel_rfl) (by kernel_rfl) (fun _ _ _ h => h) (Or.inl ⟨by rfl, fun w hSw => ?_⟩) (by assumption) ?_
  · (try dsimp only at hSw); go_simp
  try simp only [Act.put, List.getElem_toArray, List.getElem_cons_zero, List.getElem_cons_succ, List.setIfInBounds_toArray, List.set_cons_zero, List.set_cons_succ]
  refine wpAnyH_ready (rs := [13]) (by kernel_rfl) (by simp) ?_
  refine AllReadyH.cons rfl (fun K hK => ?_) AllReadyH.nil
  refine step_store (by simp [Region.wanted]) 46 _ _ rfl P 6 #[.int .i64 (V (j2 * 3)), .int .i64 (V (j2 * 3 + 1)), .int .i64 (V (j2 * 3 + 2))] rfl rfl (HPd.out.room (by simp)) (by kernel_rfl) (by simp [Value.oneCell']) ?_
  refine hK.out _ _ S1.out (fun hHeld => ?_)
  clear hK K
  try simp only [Act.put, List.getElem_toArray, List.getElem_cons_zero, List.getElem_cons_succ, List.setIfInBounds_toArray, List.set_cons_zero, List.set_cons_succ]
  refine wpAnyH_take (i := 14) (v := .pointer (some ⟨X, 4, none⟩)) rfl (by kernel_rfl) (by kernel_rfl) (by kernel_rfl) (fun _ _ _ h => h) (Or.inl ⟨by rfl, fun w hSw => ?_⟩) (by assumption) ?_
  · (try dsimp only at hSw); go_simp
  try simp only [Act.put, List.getElem_toArray, List.getElem_cons_zero, List.getElem_cons_succ, List.setIfInBounds_toArray, List.set_cons_zero, List.set_cons_succ]
  refine wpAnyH_ready (rs := [15]) (by kernel_rfl) (by simp) ?_
  refine AllReadyH.cons rfl (fun K hK => ?_) AllReadyH.nil
  refine step_store (by simp [Region.wanted]) 48 _ _ rfl X 4 #[.int .i64 (U (j2 * 2)), .int .i64 (U (j2 * 2 + 1))] rfl rfl (HXs.out.room (by simp)) (by kernel_rfl) (by simp [Value.oneCell']) ?_
  refine hK.out _ _ S2.out (fun hHeld => ?_)
  clear hK K
  try simp only [Act.put, List.getElem_toArray, List.getElem_cons_zero, List.getElem_cons_succ, List.setIfInBounds_toArray, List.set_cons_zero, List.set_cons_succ]
  refine wpAnyH_done (by kernel_rfl) ?_ _
  clear S0 S1 S2 hHeld HPd HXd HPs HXs
  have HPt := HPu; have HXt := HXu; have HAt := HAu; have HBt := HBu
  clear HPu HXu HAu HBu
  generalize ((y2.drew.setCells P 6 [.int .i64 (V (j2 * 3)), .int .i64 (V (j2 * 3 + 1)), .int .i64 (V (j2 * 3 + 2))]).setCells X 4 [.int .i64 (U (j2 * 2)), .int .i64 (U (j2 * 2 + 1))]) = y3 at *
  go_wp2_with (fail)
  rw [rounds_succ]
  go_upto_region 11 with fail
  have oP := HPt.out
  have P0 := oP.at 0 _ rfl
  have Pf0 := oP.ok 0 (by simp)
  have P1 := oP.at 1 _ rfl
  have Pf1 := oP.ok 1 (by simp)
  have P2 := oP.at 2 _ rfl
  have Pf2 := oP.ok 2 (by simp)
  have P3 := oP.at 3 _ rfl
  have Pf3 := oP.ok 3 (by simp)
  have P4 := oP.at 4 _ rfl
  have Pf4 := oP.ok 4 (by simp)
  have P5 := oP.at 5 _ rfl
  have Pf5 := oP.ok 5 (by simp)
  have P6 := oP.at 6 _ rfl
  have Pf6 := oP.ok 6 (by simp)
  have P7 := oP.at 7 _ rfl
  have Pf7 := oP.ok 7 (by simp)
  have P8 := oP.at 8 _ rfl
  have Pf8 := oP.ok 8 (by simp)
  have Pl := oP.lt
  clear oP
  have oX := HXt.out
  have X0 := oX.at 0 _ rfl
  have Xf0 := oX.ok 0 (by simp)
  have X1 := oX.at 1 _ rfl
  have Xf1 := oX.ok 1 (by simp)
  have X2 := oX.at 2 _ rfl
  have Xf2 := oX.ok 2 (by simp)
  have X3 := oX.at 3 _ rfl
  have Xf3 := oX.ok 3 (by simp)
  have X4 := oX.at 4 _ rfl
  have Xf4 := oX.ok 4 (by simp)
  have X5 := oX.at 5 _ rfl
  have Xf5 := oX.ok 5 (by simp)
  have Xl := oX.lt
  clear oX
  go_region_held3 (fun w' => w' = y3.drew) (first | rfl | assumption) (fail)
  clear P0 Pf0 P1 Pf1 P2 Pf2 P3 Pf3 P4 Pf4 P5 Pf5 P6 Pf6 P7 Pf7 P8 Pf8 Pl X0 Xf0 X1 Xf1 X2 Xf2 X3 Xf3 X4 Xf4 X5 Xf5 Xl
  have HP2 := Lib.hid (HPt.out.drew); have HX2 := Lib.hid (HXt.out.drew); have HB2 := Lib.hid (HBt.out.drew)
  generalize y3.drew = w2 at *
  go_wp2_with (fail)
  have hL1 := run_loadVar_mid (P := Try.prog) _ P 0 47 [.int .i64 (V (j0 * 3)), .int .i64 (V (j0 * 3 + 1)), .int .i64 (V (j0 * 3 + 2)), .int .i64 (V (j1 * 3)), .int .i64 (V (j1 * 3 + 1)), .int .i64 (V (j1 * 3 + 2)), .int .i64 (V (j2 * 3)), .int .i64 (V (j2 * 3 + 1)), .int .i64 (V (j2 * 3 + 2))] _ HP2.out.cell Try.underlying47 rfl (by kernel_rfl)
  have hL2 := run_loadVar_mid (P := Try.prog) _ X 0 49 [.int .i64 (U (j0 * 2)), .int .i64 (U (j0 * 2 + 1)), .int .i64 (U (j1 * 2)), .int .i64 (U (j1 * 2 + 1)), .int .i64 (U (j2 * 2)), .int .i64 (U (j2 * 2 + 1))] _ HX2.out.cell Try.underlying49 rfl (by kernel_rfl)
  exact bodyPost_ret (v := .tuple #[.agg ([.int .i64 (V (j0 * 3)), .int .i64 (V (j0 * 3 + 1)), .int .i64 (V (j0 * 3 + 2)), .int .i64 (V (j1 * 3)), .int .i64 (V (j1 * 3 + 1)), .int .i64 (V (j1 * 3 + 2)), .int .i64 (V (j2 * 3)), .int .i64 (V (j2 * 3 + 1)), .int .i64 (V (j2 * 3 + 2))] : List Value).toArray, .agg ([.int .i64 (U (j0 * 2)), .int .i64 (U (j0 * 2 + 1)), .int .i64 (U (j1 * 2)), .int .i64 (U (j1 * 2 + 1)), .int .i64 (U (j2 * 2)), .int .i64 (U (j2 * 2 + 1))] : List Value).toArray, .int .i64 0]) (res_three Try.results18 rfl hL1 rfl hL2 rfl) rfl ⟨rfl, HB2.out⟩
end Go.Proofs.Ytnopcgkhoennfaa
