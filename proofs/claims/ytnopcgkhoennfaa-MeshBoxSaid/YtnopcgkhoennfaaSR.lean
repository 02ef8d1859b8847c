/- mesh: '==' of places, pairs, arrays; the document's Same of two meshes that are alike. -/
import Derived.Test.YtnopcgkhoennfaaSH
import Derived.Lib.Hide
import Derived.LoopN
import Derived.LoopTactic
import Derived.Deep.Onto
import Derived.Deep.RegionHeld3
import Derived.Deep.QuietTactic
import Derived.BigQuiet
namespace Go.Proofs.Ytnopcgkhoennfaa
set_option linter.unusedVariables false
set_option maxRecDepth 2000
set_option linter.unusedSimpArgs false
open Go.RowKit
theorem eqP_self (a b c : Int) (w : World) : (binOp .eql 46 (.agg #[.int .i64 a, .int .i64 b, .int .i64 c]) (.agg #[.int .i64 a, .int .i64 b, .int .i64 c])).run Try.prog w = .ok (.bool true) w := by simp [go_sem]
theorem neqP_self (a b c : Int) (w : World) : (binOp .neq 46 (.agg #[.int .i64 a, .int .i64 b, .int .i64 c]) (.agg #[.int .i64 a, .int .i64 b, .int .i64 c])).run Try.prog w = .ok (.bool false) w := by simp [go_sem]
theorem eq_arr2 (d : Nat) (a b : Int) (w : World) : (Op.equalIn (d + 2) 48 (.agg #[.int .i64 a, .int .i64 b]) (.agg #[.int .i64 a, .int .i64 b])).run Try.prog w = .ok true w := by
  unfold Op.equalIn
  simp [run_underlying Try.underlying48, go_sem, List.range']
theorem neqU_self (a b : Int) (w : World) : (binOp .neq 48 (.agg #[.int .i64 a, .int .i64 b]) (.agg #[.int .i64 a, .int .i64 b])).run Try.prog w = .ok (.bool false) w := by
  have h := eq_arr2 9998 a b w
  simp [go_sem, h]
theorem eq_arr3 (d : Nat) (a b c : Int) (w : World) : (Op.equalIn (d + 2) 52 (.agg #[.int .i64 a, .int .i64 b, .int .i64 c]) (.agg #[.int .i64 a, .int .i64 b, .int .i64 c])).run Try.prog w = .ok true w := by
  unfold Op.equalIn
  simp [run_underlying Try.underlying52, go_sem, List.range']
theorem neqT_self (a b c : Int) (w : World) : (binOp .neq 52 (.agg #[.int .i64 a, .int .i64 b, .int .i64 c]) (.agg #[.int .i64 a, .int .i64 b, .int .i64 c])).run Try.prog w = .ok (.bool false) w := by
  have h := eq_arr3 9998 a b c w
  simp [go_sem, h]
attribute [local go_sem ↓] neqP_self neqU_self neqT_self
set_option maxHeartbeats 8000000 in
theorem Same_yes (M Y : Msh) (w : World) (hM : MeshAt M w) (hY : MeshAt Y w) (e1 : M.nv = Y.nv) (e2 : M.nu = Y.nu) (e3 : M.nt = Y.nt) (ev : ∀ j, j < M.nv * 3 → M.V j = Y.V j) (eu : ∀ j, j < M.nu * 2 → M.U j = Y.U j) (et : ∀ j, j < M.nt * 3 → M.R j = Y.R j)
    (bn : M.nv ≤ 1000 ∧ M.nu ≤ 1000 ∧ M.nt ≤ 1000) :
    Calls Try.prog 17 #[(.agg #[.slice M.qv M.nv M.cv, .slice M.qu M.nu M.cu, .slice M.qt M.nt M.ct]), (.agg #[.slice Y.qv Y.nv Y.cv, .slice Y.qu Y.nu Y.cu, .slice Y.qt Y.nt Y.ct])] w fun e w' => e = .returned (.bool true) ∧ Below w.heap.size w w' := by
  obtain ⟨qv, nv, cv, V, qu, nu, cu, U, qt, nt, ct, R⟩ := M
  obtain ⟨pv, nv2, dv, V2, pu, nu2, du, U2, pt, nt2, dt, R2⟩ := Y
  dsimp only at *
  subst e1 e2 e3
  have HMv := Lib.hid hM.v; have HMu := Lib.hid hM.u; have HMt := Lib.hid hM.t
  have HYv := Lib.hid hY.v; have HYu := Lib.hid hY.u; have HYt := Lib.hid hY.t
  dsimp only at *
  have EV := Lib.hid ev; have EU := Lib.hid eu; have ET := Lib.hid et
  have BN := Lib.hid bn
  clear hM hY ev eu et bn
  go_enter Try.func17, Try.ntmps17
  go_upto_region 1 with fail
  obtain ⟨W0, hW⟩ : ∃ W0, W0 = ((w.alloc (.cells #[.slice qv nv cv, .slice qu nu cu, .slice qt nt ct] 26)).alloc (.cells #[.slice pv nv dv, .slice pu nu du, .slice pt nt dt] 26)) := ⟨_, rfl⟩
  have hB0 : Below w.heap.size w W0 := hW ▸ (Below.al (Below.al (Below.refl _ _)))
  have HA : Hid (Own w.heap.size [.slice qv nv cv, .slice qu nu cu, .slice qt nt ct] W0) := Lib.hid (hW ▸ (Own.newAt (by simp)).alloc)
  have HBx : Hid (Own (w.heap.size + 1) [.slice pv nv dv, .slice pu nu du, .slice pt nt dt] W0) := Lib.hid (hW ▸ (Own.newAt (by simp)))
  rw [← hW]
  clear hW
  obtain ⟨B, eB⟩ : ∃ X, X = (w.heap.size + 1) := ⟨_, rfl⟩
  rw [← eB] at HBx ⊢
  have Bw : w.heap.size ≤ B := by omega
  obtain ⟨A, eA⟩ : ∃ X, X = w.heap.size := ⟨_, rfl⟩
  rw [← eA] at HA ⊢
  have Aw : w.heap.size ≤ A := by omega
  have nAB : A ≠ B := by omega
  have nBA : B ≠ A := by omega
  clear eA eB
  have HB := Lib.hid hB0
  clear hB0
  have oA := HA.out
  have A0 := oA.at 0 _ rfl
  have A1 := oA.at 1 _ rfl
  have A2 := oA.at 2 _ rfl
  have Al := oA.lt
  clear oA
  have oB := HBx.out
  have B0 := oB.at 0 _ rfl
  have B1 := oB.at 1 _ rfl
  have B2 := oB.at 2 _ rfl
  have Bl := oB.lt
  clear oB
  go_upto_region 3 with fail
  clear A0 A1 A2 Al B0 B1 B2 Bl
  go_wp2_with (fail)
  go_loopw [5] (fun iv wr => ∃ (k : Nat), k ≤ nv ∧ iv = .int .i64 k ∧ Hid (Own A [.slice qv nv cv, .slice qu nu cu, .slice qt nt ct] wr) ∧ Hid (Own B [.slice pv nv dv, .slice pu nu du, .slice pt nt dt] wr) ∧ Hid (Below w.heap.size w wr)) (fun iv _ => (nv - (intOf iv).toNat))
  case atStart => exact ⟨0, Nat.zero_le _, rfl, HA, HBx, HB⟩
  case round =>
    clear HA HBx HB
    obtain ⟨k, hk, rfl, HA, HBx, HB⟩ := hrel
    by_cases hlt : k < nv
    · obtain ⟨D, o, eq1, hD, c0, c1, c2⟩ := (HMv.out.later HB.out).at3 hlt
      obtain ⟨D2, o2, eq2, hD2, d0, d1, d2⟩ := (HYv.out.later HB.out).at3 hlt
      have hki : (k : Int) < (nv : Int) := by omega
      have k0 : (0 : Int) ≤ (k : Int) := by omega
      have wk : IntKind.i64.wrap ((k : Int) + 1) = (k : Int) + 1 := IntWalk.i64_in _ (by have := BN.out; omega)
      subst eq1 eq2
      rw [← EV.out (k * 3) (by omega)] at d0
      rw [← EV.out (k * 3 + 1) (by omega)] at d1
      rw [← EV.out (k * 3 + 2) (by omega)] at d2
      generalize V (k * 3) = x0 at c0 d0
      generalize V (k * 3 + 1) = x1 at c1 d1
      generalize V (k * 3 + 2) = x2 at c2 d2
      have HLT := Lib.hid hlt
      clear hk hlt
      have oA := HA.out
      have A0 := oA.at 0 _ rfl
      have Al := oA.lt
      clear oA
      have oB := HBx.out
      have B0 := oB.at 0 _ rfl
      have Bl := oB.lt
      clear oB
      go_wp2_with (fail)
      go_quiet (fail)
      have hBd : Below wr.heap.size wr (wr.drewN nq) := below_drewN (Below.refl _ _) _
      have HA_ := Lib.hid (HA.out.later hBd); have HBx_ := Lib.hid (HBx.out.later hBd); have HB_ := Lib.hid (Below.go HB.out hBd)
      clear HA HBx HB hBd hD hD2 A0 Al B0 Bl c0 d0 c1 d1 c2 d2
      generalize wr.drewN nq = z1 at *
      go_wp2_with (fail)
      go_roundw
      case rel => (first | exact ⟨k + 1, HLT.out, by go_num, HA_, HBx_, HB_⟩ | ((repeat apply Exists.intro); exact ⟨⟨k + 1, HLT.out, by go_num, HA_, HBx_, HB_⟩, rfl⟩))
      case measure => (have := HLT.out; simp [intOf]; omega)
    · obtain rfl : nv = k := by omega
      clear hlt hk
      have oA := HA.out
      have A0 := oA.at 0 _ rfl
      have Al := oA.lt
      clear oA
      go_wp2_with (fail)
      clear A0 Al
      go_loopw [6] (fun iv wr => ∃ (k : Nat), k ≤ nu ∧ iv = .int .i64 k ∧ Hid (Own A [.slice qv nv cv, .slice qu nu cu, .slice qt nt ct] wr) ∧ Hid (Own B [.slice pv nv dv, .slice pu nu du, .slice pt nt dt] wr) ∧ Hid (Below w.heap.size w wr)) (fun iv _ => (nu - (intOf iv).toNat))
      case atStart => exact ⟨0, Nat.zero_le _, rfl, HA, HBx, HB⟩
      case round =>
        clear HA HBx HB
        obtain ⟨k, hk, rfl, HA, HBx, HB⟩ := hrel
        by_cases hlt : k < nu
        · obtain ⟨D, o, eq1, hD, c0, c1⟩ := (HMu.out.later HB.out).at2 hlt
          obtain ⟨D2, o2, eq2, hD2, d0, d1⟩ := (HYu.out.later HB.out).at2 hlt
          have hki : (k : Int) < (nu : Int) := by omega
          have k0 : (0 : Int) ≤ (k : Int) := by omega
          have wk : IntKind.i64.wrap ((k : Int) + 1) = (k : Int) + 1 := IntWalk.i64_in _ (by have := BN.out; omega)
          subst eq1 eq2
          rw [← EU.out (k * 2) (by omega)] at d0
          rw [← EU.out (k * 2 + 1) (by omega)] at d1
          generalize U (k * 2) = x0 at c0 d0
          generalize U (k * 2 + 1) = x1 at c1 d1
          have HLT := Lib.hid hlt
          clear hk hlt
          have oA := HA.out
          have A1 := oA.at 1 _ rfl
          have Al := oA.lt
          clear oA
          have oB := HBx.out
          have B1 := oB.at 1 _ rfl
          have Bl := oB.lt
          clear oB
          go_wp2_with (fail)
          go_quiet (fail)
          have hBd : Below wr.heap.size wr (wr.drewN nq) := below_drewN (Below.refl _ _) _
          have HA_ := Lib.hid (HA.out.later hBd); have HBx_ := Lib.hid (HBx.out.later hBd); have HB_ := Lib.hid (Below.go HB.out hBd)
          clear HA HBx HB hBd hD hD2 A1 Al B1 Bl c0 d0 c1 d1
          generalize wr.drewN nq = z1 at *
          go_wp2_with (fail)
          go_roundw
          case rel => (first | exact ⟨k + 1, HLT.out, by go_num, HA_, HBx_, HB_⟩ | ((repeat apply Exists.intro); exact ⟨⟨k + 1, HLT.out, by go_num, HA_, HBx_, HB_⟩, rfl⟩))
          case measure => (have := HLT.out; simp [intOf]; omega)
        · obtain rfl : nu = k := by omega
          clear hlt hk
          have oA := HA.out
          have A1 := oA.at 1 _ rfl
          have Al := oA.lt
          clear oA
          go_wp2_with (fail)
          clear A1 Al
          go_loopw [7] (fun iv wr => ∃ (k : Nat), k ≤ nt ∧ iv = .int .i64 k ∧ Hid (Own A [.slice qv nv cv, .slice qu nu cu, .slice qt nt ct] wr) ∧ Hid (Own B [.slice pv nv dv, .slice pu nu du, .slice pt nt dt] wr) ∧ Hid (Below w.heap.size w wr)) (fun iv _ => (nt - (intOf iv).toNat))
          case atStart => exact ⟨0, Nat.zero_le _, rfl, HA, HBx, HB⟩
          case round =>
            clear HA HBx HB
            obtain ⟨k, hk, rfl, HA, HBx, HB⟩ := hrel
            by_cases hlt : k < nt
            · obtain ⟨D, o, eq1, hD, c0, c1, c2⟩ := (HMt.out.later HB.out).at3 hlt
              obtain ⟨D2, o2, eq2, hD2, d0, d1, d2⟩ := (HYt.out.later HB.out).at3 hlt
              have hki : (k : Int) < (nt : Int) := by omega
              have k0 : (0 : Int) ≤ (k : Int) := by omega
              have wk : IntKind.i64.wrap ((k : Int) + 1) = (k : Int) + 1 := IntWalk.i64_in _ (by have := BN.out; omega)
              subst eq1 eq2
              rw [← ET.out (k * 3) (by omega)] at d0
              rw [← ET.out (k * 3 + 1) (by omega)] at d1
              rw [← ET.out (k * 3 + 2) (by omega)] at d2
              generalize R (k * 3) = x0 at c0 d0
              generalize R (k * 3 + 1) = x1 at c1 d1
              generalize R (k * 3 + 2) = x2 at c2 d2
              have HLT := Lib.hid hlt
              clear hk hlt
              have oA := HA.out
              have A2 := oA.at 2 _ rfl
              have Al := oA.lt
              clear oA
              have oB := HBx.out
              have B2 := oB.at 2 _ rfl
              have Bl := oB.lt
              clear oB
              go_wp2_with (fail)
              go_quiet (fail)
              have hBd : Below wr.heap.size wr (wr.drewN nq) := below_drewN (Below.refl _ _) _
              have HA_ := Lib.hid (HA.out.later hBd); have HBx_ := Lib.hid (HBx.out.later hBd); have HB_ := Lib.hid (Below.go HB.out hBd)
              clear HA HBx HB hBd hD hD2 A2 Al B2 Bl c0 d0 c1 d1 c2 d2
              generalize wr.drewN nq = z1 at *
              go_wp2_with (fail)
              go_roundw
              case rel => (first | exact ⟨k + 1, HLT.out, by go_num, HA_, HBx_, HB_⟩ | ((repeat apply Exists.intro); exact ⟨⟨k + 1, HLT.out, by go_num, HA_, HBx_, HB_⟩, rfl⟩))
              case measure => (have := HLT.out; simp [intOf]; omega)
            · obtain rfl : nt = k := by omega
              clear hlt hk
              have oA := HA.out
              have A2 := oA.at 2 _ rfl
              have Al := oA.lt
              clear oA
              go_wp2_with (fail)
              go_ret
              exact ⟨rfl, HB.out⟩
end Go.Proofs.Ytnopcgkhoennfaa
