/- asset: the document's Same of any two meshes, textures, assets. -/
import Derived.Test.YtokfhhngnpbdkaaDoorII
import Derived.Test.YtokfhhngnpbdkaaDoorMS2
import Derived.Lib.Hide
import Derived.LoopN
import Derived.LoopTactic
import Derived.Deep.Onto
import Derived.Deep.RegionHeld3
import Derived.Deep.QuietTactic
import Derived.BigQuiet
import Derived.Great.BuildSlice
import Derived.StillTailTactics
import Derived.Lib.SliceRun
namespace Go.Proofs.YtokfhhngnpbdkaaDoor
set_option linter.unusedVariables false
set_option maxRecDepth 2000
set_option linter.unusedSimpArgs false
open Go.RowKit
def sameM (M Y : Msh) : Bool := eqS3 M.nv Y.nv M.V Y.V && (eqS2 M.nu Y.nu M.U Y.U && eqS3 M.nt Y.nt M.R Y.R)
def sameX (M Y : Txr) : Bool := (M.S == Y.S) && eqS3 M.n Y.n M.f Y.f
theorem sameA_eq (A B : Ast) : sameA A B = ((A.k == B.k) && (sameM A.M B.M && (sameX A.X B.X && (matB A.g B.g && lgtB A.l B.l)))) := by
  unfold sameA sameM sameX
  simp only [Bool.and_assoc]
attribute [local go_sem ↓] neqlP neqlU neq3_run
set_option maxHeartbeats 8000000 in
theorem RSameM_any (M Y : Msh) (w : World) (hM : MeshAt M w) (hY : MeshAt Y w) (bn : M.nv ≤ 10000 ∧ M.nu ≤ 10000 ∧ M.nt ≤ 10000) :
    Calls Tryd.prog 43 #[(.agg #[.slice M.qv M.nv M.cv, .slice M.qu M.nu M.cu, .slice M.qt M.nt M.ct]), (.agg #[.slice Y.qv Y.nv Y.cv, .slice Y.qu Y.nu Y.cu, .slice Y.qt Y.nt Y.ct])] w fun e w' => e = .returned (.bool (sameM M Y)) ∧ Below w.heap.size w w' := by
  obtain ⟨qv, nv, cv, V, qu, nu, cu, U, qt, nt, ct, R⟩ := M
  obtain ⟨pv, mv, dv, V2, pu, mu, du, U2, pt, mt, dt, R2⟩ := Y
  have HMv := Lib.hid hM.v; have HMu := Lib.hid hM.u; have HMt := Lib.hid hM.t
  have HYv := Lib.hid hY.v; have HYu := Lib.hid hY.u; have HYt := Lib.hid hY.t
  unfold sameM
  dsimp only at *
  have BN := Lib.hid bn
  obtain ⟨b, eb⟩ : ∃ b, (eqS3 nv mv V V2 && (eqS2 nu mu U U2 && eqS3 nt mt R R2)) = b := ⟨_, rfl⟩
  rw [eb]
  have EB := Lib.hid eb
  clear hM hY bn eb
  go_enter Tryd.func43, Tryd.ntmps43
  go_upto_region 1 with fail
  obtain ⟨W0, hW⟩ : ∃ W0, W0 = ((w.alloc (.cells #[.slice qv nv cv, .slice qu nu cu, .slice qt nt ct] 26)).alloc (.cells #[.slice pv mv dv, .slice pu mu du, .slice pt mt dt] 26)) := ⟨_, rfl⟩
  have hB0 : Below w.heap.size w W0 := hW ▸ (Below.al (Below.al (Below.refl _ _)))
  have HA : Hid (Own w.heap.size ([.slice qv nv cv, .slice qu nu cu, .slice qt nt ct]) W0) := Lib.hid (hW ▸ (show Own w.heap.size ([.slice qv nv cv, .slice qu nu cu, .slice qt nt ct]) (w.alloc (.cells #[.slice qv nv cv, .slice qu nu cu, .slice qt nt ct] 26)) from Own.newAt (by simp)).alloc)
  have HBx : Hid (Own (w.heap.size + 1) ([.slice pv mv dv, .slice pu mu du, .slice pt mt dt]) W0) := Lib.hid (hW ▸ (show Own (w.heap.size + 1) ([.slice pv mv dv, .slice pu mu du, .slice pt mt dt]) ((w.alloc (.cells #[.slice qv nv cv, .slice qu nu cu, .slice qt nt ct] 26)).alloc (.cells #[.slice pv mv dv, .slice pu mu du, .slice pt mt dt] 26)) from Own.newAt (by simp)))
  rw [← hW]
  clear hW
  obtain ⟨B, eB⟩ : ∃ X, X = (w.heap.size + 1) := ⟨_, rfl⟩
  rw [← eB] at HBx ⊢
  have Bw : w.heap.size ≤ B := by omega
  obtain ⟨A, eA⟩ : ∃ X, X = w.heap.size := ⟨_, rfl⟩
  rw [← eA] at HA ⊢
  have Aw : w.heap.size ≤ A := by omega
  have nAB : A ≠ B := by omega
  have nBA : B ≠ A := by omega
  clear eA eB
  have HB := Lib.hid hB0
  clear hB0
  have oA := HA.out
  have A0 := oA.at 0 _ rfl
  have A1 := oA.at 1 _ rfl
  have A2 := oA.at 2 _ rfl
  have Al := oA.lt
  clear oA
  have oB := HBx.out
  have B0 := oB.at 0 _ rfl
  have B1 := oB.at 1 _ rfl
  have B2 := oB.at 2 _ rfl
  have Bl := oB.lt
  clear oB
  by_cases x1 : nv = mv
  · subst x1
    by_cases x2 : nu = mu
    · subst x2
      by_cases x3 : nt = mt
      · subst x3
        go_upto_region 3 with fail
        clear A0 A1 A2 Al B0 B1 B2 Bl
        go_wp2_with (fail)
        go_loopw [5] (fun iv wr => ∃ (k : Nat), k ≤ nv ∧ iv = .int .i64 k ∧ Hid (∀ j, j < k → el3 V V2 j = true) ∧ Hid (Own A [.slice qv nv cv, .slice qu nu cu, .slice qt nt ct] wr) ∧ Hid (Own B [.slice pv nv dv, .slice pu nu du, .slice pt nt dt] wr) ∧ Hid (Below w.heap.size w wr)) (fun iv _ => (nv - (intOf iv).toNat))
        case atStart => exact ⟨0, Nat.zero_le _, rfl, Lib.hid (fun j hj => absurd hj (Nat.not_lt_zero j)), HA, HBx, HB⟩
        case round =>
          clear HA HBx HB
          obtain ⟨k, hk, rfl, ALL, HA, HBx, HB⟩ := hrel
          by_cases hlt : k < nv
          · obtain ⟨D, o, eq1, hD, c0_, c1_, c2_⟩ := (HMv.out.later HB.out).at3 hlt
            obtain ⟨D2, o2, eq2, hD2, d0_, d1_, d2_⟩ := (HYv.out.later HB.out).at3 hlt
            have hki : (k : Int) < (nv : Int) := by omega
            have k0 : (0 : Int) ≤ (k : Int) := by omega
            have wk : IntKind.i64.wrap ((k : Int) + 1) = (k : Int) + 1 := IntWalk.i64_in _ (by have := BN.out; omega)
            subst eq1 eq2
            obtain ⟨u, eu⟩ : ∃ u, el3 V V2 k = u := ⟨_, rfl⟩
            have EU := Lib.hid eu
            unfold el3 at eu
            generalize V (k * 3) = x0 at c0_ eu
            generalize V (k * 3 + 1) = x1 at c1_ eu
            generalize V (k * 3 + 2) = x2 at c2_ eu
            generalize V2 (k * 3) = y0 at d0_ eu
            generalize V2 (k * 3 + 1) = y1 at d1_ eu
            generalize V2 (k * 3 + 2) = y2 at d2_ eu
            have HLT := Lib.hid hlt
            clear hk hlt
            have oA := HA.out
            have A0 := oA.at 0 _ rfl
            have Al := oA.lt
            clear oA
            have oB := HBx.out
            have B0 := oB.at 0 _ rfl
            have Bl := oB.lt
            clear oB
            go_wp2_with (fail)
            go_quiet (fail)
            have hBd : Below wr.heap.size wr (wr.drewN nq) := below_drewN (Below.refl _ _) _
            have HA_ := Lib.hid (HA.out.later hBd); have HBx_ := Lib.hid (HBx.out.later hBd); have HB_ := Lib.hid (Below.go HB.out hBd)
            clear HA HBx HB hBd hD hD2 A0 Al B0 Bl c0_ d0_ c1_ d1_ c2_ d2_
            generalize wr.drewN nq = z1 at *
            cases u with
            | false =>
              obtain rfl : b = false := EB.out.symm.trans (by rw [eqS3_no HLT.out EU.out, Bool.false_and])
              clear eu ALL
              go_wp2_with (fail)
              go_ret
              exact ⟨rfl, HB_.out⟩
            | true =>
              have ALL2 : Hid (∀ j, j < k + 1 → el3 V V2 j = true) := Lib.hid fun j hj => (Nat.lt_succ_iff_lt_or_eq.1 hj).elim (ALL.out j) (fun e => by rw [e]; exact EU.out)
              clear eu ALL
              go_wp2_with (fail)
              go_roundw
              case rel => (first | exact ⟨k + 1, HLT.out, by go_num, ALL2, HA_, HBx_, HB_⟩ | ((repeat apply Exists.intro); exact ⟨⟨k + 1, HLT.out, by go_num, ALL2, HA_, HBx_, HB_⟩, rfl⟩))
              case measure => (have := HLT.out; simp [intOf]; omega)
          · obtain rfl : nv = k := by omega
            clear hlt hk
            have oA := HA.out
            have A0 := oA.at 0 _ rfl
            have Al := oA.lt
            clear oA
            have Y1 : Hid (eqS3 nv nv V V2 = true) := Lib.hid (eqS3_yes rfl ALL.out)
            clear ALL
            go_wp2_with (fail)
            clear A0 Al
            go_loopw [6] (fun iv wr => ∃ (k : Nat), k ≤ nu ∧ iv = .int .i64 k ∧ Hid (∀ j, j < k → el2 U U2 j = true) ∧ Hid (Own A [.slice qv nv cv, .slice qu nu cu, .slice qt nt ct] wr) ∧ Hid (Own B [.slice pv nv dv, .slice pu nu du, .slice pt nt dt] wr) ∧ Hid (Below w.heap.size w wr)) (fun iv _ => (nu - (intOf iv).toNat))
            case atStart => exact ⟨0, Nat.zero_le _, rfl, Lib.hid (fun j hj => absurd hj (Nat.not_lt_zero j)), HA, HBx, HB⟩
            case round =>
              clear HA HBx HB
              obtain ⟨k, hk, rfl, ALL, HA, HBx, HB⟩ := hrel
              by_cases hlt : k < nu
              · obtain ⟨D, o, eq1, hD, c0_, c1_⟩ := (HMu.out.later HB.out).at2 hlt
                obtain ⟨D2, o2, eq2, hD2, d0_, d1_⟩ := (HYu.out.later HB.out).at2 hlt
                have hki : (k : Int) < (nu : Int) := by omega
                have k0 : (0 : Int) ≤ (k : Int) := by omega
                have wk : IntKind.i64.wrap ((k : Int) + 1) = (k : Int) + 1 := IntWalk.i64_in _ (by have := BN.out; omega)
                subst eq1 eq2
                obtain ⟨u, eu⟩ : ∃ u, el2 U U2 k = u := ⟨_, rfl⟩
                have EU := Lib.hid eu
                unfold el2 at eu
                generalize U (k * 2) = x0 at c0_ eu
                generalize U (k * 2 + 1) = x1 at c1_ eu
                generalize U2 (k * 2) = y0 at d0_ eu
                generalize U2 (k * 2 + 1) = y1 at d1_ eu
                have HLT := Lib.hid hlt
                clear hk hlt
                have oA := HA.out
                have A1 := oA.at 1 _ rfl
                have Al := oA.lt
                clear oA
                have oB := HBx.out
                have B1 := oB.at 1 _ rfl
                have Bl := oB.lt
                clear oB
                go_wp2_with (fail)
                go_quiet (fail)
                have hBd : Below wr.heap.size wr (wr.drewN nq) := below_drewN (Below.refl _ _) _
                have HA_ := Lib.hid (HA.out.later hBd); have HBx_ := Lib.hid (HBx.out.later hBd); have HB_ := Lib.hid (Below.go HB.out hBd)
                clear HA HBx HB hBd hD hD2 A1 Al B1 Bl c0_ d0_ c1_ d1_
                generalize wr.drewN nq = z1 at *
                cases u with
                | false =>
                  obtain rfl : b = false := EB.out.symm.trans (by rw [eqS2_no HLT.out EU.out, Bool.false_and, Bool.and_false])
                  clear eu ALL
                  go_wp2_with (fail)
                  go_ret
                  exact ⟨rfl, HB_.out⟩
                | true =>
                  have ALL2 : Hid (∀ j, j < k + 1 → el2 U U2 j = true) := Lib.hid fun j hj => (Nat.lt_succ_iff_lt_or_eq.1 hj).elim (ALL.out j) (fun e => by rw [e]; exact EU.out)
                  clear eu ALL
                  go_wp2_with (fail)
                  go_roundw
                  case rel => (first | exact ⟨k + 1, HLT.out, by go_num, ALL2, HA_, HBx_, HB_⟩ | ((repeat apply Exists.intro); exact ⟨⟨k + 1, HLT.out, by go_num, ALL2, HA_, HBx_, HB_⟩, rfl⟩))
                  case measure => (have := HLT.out; simp [intOf]; omega)
              · obtain rfl : nu = k := by omega
                clear hlt hk
                have oA := HA.out
                have A1 := oA.at 1 _ rfl
                have Al := oA.lt
                clear oA
                have Y2 : Hid (eqS2 nu nu U U2 = true) := Lib.hid (eqS2_yes rfl ALL.out)
                clear ALL
                go_wp2_with (fail)
                clear A1 Al
                go_loopw [7] (fun iv wr => ∃ (k : Nat), k ≤ nt ∧ iv = .int .i64 k ∧ Hid (∀ j, j < k → el3 R R2 j = true) ∧ Hid (Own A [.slice qv nv cv, .slice qu nu cu, .slice qt nt ct] wr) ∧ Hid (Own B [.slice pv nv dv, .slice pu nu du, .slice pt nt dt] wr) ∧ Hid (Below w.heap.size w wr)) (fun iv _ => (nt - (intOf iv).toNat))
                case atStart => exact ⟨0, Nat.zero_le _, rfl, Lib.hid (fun j hj => absurd hj (Nat.not_lt_zero j)), HA, HBx, HB⟩
                case round =>
                  clear HA HBx HB
                  obtain ⟨k, hk, rfl, ALL, HA, HBx, HB⟩ := hrel
                  by_cases hlt : k < nt
                  · obtain ⟨D, o, eq1, hD, c0_, c1_, c2_⟩ := (HMt.out.later HB.out).at3 hlt
                    obtain ⟨D2, o2, eq2, hD2, d0_, d1_, d2_⟩ := (HYt.out.later HB.out).at3 hlt
                    have hki : (k : Int) < (nt : Int) := by omega
                    have k0 : (0 : Int) ≤ (k : Int) := by omega
                    have wk : IntKind.i64.wrap ((k : Int) + 1) = (k : Int) + 1 := IntWalk.i64_in _ (by have := BN.out; omega)
                    subst eq1 eq2
                    obtain ⟨u, eu⟩ : ∃ u, el3 R R2 k = u := ⟨_, rfl⟩
                    have EU := Lib.hid eu
                    unfold el3 at eu
                    generalize R (k * 3) = x0 at c0_ eu
                    generalize R (k * 3 + 1) = x1 at c1_ eu
                    generalize R (k * 3 + 2) = x2 at c2_ eu
                    generalize R2 (k * 3) = y0 at d0_ eu
                    generalize R2 (k * 3 + 1) = y1 at d1_ eu
                    generalize R2 (k * 3 + 2) = y2 at d2_ eu
                    have HLT := Lib.hid hlt
                    clear hk hlt
                    have oA := HA.out
                    have A2 := oA.at 2 _ rfl
                    have Al := oA.lt
                    clear oA
                    have oB := HBx.out
                    have B2 := oB.at 2 _ rfl
                    have Bl := oB.lt
                    clear oB
                    go_wp2_with (fail)
                    go_quiet (fail)
                    have hBd : Below wr.heap.size wr (wr.drewN nq) := below_drewN (Below.refl _ _) _
                    have HA_ := Lib.hid (HA.out.later hBd); have HBx_ := Lib.hid (HBx.out.later hBd); have HB_ := Lib.hid (Below.go HB.out hBd)
                    clear HA HBx HB hBd hD hD2 A2 Al B2 Bl c0_ d0_ c1_ d1_ c2_ d2_
                    generalize wr.drewN nq = z1 at *
                    cases u with
                    | false =>
                      obtain rfl : b = false := EB.out.symm.trans (by rw [eqS3_no HLT.out EU.out, Bool.and_false, Bool.and_false])
                      clear eu ALL
                      go_wp2_with (fail)
                      go_ret
                      exact ⟨rfl, HB_.out⟩
                    | true =>
                      have ALL2 : Hid (∀ j, j < k + 1 → el3 R R2 j = true) := Lib.hid fun j hj => (Nat.lt_succ_iff_lt_or_eq.1 hj).elim (ALL.out j) (fun e => by rw [e]; exact EU.out)
                      clear eu ALL
                      go_wp2_with (fail)
                      go_roundw
                      case rel => (first | exact ⟨k + 1, HLT.out, by go_num, ALL2, HA_, HBx_, HB_⟩ | ((repeat apply Exists.intro); exact ⟨⟨k + 1, HLT.out, by go_num, ALL2, HA_, HBx_, HB_⟩, rfl⟩))
                      case measure => (have := HLT.out; simp [intOf]; omega)
                  · obtain rfl : nt = k := by omega
                    clear hlt hk
                    have oA := HA.out
                    have A2 := oA.at 2 _ rfl
                    have Al := oA.lt
                    clear oA
                    obtain rfl : b = true := EB.out.symm.trans (by rw [Y1.out, Y2.out, eqS3_yes rfl ALL.out]; rfl)
                    clear ALL
                    go_wp2_with (fail)
                    go_ret
                    exact ⟨rfl, HB.out⟩
      · have d3 : ((nt : Int) != (mt : Int)) = true := by simp; omega
        obtain rfl : b = false := EB.out.symm.trans (by rw [eqS3_len x3, Bool.and_false, Bool.and_false])
        go_wp2_with (fail)
        go_ret
        exact ⟨rfl, HB.out⟩
    · have d2 : ((nu : Int) != (mu : Int)) = true := by simp; omega
      obtain rfl : b = false := EB.out.symm.trans (by rw [eqS2_len x2, Bool.false_and, Bool.and_false])
      go_wp2_with (fail)
      go_ret
      exact ⟨rfl, HB.out⟩
  · have d1 : ((nv : Int) != (mv : Int)) = true := by simp; omega
    obtain rfl : b = false := EB.out.symm.trans (by rw [eqS3_len x1, Bool.false_and])
    go_wp2_with (fail)
    go_ret
    exact ⟨rfl, HB.out⟩
set_option maxHeartbeats 8000000 in
theorem RSameX_any (M Y : Txr) (w : World) (hM : TxAt M w) (hY : TxAt Y w) (bn : M.n ≤ 10000) :
    Calls Tryd.prog 44 #[(.agg #[.int .i64 M.S, .slice M.q M.n M.c]), (.agg #[.int .i64 Y.S, .slice Y.q Y.n Y.c])] w fun e w' => e = .returned (.bool (sameX M Y)) ∧ Below w.heap.size w w' := by
  obtain ⟨S, q, n, c, f⟩ := M
  obtain ⟨S2, p, m, d, f2⟩ := Y
  have HM := Lib.hid hM.t; have HY := Lib.hid hY.t
  unfold sameX
  dsimp only at *
  have BN := Lib.hid bn
  obtain ⟨b, eb⟩ : ∃ b, ((S == S2) && eqS3 n m f f2) = b := ⟨_, rfl⟩
  rw [eb]
  have EB := Lib.hid eb
  clear hM hY bn eb
  go_enter Tryd.func44, Tryd.ntmps44
  go_upto_region 1 with fail
  obtain ⟨W0, hW⟩ : ∃ W0, W0 = ((w.alloc (.cells #[.int .i64 S, .slice q n c] 28)).alloc (.cells #[.int .i64 S2, .slice p m d] 28)) := ⟨_, rfl⟩
  have hB0 : Below w.heap.size w W0 := hW ▸ (Below.al (Below.al (Below.refl _ _)))
  have HA : Hid (Own w.heap.size ([.int .i64 S, .slice q n c]) W0) := Lib.hid (hW ▸ (show Own w.heap.size ([.int .i64 S, .slice q n c]) (w.alloc (.cells #[.int .i64 S, .slice q n c] 28)) from Own.newAt (by simp)).alloc)
  have HBx : Hid (Own (w.heap.size + 1) ([.int .i64 S2, .slice p m d]) W0) := Lib.hid (hW ▸ (show Own (w.heap.size + 1) ([.int .i64 S2, .slice p m d]) ((w.alloc (.cells #[.int .i64 S, .slice q n c] 28)).alloc (.cells #[.int .i64 S2, .slice p m d] 28)) from Own.newAt (by simp)))
  rw [← hW]
  clear hW
  obtain ⟨B, eB⟩ : ∃ X, X = (w.heap.size + 1) := ⟨_, rfl⟩
  rw [← eB] at HBx ⊢
  have Bw : w.heap.size ≤ B := by omega
  obtain ⟨A, eA⟩ : ∃ X, X = w.heap.size := ⟨_, rfl⟩
  rw [← eA] at HA ⊢
  have Aw : w.heap.size ≤ A := by omega
  have nAB : A ≠ B := by omega
  have nBA : B ≠ A := by omega
  clear eA eB
  have HB := Lib.hid hB0
  clear hB0
  have oA := HA.out
  have A0 := oA.at 0 _ rfl
  have A1 := oA.at 1 _ rfl
  have Al := oA.lt
  clear oA
  have oB := HBx.out
  have B0 := oB.at 0 _ rfl
  have B1 := oB.at 1 _ rfl
  have Bl := oB.lt
  clear oB
  by_cases x1 : S = S2
  · subst x1
    by_cases x2 : n = m
    · subst x2
      go_upto_region 3 with fail
      clear A0 A1 Al B0 B1 Bl
      go_wp2_with (fail)
      go_loopw [5] (fun iv wr => ∃ (k : Nat), k ≤ n ∧ iv = .int .i64 k ∧ Hid (∀ j, j < k → el3 f f2 j = true) ∧ Hid (Own A [.int .i64 S, .slice q n c] wr) ∧ Hid (Own B [.int .i64 S, .slice p n d] wr) ∧ Hid (Below w.heap.size w wr)) (fun iv _ => (n - (intOf iv).toNat))
      case atStart => exact ⟨0, Nat.zero_le _, rfl, Lib.hid (fun j hj => absurd hj (Nat.not_lt_zero j)), HA, HBx, HB⟩
      case round =>
        clear HA HBx HB
        obtain ⟨k, hk, rfl, ALL, HA, HBx, HB⟩ := hrel
        by_cases hlt : k < n
        · obtain ⟨D, o, eq1, hD, c0_, c1_, c2_⟩ := (HM.out.later HB.out).at3 hlt
          obtain ⟨D2, o2, eq2, hD2, d0_, d1_, d2_⟩ := (HY.out.later HB.out).at3 hlt
          have hki : (k : Int) < (n : Int) := by omega
          have k0 : (0 : Int) ≤ (k : Int) := by omega
          have wk : IntKind.i64.wrap ((k : Int) + 1) = (k : Int) + 1 := IntWalk.i64_in _ (by have := BN.out; omega)
          subst eq1 eq2
          obtain ⟨u, eu⟩ : ∃ u, el3 f f2 k = u := ⟨_, rfl⟩
          have EU := Lib.hid eu
          unfold el3 at eu
          generalize f (k * 3) = x0 at c0_ eu
          generalize f (k * 3 + 1) = x1 at c1_ eu
          generalize f (k * 3 + 2) = x2 at c2_ eu
          generalize f2 (k * 3) = y0 at d0_ eu
          generalize f2 (k * 3 + 1) = y1 at d1_ eu
          generalize f2 (k * 3 + 2) = y2 at d2_ eu
          have HLT := Lib.hid hlt
          clear hk hlt
          have oA := HA.out
          have A1 := oA.at 1 _ rfl
          have Al := oA.lt
          clear oA
          have oB := HBx.out
          have B1 := oB.at 1 _ rfl
          have Bl := oB.lt
          clear oB
          go_wp2_with (fail)
          go_quiet (fail)
          have hBd : Below wr.heap.size wr (wr.drewN nq) := below_drewN (Below.refl _ _) _
          have HA_ := Lib.hid (HA.out.later hBd); have HBx_ := Lib.hid (HBx.out.later hBd); have HB_ := Lib.hid (Below.go HB.out hBd)
          clear HA HBx HB hBd hD hD2 A1 Al B1 Bl c0_ d0_ c1_ d1_ c2_ d2_
          generalize wr.drewN nq = z1 at *
          cases u with
          | false =>
            obtain rfl : b = false := EB.out.symm.trans (by rw [eqS3_no HLT.out EU.out, Bool.and_false])
            clear eu ALL
            go_wp2_with (fail)
            go_ret
            exact ⟨rfl, HB_.out⟩
          | true =>
            have ALL2 : Hid (∀ j, j < k + 1 → el3 f f2 j = true) := Lib.hid fun j hj => (Nat.lt_succ_iff_lt_or_eq.1 hj).elim (ALL.out j) (fun e => by rw [e]; exact EU.out)
            clear eu ALL
            go_wp2_with (fail)
            go_roundw
            case rel => (first | exact ⟨k + 1, HLT.out, by go_num, ALL2, HA_, HBx_, HB_⟩ | ((repeat apply Exists.intro); exact ⟨⟨k + 1, HLT.out, by go_num, ALL2, HA_, HBx_, HB_⟩, rfl⟩))
            case measure => (have := HLT.out; simp [intOf]; omega)
        · obtain rfl : n = k := by omega
          clear hlt hk
          have oA := HA.out
          have A1 := oA.at 1 _ rfl
          have Al := oA.lt
          clear oA
          obtain rfl : b = true := EB.out.symm.trans (by rw [eqS3_yes rfl ALL.out]; simp)
          clear ALL
          go_wp2_with (fail)
          go_ret
          exact ⟨rfl, HB.out⟩
    · have d2 : ((n : Int) != (m : Int)) = true := by simp; omega
      obtain rfl : b = false := EB.out.symm.trans (by rw [eqS3_len x2, Bool.and_false])
      go_wp2_with (fail)
      go_ret
      exact ⟨rfl, HB.out⟩
  · have d1 : (S != S2) = true := by simpa using x1
    have d2 : (S == S2) = false := by simpa using x1
    obtain rfl : b = false := EB.out.symm.trans (by rw [d2, Bool.false_and])
    go_wp2_with (fail)
    go_ret
    exact ⟨rfl, HB.out⟩
end Go.Proofs.YtokfhhngnpbdkaaDoor
