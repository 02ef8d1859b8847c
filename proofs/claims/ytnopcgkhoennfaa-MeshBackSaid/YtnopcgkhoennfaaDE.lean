/- codec: the document's Put. -/
import Derived.Test.YtnopcgkhoennfaaDD
import Derived.Lib.Hide
import Derived.LoopN
import Derived.LoopTactic
import Derived.Deep.Onto
import Derived.Deep.QuietTactic
import Derived.BigQuiet
namespace Go.Proofs.Ytnopcgkhoennfaa
set_option linter.unusedVariables false
set_option maxRecDepth 2000
set_option linter.unusedSimpArgs false
open Go.RowKit
attribute [local go_sem] nums_length

set_option maxHeartbeats 8000000 in
theorem RPut_any (q p : Option Addr) (m c n c2 : Nat) (wd : Int) (f g : Nat → Int) (hg : ∀ k, k < n → 0 ≤ g k ∧ g k ≤ 18446744073709551615) (hmc : m ≤ c) (hc : c ≤ 9223372036854775807) (hnc : n ≤ c2) (hc2 : c2 ≤ 9223372036854775807) (hsz : m + 8 * n ≤ 70368744177664) (w : World) (hq : Byt w q m f) (hp : Nm w .u64 p n g) :
    Calls Try.prog 56 #[.slice q m c, .int .i64 wd, .slice p n c2] w fun e w' => ∃ v, e = .returned (.tuple #[v, .int .i64 (putE fitU wd n g)]) ∧ w'.ownsRow w.heap.size 5 1 v (putL m n wd (putE fitU wd n g)) (nums .u8 (outF f m wd.toNat g) (putL m n wd (putE fitU wd n g))) ∧ Below w.heap.size w w' := by
  have HG := Lib.hid hg; have HMC := Lib.hid hmc; have HC := Lib.hid hc; have HNC := Lib.hid hnc; have HC2 := Lib.hid hc2; have HSZ := Lib.hid hsz; have HQ := Lib.hid hq; have HP := Lib.hid hp
  clear hg hmc hc hnc hc2 hsz hq hp
  obtain ⟨i0, hi, hz0, hz1, hz2⟩ := infoB_parts
  by_cases hbad : wd < 1 ∨ 8 < wd
  · have E : putE fitU wd n g = 2 := by unfold putE badW; rw [if_pos (by simpa using hbad)]
    have L0 : putL m n wd 2 = 0 := rfl
    rw [E, L0]
    by_cases h1 : wd < 1
    · clear hbad E
      go_enter Try.func56, Try.ntmps56
      go_wp2_with (fail)
      exact bodyPost_ret (v := .tuple #[.slice none 0 0, .int .i64 2]) (by simp [results, Try.results56, go_sem]) rfl ⟨_, rfl, World.ownsRow_nil _ _ _ _, Below.refl _ _⟩
    · have h8 : 8 < wd := by omega
      clear hbad E
      go_enter Try.func56, Try.ntmps56
      go_wp2_with (fail)
      exact bodyPost_ret (v := .tuple #[.slice none 0 0, .int .i64 2]) (by simp [results, Try.results56, go_sem]) rfl ⟨_, rfl, World.ownsRow_nil _ _ _ _, Below.refl _ _⟩
  · obtain ⟨W, rfl⟩ : ∃ W : Nat, wd = (W : Int) := ⟨wd.toNat, by omega⟩
    have h1 : 1 ≤ W := by omega
    have h8 : W ≤ 8 := by omega
    have g1 : ¬((W : Int) < 1) := by omega
    have g8 : ¬(8 < (W : Int)) := by omega
    have EE : putE fitU (W : Int) n g = if allB (fun k => fitU W (g k)) n then 0 else 3 := by unfold putE badW; rw [if_neg (by simpa using hbad), Int.toNat_natCast]
    rw [EE, Int.toNat_natCast]
    obtain ⟨E, eE⟩ : ∃ E, (if allB (fun k => fitU W (g k)) n then (0 : Int) else 3) = E := ⟨_, rfl⟩
    rw [eE]
    have HE := Lib.hid eE
    have H1 := Lib.hid h1; have H8 := Lib.hid h8
    obtain ⟨M, eM⟩ : ∃ M, pw W - 1 = M := ⟨_, rfl⟩
    have MO := Lib.hid (fun w => most_any W h8 w)
    rw [eM] at MO
    have EM := Lib.hid eM
    have HM0 := Lib.hid (show 0 + m ≤ 140737488355328 by have := HSZ.out; omega)
    clear hbad EE h1 h8 eE eM
    go_enter Try.func56, Try.ntmps56
    go_wp2_with (at_builtin; refine wpList_append_b rfl _ _ rfl w.heap.size _ 0 [] rfl (World.ownsRow_lit w #[] 0 (Nat.le_refl _) (by decide) rfl) q m c f rfl (HQ.out.later (Below.al (Below.refl _ _))) HM0.out (by simp) ?_; intro v' w6 hrow hgr; obtain ⟨p', c', rfl, _⟩ := row_form hrow; rw [Nat.zero_add, List.nil_append, nums_congr .u8 (fun j hj => (outF_head f m W g hj).symm)] at hrow; have o4 := Lib.hid ((Below.al (o := (.cells #[] 5)) (Below.refl w.heap.size w)).grown hgr (by simp) (fun q hq => by cases hq; exact Nat.le_refl _)); have o6 := Lib.hid hrow; clear hrow hgr)
    go_loopw [8, 9] (fun v iv wr => ∃ (k t : Nat) (p3 : Option Addr) (c3 : Nat), k ≤ n ∧ Hid (t = m + W * k) ∧ Hid (∀ j, j < k → fitU W (g j) = true) ∧ v = .slice p3 t c3 ∧ iv = .int .i64 k ∧ Hid (wr.ownsRow w.heap.size 5 1 (.slice p3 t c3) t (nums .u8 (outF f m W g) t)) ∧ Hid (Below w.heap.size w wr)) (fun _ iv _ => (n - (intOf iv).toNat))
    case atStart => exact ⟨0, m, p', c', Nat.zero_le _, Lib.hid rfl, Lib.hid (fun j hj => absurd hj (Nat.not_lt_zero j)), rfl, rfl, o6, o4⟩
    case round =>
      clear o6 o4
      obtain ⟨k, t, p3, c3, hk, HT, ALL, rfl, rfl, ROW, HB⟩ := hrel
      by_cases hlt : k < n
      · obtain ⟨D, o, rfl, hD, hcell⟩ := (HP.out.later HB.out).at hlt
        have hki : (k : Int) < (n : Int) := by omega
        have k0 : (0 : Int) ≤ (k : Int) := by omega
        have wk : IntKind.i64.wrap ((k : Int) + 1) = (k : Int) + 1 := IntWalk.i64_in _ (by have := HNC.out; have := HC2.out; omega)
        have XB := Lib.hid (HG.out k hlt)
        obtain ⟨x, ex⟩ : ∃ x, g k = x := ⟨_, rfl⟩
        rw [ex] at hcell XB
        have EX := Lib.hid ex
        have HLT := Lib.hid hlt
        clear hlt hk ex
        go_wp2_with (fail)
        go_quiet (first | (go_at_call 55; exact Calls.quiet_of_same (MO.out _)))
        obtain ⟨w3, e3⟩ : ∃ x, x = wr.drewN nq := ⟨_, rfl⟩
        have hBd : Below wr.heap.size wr w3 := e3 ▸ below_drewN (Below.refl _ _) _
        rw [← e3]
        have ROW3 := Lib.hid (row_later ROW.out hBd)
        have HB3 := Lib.hid (Below.go HB.out hBd)
        have hc3 : w3.cell? ⟨D, o + k, none⟩ = some (.int .u64 x) := (hBd.cell (p := ⟨D, o + k, none⟩) hD).trans hcell
        have hD3 : D < w3.heap.size := Nat.lt_of_lt_of_le hD hBd.size
        clear e3 hBd hcell hD HB ROW
        by_cases hft : M < x
        · have A0 : allB (fun k => fitU W (g k)) n = false := allB_not HLT.out (by rw [EX.out]; unfold fitU; have := EM.out; simp; omega)
          obtain rfl : E = 3 := (by rw [← HE.out, A0]; rfl)
          clear A0 HE
          go_wp2_with (fail)
          exact bodyPost_ret (v := .tuple #[.slice none 0 0, .int .i64 3]) (by simp [results, Try.results56, go_sem]) rfl ⟨_, rfl, World.ownsRow_nil _ _ _ _, HB3.out⟩
        · have ALL2 : Hid (∀ j, j < k + 1 → fitU W (g j) = true) := Lib.hid fun j hj => (Nat.lt_succ_iff_lt_or_eq.1 hj).elim (ALL.out j) (fun e => by rw [e, EX.out]; unfold fitU; have := EM.out; simp; omega)
          have TB : Hid (t + W ≤ 70368744177664) := Lib.hid (by
            have a1 : W * (k + 1) ≤ W * n := Nat.mul_le_mul_left _ HLT.out
            have a2 := HSZ.out; have a4 := HT.out
            have a5 : W * n ≤ 8 * n := Nat.mul_le_mul_right _ H8.out
            rw [Nat.mul_succ] at a1
            omega)
          have X0 : Hid (x = x / pw 0) := Lib.hid (by rw [pw_zero, Int.ediv_one])
          clear MO ALL
          go_wp2_with (fail)
          go_loopw [8, 10, 11] (fun v xv jv wr => ∃ (j : Nat) (y : Int) (p3 : Option Addr) (c3 : Nat), j ≤ W ∧ xv = .int .u64 y ∧ Hid (y = x / pw j) ∧ Hid (0 ≤ y ∧ y ≤ 18446744073709551615) ∧ v = .slice p3 (t + j) c3 ∧ jv = .int .i64 j ∧ Hid (wr.ownsRow w.heap.size 5 1 (.slice p3 (t + j) c3) (t + j) (nums .u8 (outF f m W g) (t + j))) ∧ Hid (Below w.heap.size w wr)) (fun _ _ iv _ => (W - (intOf iv).toNat))
          case atStart => exact ⟨0, x, p3, c3, Nat.zero_le _, rfl, X0, XB, by rw [Nat.add_zero], rfl, Lib.hid (by rw [Nat.add_zero]; exact ROW3.out), HB3⟩
          case round =>
            clear ROW3 HB3 hc3 hD3 X0
            obtain ⟨j, y, p4, c4, hj, rfl, HY, YB, rfl, rfl, ROW, HB⟩ := hrel
            by_cases hjt : j < W
            · have hji : (j : Int) < (W : Int) := by omega
              have j0 : (0 : Int) ≤ (j : Int) := by omega
              have wj : IntKind.i64.wrap ((j : Int) + 1) = (j : Int) + 1 := IntWalk.i64_in _ (by have := H8.out; omega)
              obtain ⟨z, ez⟩ : ∃ z : Int, y % 256 = z := ⟨_, rfl⟩
              obtain ⟨y2, ey⟩ : ∃ y2 : Int, y / 256 = y2 := ⟨_, rfl⟩
              have Y0 := YB.out.1
              have m1 : y.tmod 256 = z := by rw [Int.tmod_eq_emod_of_nonneg Y0]; exact ez
              have d1 : y.tdiv 256 = y2 := by rw [Int.tdiv_eq_ediv_of_nonneg Y0]; exact ey
              have z0 : 0 ≤ z ∧ z < 256 := by omega
              have wz : IntKind.u64.wrap z = z := IntWalk.u64_in _ (by omega)
              have wz8 : IntKind.u8.wrap z = z := IntWalk.u8_in _ (by omega)
              have zm : z % 256 = z := by omega
              have YB2 : Hid (0 ≤ y2 ∧ y2 ≤ 18446744073709551615) := Lib.hid (by have := YB.out; omega)
              have wy2 : IntKind.u64.wrap y2 = y2 := IntWalk.u64_in _ (by have := YB2.out; omega)
              have HY2 : Hid (y2 = x / pw (j + 1)) := Lib.hid (by rw [← ey, HY.out, dg_next])
              have XS : Hid (nums .u8 (outF f m W g) (t + j) ++ [.int .u8 z] = nums .u8 (outF f m W g) (t + (j + 1))) := Lib.hid (nums_append .u8 (outF f m W g) (fun _ => z) (t + j) 1 (fun i hi => by
                obtain rfl : i = 0 := by omega
                rw [Nat.add_zero, HT.out, outF_dg f m W g k j hjt, EX.out, dg, ← HY.out]
                exact ez))
              have N63 := Lib.hid (show (t + j) + 1 ≤ maxLen by have := TB.out; unfold maxLen; omega)
              have NBY := Lib.hid (show ((t + j) + 1) * 1 ≤ 140737488355328 by have := TB.out; omega)
              have HS2 : Hid (w.heap.size ≤ (wr.alloc (.cells #[.int .u8 z] 5)).heap.size) := Lib.hid (Below.al HB.out).size
              have HJ := Lib.hid hjt
              clear hj hjt ez ey z0 Y0
              go_wp2_with (at_builtin; refine wpList_append_own _ rfl _ _ 28 rfl w.heap.size 5 i0 (.int .u8 0) 1 1 Try.underlying28 hi hz0 hz1 hz2 rfl (by decide) _ ((t + j)) _ rfl (row_later ROW.out (Below.al (Below.refl _ _))) ⟨wr.heap.size, 0, none⟩ 1 1 [.int .u8 z] rfl rfl (Own.newAt (by rfl)).news (by intro v hv; cases hv with | head => rfl | tail _ h => nomatch h) N63.out NBY.out HS2.out ?_; intro v' w6 hrow hgr _; obtain ⟨p', c', rfl, _⟩ := row_form hrow; rw [XS.out] at hrow; have o4 := Lib.hid ((Below.al HB.out).grown hgr (Below.al HB.out).size fun q hq => row_ge ROW.out q hq); have o6 := Lib.hid hrow; clear hrow hgr)
              go_roundw
              case rel => (first | exact ⟨j + 1, y2, _, _, HJ.out, rfl, HY2, YB2, rfl, by go_num, o6, o4⟩ | ((repeat apply Exists.intro); exact ⟨⟨j + 1, y2, _, _, HJ.out, rfl, HY2, YB2, rfl, by go_num, o6, o4⟩, rfl⟩))
              case measure => (have := HJ.out; simp [intOf]; omega)
            · obtain rfl : j = W := by omega
              have HT2 : Hid (t + j = m + j * (k + 1)) := Lib.hid (by rw [HT.out, Nat.mul_succ, Nat.add_assoc])
              go_wp2_with (fail)
              go_roundw
              case rel => (first | exact ⟨k + 1, t + j, _, _, HLT.out, HT2, ALL2, rfl, by go_num, ROW, HB⟩ | ((repeat apply Exists.intro); exact ⟨⟨k + 1, t + j, _, _, HLT.out, HT2, ALL2, rfl, by go_num, ROW, HB⟩, rfl⟩))
              case measure => (have := HLT.out; simp [intOf]; omega)
      · obtain rfl : k = n := by omega
        have A1 : allB (fun j => fitU W (g j)) k = true := allB_iff.2 ALL.out
        obtain rfl : E = 0 := (by rw [← HE.out, A1]; rfl)
        have TT : t = putL m k (W : Int) 0 := by rw [HT.out]; simp [putL]
        clear A1 HE
        go_wp2_with (fail)
        refine bodyPost_ret (v := .tuple #[.slice p3 t c3, .int .i64 0]) (by simp [results, Try.results56, go_sem]) rfl ⟨_, rfl, ?_, HB.out⟩
        rw [← TT]
        exact ROW.out
end Go.Proofs.Ytnopcgkhoennfaa
