/- mesh: the document's Check. -/
import Derived.Test.YtnopcgkhoennfaaSD
import Derived.Lib.Hide
import Derived.LoopN
import Derived.LoopTactic
import Derived.Deep.Onto
import Derived.Deep.RegionHeld3
import Derived.Deep.QuietTactic
import Derived.BigQuiet
namespace Go.Proofs.Ytnopcgkhoennfaa
set_option linter.unusedVariables false
set_option maxRecDepth 2000
set_option linter.unusedSimpArgs false
open Go.RowKit
theorem okU_no {U : Nat → Int} {i n : Nat} (hi : i < n) (h : ¬((0 ≤ U (i * 2) ∧ U (i * 2) ≤ 65535) ∧ (0 ≤ U (i * 2 + 1) ∧ U (i * 2 + 1) ≤ 65535))) : allB (okUs U) n = false := allB_not hi (decide_eq_false h)
theorem okT_no {R : Nat → Int} {i n m : Nat} (hi : i < n) (h : ¬((0 ≤ R (i * 3) ∧ R (i * 3) < (m : Int)) ∧ (0 ≤ R (i * 3 + 1) ∧ R (i * 3 + 1) < (m : Int)) ∧ (0 ≤ R (i * 3 + 2) ∧ R (i * 3 + 2) < (m : Int)) ∧ R (i * 3) ≠ R (i * 3 + 1) ∧ R (i * 3 + 1) ≠ R (i * 3 + 2) ∧ R (i * 3 + 2) ≠ R (i * 3))) : allB (okTs m R) n = false := allB_not hi (decide_eq_false h)
theorem allB_step {p : Nat → Bool} {k : Nat} (h : ∀ j, j < k → p j = true) (hk : p k = true) : ∀ j, j < k + 1 → p j = true := fun j hj => (Nat.lt_succ_iff_lt_or_eq.1 hj).elim (h j) (fun e => by rw [e]; exact hk)
set_option maxHeartbeats 16000000 in
theorem RCheck_any (M : Msh) (w : World) (hM : MeshAt M w) : Calls Try.prog 12 #[(.agg #[.slice M.qv M.nv M.cv, .slice M.qu M.nu M.cu, .slice M.qt M.nt M.ct])] w fun e w' => e = .returned (.int .i64 (chkM M)) ∧ Below w.heap.size w w' := by
  obtain ⟨qv, nv, cv, V, qu, nu, cu, U, qt, nt, ct, R⟩ := M
  obtain ⟨mv, mu, mt, lv, lu, lt, xv, xu, xt⟩ := hM
  dsimp only at *
  have V1 := Lib.hid (@chk_1 nv nu nt V U R); have V2 := Lib.hid (@chk_2 nv nu nt V U R); have V3 := Lib.hid (@chk_3 nv nu nt V U R); have V4 := Lib.hid (@chk_4 nv nu nt V U R); have V5 := Lib.hid (@chk_5 nv nu nt V U R); have V6 := Lib.hid (@chk_6 nv nu nt V U R)
  change Calls _ _ _ _ fun e w' => e = .returned (.int .i64 (chkF nv nu nt V U R)) ∧ Below w.heap.size w w'
  generalize chkF nv nu nt V U R = z at *
  have HV := Lib.hid mv; have HU := Lib.hid mu; have HT := Lib.hid mt
  have LX := Lib.hid (And.intro lv (And.intro lu (And.intro lt (And.intro xv (And.intro xu xt)))))
  clear mv mu mt lv lu lt xv xu xt
  go_enter Try.func12, Try.ntmps12
  go_upto_region 1 with fail
  obtain ⟨W0, hW⟩ : ∃ W0, W0 = (w.alloc (.cells #[.slice qv nv cv, .slice qu nu cu, .slice qt nt ct] 26)) := ⟨_, rfl⟩
  have hB0 : Below w.heap.size w W0 := hW ▸ (Below.al (Below.refl _ _))
  have HA : Hid (Own w.heap.size [.slice qv nv cv, .slice qu nu cu, .slice qt nt ct] W0) := Lib.hid (hW ▸ (Own.newAt (by simp)))
  rw [← hW]
  clear hW
  obtain ⟨A, eA⟩ : ∃ X, X = w.heap.size := ⟨_, rfl⟩
  rw [← eA] at HA ⊢
  have Aw : w.heap.size ≤ A := by omega
  clear eA
  have HB := Lib.hid hB0
  have HV1 := Lib.hid (HV.out.later hB0); have HU1 := Lib.hid (HU.out.later hB0); have HT1 := Lib.hid (HT.out.later hB0)
  clear hB0 HV HU HT
  have oA := HA.out
  have A0 := oA.at 0 _ rfl
  have A1 := oA.at 1 _ rfl
  have A2 := oA.at 2 _ rfl
  have Al := oA.lt
  clear oA
  by_cases c1 : 64 < nv ∨ 64 < nt
  · obtain rfl : z = 3 := V1.out c1
    clear V1 V2 V3 V4 V5 V6 HV1 HU1 HT1
    by_cases c0 : (64 : Int) < (nv : Int)
    · clear c1
      go_wp2_with (fail)
      go_ret
      exact ⟨rfl, HB.out⟩
    · have c2 : (64 : Int) < (nt : Int) := by omega
      have d0 : decide ((64 : Int) < (nv : Int)) = false := decide_eq_false c0
      clear c1 c0
      go_wp2_with (fail)
      go_ret
      exact ⟨rfl, HB.out⟩
  have C1 := Lib.hid c1
  have d0 : decide ((64 : Int) < (nv : Int)) = false := decide_eq_false (by omega)
  have d1 : decide ((64 : Int) < (nt : Int)) = false := decide_eq_false (by omega)
  clear c1
  by_cases c2 : nv = 0 ∨ nt = 0 ∨ nu ≠ nv
  · obtain rfl : z = 5 := V2.out C1.out c2
    clear V1 V2 V3 V4 V5 V6 HV1 HU1 HT1
    by_cases c0 : (nv : Int) < 1
    · clear c2
      go_wp2_with (fail)
      go_ret
      exact ⟨rfl, HB.out⟩
    · have d2 : decide ((nv : Int) < 1) = false := decide_eq_false c0
      by_cases c3 : (nt : Int) < 1
      · clear c2 c0
        go_wp2_with (fail)
        go_ret
        exact ⟨rfl, HB.out⟩
      · have d3 : decide ((nt : Int) < 1) = false := decide_eq_false c3
        have d4 : ((nu : Int) != (nv : Int)) = true := by simp; omega
        clear c2 c0 c3
        go_wp2_with (fail)
        go_ret
        exact ⟨rfl, HB.out⟩
  have C2 := Lib.hid c2
  have d2 : decide ((nv : Int) < 1) = false := decide_eq_false (by omega)
  have d3 : decide ((nt : Int) < 1) = false := decide_eq_false (by omega)
  obtain rfl : nu = nv := by omega
  clear c2
  have n0 : nu ≤ 64 := by have := C1.out; omega
  have t0 : nt ≤ 64 := by have := C1.out; omega
  have N0 := Lib.hid n0; have T0 := Lib.hid t0
  clear V1 V2 n0 t0
  go_upto_region 5 with fail
  clear A0 A1 A2 Al d0 d1 d2 d3
  go_wp2_with (fail)
  go_loopw [3] (fun iv wr => ∃ (k : Nat), k ≤ nu ∧ iv = .int .i64 k ∧ Hid (∀ j, j < k → okPs V j = true) ∧ Hid (Own A [.slice qv nu cv, .slice qu nu cu, .slice qt nt ct] wr) ∧ Hid (Below w.heap.size w wr) ∧ Hid (NmS wr 3 qv nu V) ∧ Hid (NmS wr 2 qu nu U) ∧ Hid (NmS wr 3 qt nt R)) (fun iv _ => (nu - (intOf iv).toNat))
  case atStart => exact ⟨0, Nat.zero_le _, rfl, Lib.hid (fun j hj => absurd hj (Nat.not_lt_zero j)), HA, HB, HV1, HU1, HT1⟩
  case round =>
    clear HA HB HV1 HU1 HT1
    obtain ⟨k, hk, rfl, ALL, HA, HB, HV1, HU1, HT1⟩ := hrel
    by_cases hlt : k < nu
    · obtain ⟨D, o, rfl, hD, hh⟩ := HV1.out.at hlt
      have hki : (k : Int) < (nu : Int) := by omega
      have k0 : (0 : Int) ≤ (k : Int) := by omega
      have wk : IntKind.i64.wrap ((k : Int) + 1) = (k : Int) + 1 := IntWalk.i64_in _ (by have := N0.out; omega)
      have c0 := hh.at 0 _ rfl; have c1 := hh.at 1 _ rfl; have c2 := hh.at 2 _ rfl
      clear hh
      rw [Nat.add_zero] at c0
      have HLT := Lib.hid hlt
      clear hk hlt
      have oA := HA.out
      have A0 := oA.at 0 _ rfl
      have Al := oA.lt
      clear oA
      go_wp2_with (fail)
      go_at_call 24
      refine (Off_any _ _ _ _).mono ?_
      rintro e w1 ⟨rfl, hb⟩
      have HB2 := Lib.hid (Below.go HB.out hb)
      have HA2 := Lib.hid (HA.out.later hb); have HV2 := Lib.hid (HV1.out.later hb); have HU2 := Lib.hid (HU1.out.later hb); have HT2 := Lib.hid (HT1.out.later hb)
      clear hb HB HA HV1 HU1 HT1 c0 c1 c2 hD A0 Al
      obtain ⟨b, eb⟩ : ∃ b, okPs V k = b := ⟨_, rfl⟩
      rw [show okP (V (k * 3)) (V (k * 3 + 1)) (V (k * 3 + 2)) = b from eb]
      cases b with
      | true =>
        have ALL2 := Lib.hid (allB_step ALL.out eb)
        clear eb ALL
        go_wp2_with (fail)
        go_roundw
        case rel => (first | exact ⟨k + 1, HLT.out, by go_num, ALL2, HA2, HB2, HV2, HU2, HT2⟩ | ((repeat apply Exists.intro); exact ⟨⟨k + 1, HLT.out, by go_num, ALL2, HA2, HB2, HV2, HU2, HT2⟩, rfl⟩))
        case measure => (have := HLT.out; simp [intOf]; omega)
      | false =>
        obtain rfl : z = 8 := V3.out C1.out C2.out (allB_not HLT.out eb)
        clear eb ALL V3 V4 V5 V6
        go_wp2_with (fail)
        go_ret
        exact ⟨rfl, HB2.out⟩
    · obtain rfl : k = nu := by omega
      have P1 := Lib.hid (allB_iff.2 ALL.out)
      clear hlt hk ALL V3
      have oA := HA.out
      have A0 := oA.at 0 _ rfl
      have Al := oA.lt
      clear oA
      go_wp2_with (fail)
      clear A0 Al
      go_loopw [4] (fun iv wr => ∃ (i : Nat), i ≤ k ∧ iv = .int .i64 i ∧ Hid (∀ j, j < i → okUs U j = true) ∧ Hid (Own A [.slice qv k cv, .slice qu k cu, .slice qt nt ct] wr) ∧ Hid (Below w.heap.size w wr) ∧ Hid (NmS wr 3 qv k V) ∧ Hid (NmS wr 2 qu k U) ∧ Hid (NmS wr 3 qt nt R)) (fun iv _ => (k - (intOf iv).toNat))
      case atStart => exact ⟨0, Nat.zero_le _, rfl, Lib.hid (fun j hj => absurd hj (Nat.not_lt_zero j)), HA, HB, HV1, HU1, HT1⟩
      case round =>
        clear HA HB HV1 HU1 HT1
        obtain ⟨i, hi, rfl, ALL, HA, HB, HV1, HU1, HT1⟩ := hrel
        by_cases hlt : i < k
        · obtain ⟨D, o, rfl, hD, c0, c1⟩ := HU1.out.at2 hlt
          have hki : (i : Int) < (k : Int) := by omega
          have k0 : (0 : Int) ≤ (i : Int) := by omega
          have wk : IntKind.i64.wrap ((i : Int) + 1) = (i : Int) + 1 := IntWalk.i64_in _ (by have := N0.out; omega)
          have HLT := Lib.hid hlt
          have NO := Lib.hid (@okU_no U i k hlt)
          have YES := Lib.hid (fun h => show okUs U i = true from decide_eq_true h)
          generalize U (i * 2) = x at c0 NO YES
          generalize U (i * 2 + 1) = y at c1 NO YES
          clear hi hlt
          have oA := HA.out
          have A1 := oA.at 1 _ rfl
          have Al := oA.lt
          clear oA
          by_cases hx0 : x < 0
          · obtain rfl : z = 5 := V4.out C1.out C2.out P1.out (NO.out (fun h => by omega))
            clear V4 V5 V6 NO YES ALL
            go_wp2_with (fail)
            refine wp_loop_rounds 3 ?_
            rw [rounds_succ]
            go_wp2_with (fail)
            go_ret
            exact ⟨rfl, HB.out⟩
          have hx0d : decide (x < 0) = false := decide_eq_false hx0
          by_cases hx1 : 65535 < x
          · obtain rfl : z = 5 := V4.out C1.out C2.out P1.out (NO.out (fun h => by omega))
            clear V4 V5 V6 NO YES ALL hx0
            go_wp2_with (fail)
            refine wp_loop_rounds 3 ?_
            rw [rounds_succ]
            go_wp2_with (fail)
            go_ret
            exact ⟨rfl, HB.out⟩
          have hx1d : decide (65535 < x) = false := decide_eq_false hx1
          by_cases hy0 : y < 0
          · obtain rfl : z = 5 := V4.out C1.out C2.out P1.out (NO.out (fun h => by omega))
            clear V4 V5 V6 NO YES ALL hx0 hx1
            go_wp2_with (fail)
            refine wp_loop_rounds 3 ?_
            rw [rounds_succ]
            go_wp2_with (fail)
            rw [rounds_succ]
            go_wp2_with (fail)
            go_ret
            exact ⟨rfl, HB.out⟩
          have hy0d : decide (y < 0) = false := decide_eq_false hy0
          by_cases hy1 : 65535 < y
          · obtain rfl : z = 5 := V4.out C1.out C2.out P1.out (NO.out (fun h => by omega))
            clear V4 V5 V6 NO YES ALL hx0 hx1 hy0
            go_wp2_with (fail)
            refine wp_loop_rounds 3 ?_
            rw [rounds_succ]
            go_wp2_with (fail)
            rw [rounds_succ]
            go_wp2_with (fail)
            go_ret
            exact ⟨rfl, HB.out⟩
          have hy1d : decide (65535 < y) = false := decide_eq_false hy1
          have ALL2 := Lib.hid (allB_step ALL.out (YES.out (by omega)))
          clear NO YES ALL hx0 hx1 hy0 hy1
          go_wp2_with (fail)
          refine wp_loop_rounds 3 ?_
          rw [rounds_succ]
          go_wp2_with (fail)
          rw [rounds_succ]
          go_wp2_with (fail)
          rw [rounds_succ]
          go_wp2_with (fail)
          go_roundw
          case rel => (first | exact ⟨i + 1, HLT.out, by go_num, ALL2, HA, HB, HV1, HU1, HT1⟩ | ((repeat apply Exists.intro); exact ⟨⟨i + 1, HLT.out, by go_num, ALL2, HA, HB, HV1, HU1, HT1⟩, rfl⟩))
          case measure => (have := HLT.out; simp [intOf]; omega)
        · obtain rfl : i = k := by omega
          have P2 := Lib.hid (allB_iff.2 ALL.out)
          clear hlt hi ALL V4
          have oA := HA.out
          have A1 := oA.at 1 _ rfl
          have Al := oA.lt
          clear oA
          go_wp2_with (fail)
          clear A1 Al
          go_loopw [6] (fun iv wr => ∃ (k : Nat), k ≤ nt ∧ iv = .int .i64 k ∧ Hid (∀ j, j < k → okTs i R j = true) ∧ Hid (Own A [.slice qv i cv, .slice qu i cu, .slice qt nt ct] wr) ∧ Hid (Below w.heap.size w wr) ∧ Hid (NmS wr 3 qv i V) ∧ Hid (NmS wr 2 qu i U) ∧ Hid (NmS wr 3 qt nt R)) (fun iv _ => (nt - (intOf iv).toNat))
          case atStart => exact ⟨0, Nat.zero_le _, rfl, Lib.hid (fun j hj => absurd hj (Nat.not_lt_zero j)), HA, HB, HV1, HU1, HT1⟩
          case round =>
            clear HA HB HV1 HU1 HT1
            obtain ⟨k, hk, rfl, ALL, HA, HB, HV1, HU1, HT1⟩ := hrel
            by_cases hlt : k < nt
            · obtain ⟨D, o, rfl, hD, c0, c1, c2⟩ := HT1.out.at3 hlt
              have hki : (k : Int) < (nt : Int) := by omega
              have k0 : (0 : Int) ≤ (k : Int) := by omega
              have wk : IntKind.i64.wrap ((k : Int) + 1) = (k : Int) + 1 := IntWalk.i64_in _ (by have := T0.out; omega)
              have HLT := Lib.hid hlt
              have HC : Hid (Has D (o + k * 3) [.int .i64 (R (k * 3)), .int .i64 (R (k * 3 + 1)), .int .i64 (R (k * 3 + 2))] wr) := Lib.hid ⟨hD, fun j v hj => by
                match j, hj with
                | 0, hj => cases hj; exact c0
                | 1, hj => cases hj; exact c1
                | 2, hj => cases hj; exact c2⟩
              have NO := Lib.hid (@okT_no R k nt i hlt)
              have YES := Lib.hid (fun h => show okTs i R k = true from decide_eq_true h)
              generalize R (k * 3) = x0 at c0 HC NO YES
              generalize R (k * 3 + 1) = x1 at c1 HC NO YES
              generalize R (k * 3 + 2) = x2 at c2 HC NO YES
              clear hk hlt
              have oA := HA.out
              have A0 := oA.at 0 _ rfl
              have A2 := oA.at 2 _ rfl
              have Al := oA.lt
              clear oA
              by_cases ha0 : x0 < 0
              · obtain rfl : z = 5 := V5.out C1.out C2.out P1.out P2.out (NO.out (fun h => by omega))
                have ha0d : decide (x0 < 0) = true := by simpa using ha0
                clear V5 V6 NO YES ALL ha0
                go_wp2_with (fail)
                refine wp_loop_rounds 4 ?_
                rw [rounds_succ]
                go_wp2_with (fail)
                go_quiet (fail)
                have hBd : Below wr.heap.size wr (wr.drewN nq) := below_drewN (Below.refl _ _) _
                have HA2 := Lib.hid (HA.out.later hBd); have HB2 := Lib.hid (Below.go HB.out hBd); have HV2 := Lib.hid (HV1.out.later hBd); have HU2 := Lib.hid (HU1.out.later hBd); have HT2 := Lib.hid (HT1.out.later hBd); have HC2 := Lib.hid (HC.out.later hBd)
                clear hBd HA HB HV1 HU1 HT1 HC c0 c1 c2 hD A0 A2 Al
                generalize wr.drewN nq = y0 at *
                have HA := HA2; have HB := HB2; have HV1 := HV2; have HU1 := HU2; have HT1 := HT2; have HC := HC2
                clear HA2 HB2 HV2 HU2 HT2 HC2
                have c0 : y0.cell? ⟨D, o + k * 3, none⟩ = some (.int .i64 x0) := HC.out.at 0 _ rfl
                have c1 : y0.cell? ⟨D, o + k * 3 + 1, none⟩ = some (.int .i64 x1) := HC.out.at 1 _ rfl
                have c2 : y0.cell? ⟨D, o + k * 3 + 2, none⟩ = some (.int .i64 x2) := HC.out.at 2 _ rfl
                have hD : D < y0.heap.size := HC.out.lt
                have oA := HA.out
                have A0 := oA.at 0 _ rfl
                have A2 := oA.at 2 _ rfl
                have Al := oA.lt
                clear oA
                skip
                go_wp2_with (fail)
                go_ret
                exact ⟨rfl, HB.out⟩
              have ha0d : decide (x0 < 0) = false := by simpa using ha0
              by_cases hb0 : (i : Int) ≤ x0
              · obtain rfl : z = 5 := V5.out C1.out C2.out P1.out P2.out (NO.out (fun h => by omega))
                have hb0d : decide ((i : Int) ≤ x0) = true := by simpa using hb0
                clear V5 V6 NO YES ALL ha0 hb0
                go_wp2_with (fail)
                refine wp_loop_rounds 4 ?_
                rw [rounds_succ]
                go_wp2_with (fail)
                go_quiet (fail)
                have hBd : Below wr.heap.size wr (wr.drewN nq) := below_drewN (Below.refl _ _) _
                have HA2 := Lib.hid (HA.out.later hBd); have HB2 := Lib.hid (Below.go HB.out hBd); have HV2 := Lib.hid (HV1.out.later hBd); have HU2 := Lib.hid (HU1.out.later hBd); have HT2 := Lib.hid (HT1.out.later hBd); have HC2 := Lib.hid (HC.out.later hBd)
                clear hBd HA HB HV1 HU1 HT1 HC c0 c1 c2 hD A0 A2 Al
                generalize wr.drewN nq = y0 at *
                have HA := HA2; have HB := HB2; have HV1 := HV2; have HU1 := HU2; have HT1 := HT2; have HC := HC2
                clear HA2 HB2 HV2 HU2 HT2 HC2
                have c0 : y0.cell? ⟨D, o + k * 3, none⟩ = some (.int .i64 x0) := HC.out.at 0 _ rfl
                have c1 : y0.cell? ⟨D, o + k * 3 + 1, none⟩ = some (.int .i64 x1) := HC.out.at 1 _ rfl
                have c2 : y0.cell? ⟨D, o + k * 3 + 2, none⟩ = some (.int .i64 x2) := HC.out.at 2 _ rfl
                have hD : D < y0.heap.size := HC.out.lt
                have oA := HA.out
                have A0 := oA.at 0 _ rfl
                have A2 := oA.at 2 _ rfl
                have Al := oA.lt
                clear oA
                skip
                go_wp2_with (fail)
                go_ret
                exact ⟨rfl, HB.out⟩
              have hb0d : decide ((i : Int) ≤ x0) = false := by simpa using hb0
              by_cases hc0 : x0 = x1
              · obtain rfl : z = 5 := V5.out C1.out C2.out P1.out P2.out (NO.out (fun h => by omega))
                have hc0d : (x0 == x1) = true := by simpa using hc0
                clear V5 V6 NO YES ALL ha0 hb0 hc0
                go_wp2_with (fail)
                refine wp_loop_rounds 4 ?_
                rw [rounds_succ]
                go_wp2_with (fail)
                go_quiet (fail)
                have hBd : Below wr.heap.size wr (wr.drewN nq) := below_drewN (Below.refl _ _) _
                have HA2 := Lib.hid (HA.out.later hBd); have HB2 := Lib.hid (Below.go HB.out hBd); have HV2 := Lib.hid (HV1.out.later hBd); have HU2 := Lib.hid (HU1.out.later hBd); have HT2 := Lib.hid (HT1.out.later hBd); have HC2 := Lib.hid (HC.out.later hBd)
                clear hBd HA HB HV1 HU1 HT1 HC c0 c1 c2 hD A0 A2 Al
                generalize wr.drewN nq = y0 at *
                have HA := HA2; have HB := HB2; have HV1 := HV2; have HU1 := HU2; have HT1 := HT2; have HC := HC2
                clear HA2 HB2 HV2 HU2 HT2 HC2
                have c0 : y0.cell? ⟨D, o + k * 3, none⟩ = some (.int .i64 x0) := HC.out.at 0 _ rfl
                have c1 : y0.cell? ⟨D, o + k * 3 + 1, none⟩ = some (.int .i64 x1) := HC.out.at 1 _ rfl
                have c2 : y0.cell? ⟨D, o + k * 3 + 2, none⟩ = some (.int .i64 x2) := HC.out.at 2 _ rfl
                have hD : D < y0.heap.size := HC.out.lt
                have oA := HA.out
                have A0 := oA.at 0 _ rfl
                have A2 := oA.at 2 _ rfl
                have Al := oA.lt
                clear oA
                skip
                go_wp2_with (fail)
                go_ret
                exact ⟨rfl, HB.out⟩
              have hc0d : (x0 == x1) = false := by simpa using hc0
              by_cases ha1 : x1 < 0
              · obtain rfl : z = 5 := V5.out C1.out C2.out P1.out P2.out (NO.out (fun h => by omega))
                have ha1d : decide (x1 < 0) = true := by simpa using ha1
                clear V5 V6 NO YES ALL ha0 hb0 hc0 ha1
                go_wp2_with (fail)
                refine wp_loop_rounds 4 ?_
                rw [rounds_succ]
                go_wp2_with (fail)
                go_quiet (fail)
                have hBd : Below wr.heap.size wr (wr.drewN nq) := below_drewN (Below.refl _ _) _
                have HA2 := Lib.hid (HA.out.later hBd); have HB2 := Lib.hid (Below.go HB.out hBd); have HV2 := Lib.hid (HV1.out.later hBd); have HU2 := Lib.hid (HU1.out.later hBd); have HT2 := Lib.hid (HT1.out.later hBd); have HC2 := Lib.hid (HC.out.later hBd)
                clear hBd HA HB HV1 HU1 HT1 HC c0 c1 c2 hD A0 A2 Al
                generalize wr.drewN nq = y0 at *
                have HA := HA2; have HB := HB2; have HV1 := HV2; have HU1 := HU2; have HT1 := HT2; have HC := HC2
                clear HA2 HB2 HV2 HU2 HT2 HC2
                have c0 : y0.cell? ⟨D, o + k * 3, none⟩ = some (.int .i64 x0) := HC.out.at 0 _ rfl
                have c1 : y0.cell? ⟨D, o + k * 3 + 1, none⟩ = some (.int .i64 x1) := HC.out.at 1 _ rfl
                have c2 : y0.cell? ⟨D, o + k * 3 + 2, none⟩ = some (.int .i64 x2) := HC.out.at 2 _ rfl
                have hD : D < y0.heap.size := HC.out.lt
                have oA := HA.out
                have A0 := oA.at 0 _ rfl
                have A2 := oA.at 2 _ rfl
                have Al := oA.lt
                clear oA
                skip
                go_wp2_with (fail)
                rw [rounds_succ]
                go_wp2_with (fail)
                go_quiet (fail)
                have hBd : Below y0.heap.size y0 (y0.drewN nq) := below_drewN (Below.refl _ _) _
                have HA2 := Lib.hid (HA.out.later hBd); have HB2 := Lib.hid (Below.go HB.out hBd); have HV2 := Lib.hid (HV1.out.later hBd); have HU2 := Lib.hid (HU1.out.later hBd); have HT2 := Lib.hid (HT1.out.later hBd); have HC2 := Lib.hid (HC.out.later hBd)
                clear hBd HA HB HV1 HU1 HT1 HC c0 c1 c2 hD A0 A2 Al
                generalize y0.drewN nq = y1 at *
                have HA := HA2; have HB := HB2; have HV1 := HV2; have HU1 := HU2; have HT1 := HT2; have HC := HC2
                clear HA2 HB2 HV2 HU2 HT2 HC2
                have c0 : y1.cell? ⟨D, o + k * 3, none⟩ = some (.int .i64 x0) := HC.out.at 0 _ rfl
                have c1 : y1.cell? ⟨D, o + k * 3 + 1, none⟩ = some (.int .i64 x1) := HC.out.at 1 _ rfl
                have c2 : y1.cell? ⟨D, o + k * 3 + 2, none⟩ = some (.int .i64 x2) := HC.out.at 2 _ rfl
                have hD : D < y1.heap.size := HC.out.lt
                have oA := HA.out
                have A0 := oA.at 0 _ rfl
                have A2 := oA.at 2 _ rfl
                have Al := oA.lt
                clear oA
                skip
                go_wp2_with (fail)
                go_ret
                exact ⟨rfl, HB.out⟩
              have ha1d : decide (x1 < 0) = false := by simpa using ha1
              by_cases hb1 : (i : Int) ≤ x1
              · obtain rfl : z = 5 := V5.out C1.out C2.out P1.out P2.out (NO.out (fun h => by omega))
                have hb1d : decide ((i : Int) ≤ x1) = true := by simpa using hb1
                clear V5 V6 NO YES ALL ha0 hb0 hc0 ha1 hb1
                go_wp2_with (fail)
                refine wp_loop_rounds 4 ?_
                rw [rounds_succ]
                go_wp2_with (fail)
                go_quiet (fail)
                have hBd : Below wr.heap.size wr (wr.drewN nq) := below_drewN (Below.refl _ _) _
                have HA2 := Lib.hid (HA.out.later hBd); have HB2 := Lib.hid (Below.go HB.out hBd); have HV2 := Lib.hid (HV1.out.later hBd); have HU2 := Lib.hid (HU1.out.later hBd); have HT2 := Lib.hid (HT1.out.later hBd); have HC2 := Lib.hid (HC.out.later hBd)
                clear hBd HA HB HV1 HU1 HT1 HC c0 c1 c2 hD A0 A2 Al
                generalize wr.drewN nq = y0 at *
                have HA := HA2; have HB := HB2; have HV1 := HV2; have HU1 := HU2; have HT1 := HT2; have HC := HC2
                clear HA2 HB2 HV2 HU2 HT2 HC2
                have c0 : y0.cell? ⟨D, o + k * 3, none⟩ = some (.int .i64 x0) := HC.out.at 0 _ rfl
                have c1 : y0.cell? ⟨D, o + k * 3 + 1, none⟩ = some (.int .i64 x1) := HC.out.at 1 _ rfl
                have c2 : y0.cell? ⟨D, o + k * 3 + 2, none⟩ = some (.int .i64 x2) := HC.out.at 2 _ rfl
                have hD : D < y0.heap.size := HC.out.lt
                have oA := HA.out
                have A0 := oA.at 0 _ rfl
                have A2 := oA.at 2 _ rfl
                have Al := oA.lt
                clear oA
                skip
                go_wp2_with (fail)
                rw [rounds_succ]
                go_wp2_with (fail)
                go_quiet (fail)
                have hBd : Below y0.heap.size y0 (y0.drewN nq) := below_drewN (Below.refl _ _) _
                have HA2 := Lib.hid (HA.out.later hBd); have HB2 := Lib.hid (Below.go HB.out hBd); have HV2 := Lib.hid (HV1.out.later hBd); have HU2 := Lib.hid (HU1.out.later hBd); have HT2 := Lib.hid (HT1.out.later hBd); have HC2 := Lib.hid (HC.out.later hBd)
                clear hBd HA HB HV1 HU1 HT1 HC c0 c1 c2 hD A0 A2 Al
                generalize y0.drewN nq = y1 at *
                have HA := HA2; have HB := HB2; have HV1 := HV2; have HU1 := HU2; have HT1 := HT2; have HC := HC2
                clear HA2 HB2 HV2 HU2 HT2 HC2
                have c0 : y1.cell? ⟨D, o + k * 3, none⟩ = some (.int .i64 x0) := HC.out.at 0 _ rfl
                have c1 : y1.cell? ⟨D, o + k * 3 + 1, none⟩ = some (.int .i64 x1) := HC.out.at 1 _ rfl
                have c2 : y1.cell? ⟨D, o + k * 3 + 2, none⟩ = some (.int .i64 x2) := HC.out.at 2 _ rfl
                have hD : D < y1.heap.size := HC.out.lt
                have oA := HA.out
                have A0 := oA.at 0 _ rfl
                have A2 := oA.at 2 _ rfl
                have Al := oA.lt
                clear oA
                skip
                go_wp2_with (fail)
                go_ret
                exact ⟨rfl, HB.out⟩
              have hb1d : decide ((i : Int) ≤ x1) = false := by simpa using hb1
              by_cases hc1 : x1 = x2
              · obtain rfl : z = 5 := V5.out C1.out C2.out P1.out P2.out (NO.out (fun h => by omega))
                have hc1d : (x1 == x2) = true := by simpa using hc1
                clear V5 V6 NO YES ALL ha0 hb0 hc0 ha1 hb1 hc1
                go_wp2_with (fail)
                refine wp_loop_rounds 4 ?_
                rw [rounds_succ]
                go_wp2_with (fail)
                go_quiet (fail)
                have hBd : Below wr.heap.size wr (wr.drewN nq) := below_drewN (Below.refl _ _) _
                have HA2 := Lib.hid (HA.out.later hBd); have HB2 := Lib.hid (Below.go HB.out hBd); have HV2 := Lib.hid (HV1.out.later hBd); have HU2 := Lib.hid (HU1.out.later hBd); have HT2 := Lib.hid (HT1.out.later hBd); have HC2 := Lib.hid (HC.out.later hBd)
                clear hBd HA HB HV1 HU1 HT1 HC c0 c1 c2 hD A0 A2 Al
                generalize wr.drewN nq = y0 at *
                have HA := HA2; have HB := HB2; have HV1 := HV2; have HU1 := HU2; have HT1 := HT2; have HC := HC2
                clear HA2 HB2 HV2 HU2 HT2 HC2
                have c0 : y0.cell? ⟨D, o + k * 3, none⟩ = some (.int .i64 x0) := HC.out.at 0 _ rfl
                have c1 : y0.cell? ⟨D, o + k * 3 + 1, none⟩ = some (.int .i64 x1) := HC.out.at 1 _ rfl
                have c2 : y0.cell? ⟨D, o + k * 3 + 2, none⟩ = some (.int .i64 x2) := HC.out.at 2 _ rfl
                have hD : D < y0.heap.size := HC.out.lt
                have oA := HA.out
                have A0 := oA.at 0 _ rfl
                have A2 := oA.at 2 _ rfl
                have Al := oA.lt
                clear oA
                skip
                go_wp2_with (fail)
                rw [rounds_succ]
                go_wp2_with (fail)
                go_quiet (fail)
                have hBd : Below y0.heap.size y0 (y0.drewN nq) := below_drewN (Below.refl _ _) _
                have HA2 := Lib.hid (HA.out.later hBd); have HB2 := Lib.hid (Below.go HB.out hBd); have HV2 := Lib.hid (HV1.out.later hBd); have HU2 := Lib.hid (HU1.out.later hBd); have HT2 := Lib.hid (HT1.out.later hBd); have HC2 := Lib.hid (HC.out.later hBd)
                clear hBd HA HB HV1 HU1 HT1 HC c0 c1 c2 hD A0 A2 Al
                generalize y0.drewN nq = y1 at *
                have HA := HA2; have HB := HB2; have HV1 := HV2; have HU1 := HU2; have HT1 := HT2; have HC := HC2
                clear HA2 HB2 HV2 HU2 HT2 HC2
                have c0 : y1.cell? ⟨D, o + k * 3, none⟩ = some (.int .i64 x0) := HC.out.at 0 _ rfl
                have c1 : y1.cell? ⟨D, o + k * 3 + 1, none⟩ = some (.int .i64 x1) := HC.out.at 1 _ rfl
                have c2 : y1.cell? ⟨D, o + k * 3 + 2, none⟩ = some (.int .i64 x2) := HC.out.at 2 _ rfl
                have hD : D < y1.heap.size := HC.out.lt
                have oA := HA.out
                have A0 := oA.at 0 _ rfl
                have A2 := oA.at 2 _ rfl
                have Al := oA.lt
                clear oA
                skip
                go_wp2_with (fail)
                go_ret
                exact ⟨rfl, HB.out⟩
              have hc1d : (x1 == x2) = false := by simpa using hc1
              by_cases ha2 : x2 < 0
              · obtain rfl : z = 5 := V5.out C1.out C2.out P1.out P2.out (NO.out (fun h => by omega))
                have ha2d : decide (x2 < 0) = true := by simpa using ha2
                clear V5 V6 NO YES ALL ha0 hb0 hc0 ha1 hb1 hc1 ha2
                go_wp2_with (fail)
                refine wp_loop_rounds 4 ?_
                rw [rounds_succ]
                go_wp2_with (fail)
                go_quiet (fail)
                have hBd : Below wr.heap.size wr (wr.drewN nq) := below_drewN (Below.refl _ _) _
                have HA2 := Lib.hid (HA.out.later hBd); have HB2 := Lib.hid (Below.go HB.out hBd); have HV2 := Lib.hid (HV1.out.later hBd); have HU2 := Lib.hid (HU1.out.later hBd); have HT2 := Lib.hid (HT1.out.later hBd); have HC2 := Lib.hid (HC.out.later hBd)
                clear hBd HA HB HV1 HU1 HT1 HC c0 c1 c2 hD A0 A2 Al
                generalize wr.drewN nq = y0 at *
                have HA := HA2; have HB := HB2; have HV1 := HV2; have HU1 := HU2; have HT1 := HT2; have HC := HC2
                clear HA2 HB2 HV2 HU2 HT2 HC2
                have c0 : y0.cell? ⟨D, o + k * 3, none⟩ = some (.int .i64 x0) := HC.out.at 0 _ rfl
                have c1 : y0.cell? ⟨D, o + k * 3 + 1, none⟩ = some (.int .i64 x1) := HC.out.at 1 _ rfl
                have c2 : y0.cell? ⟨D, o + k * 3 + 2, none⟩ = some (.int .i64 x2) := HC.out.at 2 _ rfl
                have hD : D < y0.heap.size := HC.out.lt
                have oA := HA.out
                have A0 := oA.at 0 _ rfl
                have A2 := oA.at 2 _ rfl
                have Al := oA.lt
                clear oA
                skip
                go_wp2_with (fail)
                rw [rounds_succ]
                go_wp2_with (fail)
                go_quiet (fail)
                have hBd : Below y0.heap.size y0 (y0.drewN nq) := below_drewN (Below.refl _ _) _
                have HA2 := Lib.hid (HA.out.later hBd); have HB2 := Lib.hid (Below.go HB.out hBd); have HV2 := Lib.hid (HV1.out.later hBd); have HU2 := Lib.hid (HU1.out.later hBd); have HT2 := Lib.hid (HT1.out.later hBd); have HC2 := Lib.hid (HC.out.later hBd)
                clear hBd HA HB HV1 HU1 HT1 HC c0 c1 c2 hD A0 A2 Al
                generalize y0.drewN nq = y1 at *
                have HA := HA2; have HB := HB2; have HV1 := HV2; have HU1 := HU2; have HT1 := HT2; have HC := HC2
                clear HA2 HB2 HV2 HU2 HT2 HC2
                have c0 : y1.cell? ⟨D, o + k * 3, none⟩ = some (.int .i64 x0) := HC.out.at 0 _ rfl
                have c1 : y1.cell? ⟨D, o + k * 3 + 1, none⟩ = some (.int .i64 x1) := HC.out.at 1 _ rfl
                have c2 : y1.cell? ⟨D, o + k * 3 + 2, none⟩ = some (.int .i64 x2) := HC.out.at 2 _ rfl
                have hD : D < y1.heap.size := HC.out.lt
                have oA := HA.out
                have A0 := oA.at 0 _ rfl
                have A2 := oA.at 2 _ rfl
                have Al := oA.lt
                clear oA
                skip
                go_wp2_with (fail)
                rw [rounds_succ]
                go_wp2_with (fail)
                go_quiet (fail)
                have hBd : Below y1.heap.size y1 (y1.drewN nq) := below_drewN (Below.refl _ _) _
                have HA2 := Lib.hid (HA.out.later hBd); have HB2 := Lib.hid (Below.go HB.out hBd); have HV2 := Lib.hid (HV1.out.later hBd); have HU2 := Lib.hid (HU1.out.later hBd); have HT2 := Lib.hid (HT1.out.later hBd); have HC2 := Lib.hid (HC.out.later hBd)
                clear hBd HA HB HV1 HU1 HT1 HC c0 c1 c2 hD A0 A2 Al
                generalize y1.drewN nq = y2 at *
                have HA := HA2; have HB := HB2; have HV1 := HV2; have HU1 := HU2; have HT1 := HT2; have HC := HC2
                clear HA2 HB2 HV2 HU2 HT2 HC2
                have c0 : y2.cell? ⟨D, o + k * 3, none⟩ = some (.int .i64 x0) := HC.out.at 0 _ rfl
                have c1 : y2.cell? ⟨D, o + k * 3 + 1, none⟩ = some (.int .i64 x1) := HC.out.at 1 _ rfl
                have c2 : y2.cell? ⟨D, o + k * 3 + 2, none⟩ = some (.int .i64 x2) := HC.out.at 2 _ rfl
                have hD : D < y2.heap.size := HC.out.lt
                have oA := HA.out
                have A0 := oA.at 0 _ rfl
                have A2 := oA.at 2 _ rfl
                have Al := oA.lt
                clear oA
                skip
                go_wp2_with (fail)
                go_ret
                exact ⟨rfl, HB.out⟩
              have ha2d : decide (x2 < 0) = false := by simpa using ha2
              by_cases hb2 : (i : Int) ≤ x2
              · obtain rfl : z = 5 := V5.out C1.out C2.out P1.out P2.out (NO.out (fun h => by omega))
                have hb2d : decide ((i : Int) ≤ x2) = true := by simpa using hb2
                clear V5 V6 NO YES ALL ha0 hb0 hc0 ha1 hb1 hc1 ha2 hb2
                go_wp2_with (fail)
                refine wp_loop_rounds 4 ?_
                rw [rounds_succ]
                go_wp2_with (fail)
                go_quiet (fail)
                have hBd : Below wr.heap.size wr (wr.drewN nq) := below_drewN (Below.refl _ _) _
                have HA2 := Lib.hid (HA.out.later hBd); have HB2 := Lib.hid (Below.go HB.out hBd); have HV2 := Lib.hid (HV1.out.later hBd); have HU2 := Lib.hid (HU1.out.later hBd); have HT2 := Lib.hid (HT1.out.later hBd); have HC2 := Lib.hid (HC.out.later hBd)
                clear hBd HA HB HV1 HU1 HT1 HC c0 c1 c2 hD A0 A2 Al
                generalize wr.drewN nq = y0 at *
                have HA := HA2; have HB := HB2; have HV1 := HV2; have HU1 := HU2; have HT1 := HT2; have HC := HC2
                clear HA2 HB2 HV2 HU2 HT2 HC2
                have c0 : y0.cell? ⟨D, o + k * 3, none⟩ = some (.int .i64 x0) := HC.out.at 0 _ rfl
                have c1 : y0.cell? ⟨D, o + k * 3 + 1, none⟩ = some (.int .i64 x1) := HC.out.at 1 _ rfl
                have c2 : y0.cell? ⟨D, o + k * 3 + 2, none⟩ = some (.int .i64 x2) := HC.out.at 2 _ rfl
                have hD : D < y0.heap.size := HC.out.lt
                have oA := HA.out
                have A0 := oA.at 0 _ rfl
                have A2 := oA.at 2 _ rfl
                have Al := oA.lt
                clear oA
                skip
                go_wp2_with (fail)
                rw [rounds_succ]
                go_wp2_with (fail)
                go_quiet (fail)
                have hBd : Below y0.heap.size y0 (y0.drewN nq) := below_drewN (Below.refl _ _) _
                have HA2 := Lib.hid (HA.out.later hBd); have HB2 := Lib.hid (Below.go HB.out hBd); have HV2 := Lib.hid (HV1.out.later hBd); have HU2 := Lib.hid (HU1.out.later hBd); have HT2 := Lib.hid (HT1.out.later hBd); have HC2 := Lib.hid (HC.out.later hBd)
                clear hBd HA HB HV1 HU1 HT1 HC c0 c1 c2 hD A0 A2 Al
                generalize y0.drewN nq = y1 at *
                have HA := HA2; have HB := HB2; have HV1 := HV2; have HU1 := HU2; have HT1 := HT2; have HC := HC2
                clear HA2 HB2 HV2 HU2 HT2 HC2
                have c0 : y1.cell? ⟨D, o + k * 3, none⟩ = some (.int .i64 x0) := HC.out.at 0 _ rfl
                have c1 : y1.cell? ⟨D, o + k * 3 + 1, none⟩ = some (.int .i64 x1) := HC.out.at 1 _ rfl
                have c2 : y1.cell? ⟨D, o + k * 3 + 2, none⟩ = some (.int .i64 x2) := HC.out.at 2 _ rfl
                have hD : D < y1.heap.size := HC.out.lt
                have oA := HA.out
                have A0 := oA.at 0 _ rfl
                have A2 := oA.at 2 _ rfl
                have Al := oA.lt
                clear oA
                skip
                go_wp2_with (fail)
                rw [rounds_succ]
                go_wp2_with (fail)
                go_quiet (fail)
                have hBd : Below y1.heap.size y1 (y1.drewN nq) := below_drewN (Below.refl _ _) _
                have HA2 := Lib.hid (HA.out.later hBd); have HB2 := Lib.hid (Below.go HB.out hBd); have HV2 := Lib.hid (HV1.out.later hBd); have HU2 := Lib.hid (HU1.out.later hBd); have HT2 := Lib.hid (HT1.out.later hBd); have HC2 := Lib.hid (HC.out.later hBd)
                clear hBd HA HB HV1 HU1 HT1 HC c0 c1 c2 hD A0 A2 Al
                generalize y1.drewN nq = y2 at *
                have HA := HA2; have HB := HB2; have HV1 := HV2; have HU1 := HU2; have HT1 := HT2; have HC := HC2
                clear HA2 HB2 HV2 HU2 HT2 HC2
                have c0 : y2.cell? ⟨D, o + k * 3, none⟩ = some (.int .i64 x0) := HC.out.at 0 _ rfl
                have c1 : y2.cell? ⟨D, o + k * 3 + 1, none⟩ = some (.int .i64 x1) := HC.out.at 1 _ rfl
                have c2 : y2.cell? ⟨D, o + k * 3 + 2, none⟩ = some (.int .i64 x2) := HC.out.at 2 _ rfl
                have hD : D < y2.heap.size := HC.out.lt
                have oA := HA.out
                have A0 := oA.at 0 _ rfl
                have A2 := oA.at 2 _ rfl
                have Al := oA.lt
                clear oA
                skip
                go_wp2_with (fail)
                go_ret
                exact ⟨rfl, HB.out⟩
              have hb2d : decide ((i : Int) ≤ x2) = false := by simpa using hb2
              by_cases hc2 : x2 = x0
              · obtain rfl : z = 5 := V5.out C1.out C2.out P1.out P2.out (NO.out (fun h => by omega))
                have hc2d : (x2 == x0) = true := by simpa using hc2
                clear V5 V6 NO YES ALL ha0 hb0 hc0 ha1 hb1 hc1 ha2 hb2 hc2
                go_wp2_with (fail)
                refine wp_loop_rounds 4 ?_
                rw [rounds_succ]
                go_wp2_with (fail)
                go_quiet (fail)
                have hBd : Below wr.heap.size wr (wr.drewN nq) := below_drewN (Below.refl _ _) _
                have HA2 := Lib.hid (HA.out.later hBd); have HB2 := Lib.hid (Below.go HB.out hBd); have HV2 := Lib.hid (HV1.out.later hBd); have HU2 := Lib.hid (HU1.out.later hBd); have HT2 := Lib.hid (HT1.out.later hBd); have HC2 := Lib.hid (HC.out.later hBd)
                clear hBd HA HB HV1 HU1 HT1 HC c0 c1 c2 hD A0 A2 Al
                generalize wr.drewN nq = y0 at *
                have HA := HA2; have HB := HB2; have HV1 := HV2; have HU1 := HU2; have HT1 := HT2; have HC := HC2
                clear HA2 HB2 HV2 HU2 HT2 HC2
                have c0 : y0.cell? ⟨D, o + k * 3, none⟩ = some (.int .i64 x0) := HC.out.at 0 _ rfl
                have c1 : y0.cell? ⟨D, o + k * 3 + 1, none⟩ = some (.int .i64 x1) := HC.out.at 1 _ rfl
                have c2 : y0.cell? ⟨D, o + k * 3 + 2, none⟩ = some (.int .i64 x2) := HC.out.at 2 _ rfl
                have hD : D < y0.heap.size := HC.out.lt
                have oA := HA.out
                have A0 := oA.at 0 _ rfl
                have A2 := oA.at 2 _ rfl
                have Al := oA.lt
                clear oA
                skip
                go_wp2_with (fail)
                rw [rounds_succ]
                go_wp2_with (fail)
                go_quiet (fail)
                have hBd : Below y0.heap.size y0 (y0.drewN nq) := below_drewN (Below.refl _ _) _
                have HA2 := Lib.hid (HA.out.later hBd); have HB2 := Lib.hid (Below.go HB.out hBd); have HV2 := Lib.hid (HV1.out.later hBd); have HU2 := Lib.hid (HU1.out.later hBd); have HT2 := Lib.hid (HT1.out.later hBd); have HC2 := Lib.hid (HC.out.later hBd)
                clear hBd HA HB HV1 HU1 HT1 HC c0 c1 c2 hD A0 A2 Al
                generalize y0.drewN nq = y1 at *
                have HA := HA2; have HB := HB2; have HV1 := HV2; have HU1 := HU2; have HT1 := HT2; have HC := HC2
                clear HA2 HB2 HV2 HU2 HT2 HC2
                have c0 : y1.cell? ⟨D, o + k * 3, none⟩ = some (.int .i64 x0) := HC.out.at 0 _ rfl
                have c1 : y1.cell? ⟨D, o + k * 3 + 1, none⟩ = some (.int .i64 x1) := HC.out.at 1 _ rfl
                have c2 : y1.cell? ⟨D, o + k * 3 + 2, none⟩ = some (.int .i64 x2) := HC.out.at 2 _ rfl
                have hD : D < y1.heap.size := HC.out.lt
                have oA := HA.out
                have A0 := oA.at 0 _ rfl
                have A2 := oA.at 2 _ rfl
                have Al := oA.lt
                clear oA
                skip
                go_wp2_with (fail)
                rw [rounds_succ]
                go_wp2_with (fail)
                go_quiet (fail)
                have hBd : Below y1.heap.size y1 (y1.drewN nq) := below_drewN (Below.refl _ _) _
                have HA2 := Lib.hid (HA.out.later hBd); have HB2 := Lib.hid (Below.go HB.out hBd); have HV2 := Lib.hid (HV1.out.later hBd); have HU2 := Lib.hid (HU1.out.later hBd); have HT2 := Lib.hid (HT1.out.later hBd); have HC2 := Lib.hid (HC.out.later hBd)
                clear hBd HA HB HV1 HU1 HT1 HC c0 c1 c2 hD A0 A2 Al
                generalize y1.drewN nq = y2 at *
                have HA := HA2; have HB := HB2; have HV1 := HV2; have HU1 := HU2; have HT1 := HT2; have HC := HC2
                clear HA2 HB2 HV2 HU2 HT2 HC2
                have c0 : y2.cell? ⟨D, o + k * 3, none⟩ = some (.int .i64 x0) := HC.out.at 0 _ rfl
                have c1 : y2.cell? ⟨D, o + k * 3 + 1, none⟩ = some (.int .i64 x1) := HC.out.at 1 _ rfl
                have c2 : y2.cell? ⟨D, o + k * 3 + 2, none⟩ = some (.int .i64 x2) := HC.out.at 2 _ rfl
                have hD : D < y2.heap.size := HC.out.lt
                have oA := HA.out
                have A0 := oA.at 0 _ rfl
                have A2 := oA.at 2 _ rfl
                have Al := oA.lt
                clear oA
                skip
                go_wp2_with (fail)
                go_ret
                exact ⟨rfl, HB.out⟩
              have hc2d : (x2 == x0) = false := by simpa using hc2
              have ALL2 := Lib.hid (allB_step ALL.out (YES.out (by omega)))
              clear NO YES ALL ha0 hb0 hc0 ha1 hb1 hc1 ha2 hb2 hc2
              go_wp2_with (fail)
              refine wp_loop_rounds 4 ?_
              rw [rounds_succ]
              go_wp2_with (fail)
              go_quiet (fail)
              have hBd : Below wr.heap.size wr (wr.drewN nq) := below_drewN (Below.refl _ _) _
              have HA2 := Lib.hid (HA.out.later hBd); have HB2 := Lib.hid (Below.go HB.out hBd); have HV2 := Lib.hid (HV1.out.later hBd); have HU2 := Lib.hid (HU1.out.later hBd); have HT2 := Lib.hid (HT1.out.later hBd); have HC2 := Lib.hid (HC.out.later hBd)
              clear hBd HA HB HV1 HU1 HT1 HC c0 c1 c2 hD A0 A2 Al
              generalize wr.drewN nq = y0 at *
              have HA := HA2; have HB := HB2; have HV1 := HV2; have HU1 := HU2; have HT1 := HT2; have HC := HC2
              clear HA2 HB2 HV2 HU2 HT2 HC2
              have c0 : y0.cell? ⟨D, o + k * 3, none⟩ = some (.int .i64 x0) := HC.out.at 0 _ rfl
              have c1 : y0.cell? ⟨D, o + k * 3 + 1, none⟩ = some (.int .i64 x1) := HC.out.at 1 _ rfl
              have c2 : y0.cell? ⟨D, o + k * 3 + 2, none⟩ = some (.int .i64 x2) := HC.out.at 2 _ rfl
              have hD : D < y0.heap.size := HC.out.lt
              have oA := HA.out
              have A0 := oA.at 0 _ rfl
              have A2 := oA.at 2 _ rfl
              have Al := oA.lt
              clear oA
              skip
              go_wp2_with (fail)
              rw [rounds_succ]
              go_wp2_with (fail)
              go_quiet (fail)
              have hBd : Below y0.heap.size y0 (y0.drewN nq) := below_drewN (Below.refl _ _) _
              have HA2 := Lib.hid (HA.out.later hBd); have HB2 := Lib.hid (Below.go HB.out hBd); have HV2 := Lib.hid (HV1.out.later hBd); have HU2 := Lib.hid (HU1.out.later hBd); have HT2 := Lib.hid (HT1.out.later hBd); have HC2 := Lib.hid (HC.out.later hBd)
              clear hBd HA HB HV1 HU1 HT1 HC c0 c1 c2 hD A0 A2 Al
              generalize y0.drewN nq = y1 at *
              have HA := HA2; have HB := HB2; have HV1 := HV2; have HU1 := HU2; have HT1 := HT2; have HC := HC2
              clear HA2 HB2 HV2 HU2 HT2 HC2
              have c0 : y1.cell? ⟨D, o + k * 3, none⟩ = some (.int .i64 x0) := HC.out.at 0 _ rfl
              have c1 : y1.cell? ⟨D, o + k * 3 + 1, none⟩ = some (.int .i64 x1) := HC.out.at 1 _ rfl
              have c2 : y1.cell? ⟨D, o + k * 3 + 2, none⟩ = some (.int .i64 x2) := HC.out.at 2 _ rfl
              have hD : D < y1.heap.size := HC.out.lt
              have oA := HA.out
              have A0 := oA.at 0 _ rfl
              have A2 := oA.at 2 _ rfl
              have Al := oA.lt
              clear oA
              skip
              go_wp2_with (fail)
              rw [rounds_succ]
              go_wp2_with (fail)
              go_quiet (fail)
              have hBd : Below y1.heap.size y1 (y1.drewN nq) := below_drewN (Below.refl _ _) _
              have HA2 := Lib.hid (HA.out.later hBd); have HB2 := Lib.hid (Below.go HB.out hBd); have HV2 := Lib.hid (HV1.out.later hBd); have HU2 := Lib.hid (HU1.out.later hBd); have HT2 := Lib.hid (HT1.out.later hBd); have HC2 := Lib.hid (HC.out.later hBd)
              clear hBd HA HB HV1 HU1 HT1 HC c0 c1 c2 hD A0 A2 Al
              generalize y1.drewN nq = y2 at *
              have HA := HA2; have HB := HB2; have HV1 := HV2; have HU1 := HU2; have HT1 := HT2; have HC := HC2
              clear HA2 HB2 HV2 HU2 HT2 HC2
              have c0 : y2.cell? ⟨D, o + k * 3, none⟩ = some (.int .i64 x0) := HC.out.at 0 _ rfl
              have c1 : y2.cell? ⟨D, o + k * 3 + 1, none⟩ = some (.int .i64 x1) := HC.out.at 1 _ rfl
              have c2 : y2.cell? ⟨D, o + k * 3 + 2, none⟩ = some (.int .i64 x2) := HC.out.at 2 _ rfl
              have hD : D < y2.heap.size := HC.out.lt
              have oA := HA.out
              have A0 := oA.at 0 _ rfl
              have A2 := oA.at 2 _ rfl
              have Al := oA.lt
              clear oA
              skip
              go_wp2_with (fail)
              rw [rounds_succ]
              go_wp2_with (fail)
              go_roundw
              case rel => (first | exact ⟨k + 1, HLT.out, by go_num, ALL2, HA, HB, HV1, HU1, HT1⟩ | ((repeat apply Exists.intro); exact ⟨⟨k + 1, HLT.out, by go_num, ALL2, HA, HB, HV1, HU1, HT1⟩, rfl⟩))
              case measure => (have := HLT.out; simp [intOf]; omega)
            · obtain rfl : k = nt := by omega
              obtain rfl : z = 0 := V6.out C1.out C2.out P1.out P2.out (allB_iff.2 ALL.out)
              clear hlt hk ALL V5 V6
              have oA := HA.out
              have A2 := oA.at 2 _ rfl
              have Al := oA.lt
              clear oA
              go_wp2_with (fail)
              go_ret
              exact ⟨rfl, HB.out⟩
end Go.Proofs.Ytnopcgkhoennfaa
