/- The document's times. -/
import Derived.Test.YtbofihejegbfhaaNO
import Derived.Lib.Hide
import Derived.Deep.QuietTactic
namespace Go.Proofs.Ytbofihejegbfhaa
set_option linter.unusedVariables false
set_option maxRecDepth 2000
set_option linter.unusedSimpArgs false
open Go.RowKit
theorem tmod5 (s t : Nat) (h : s % 5 = t) : (s : Int).tmod 5 = (t : Int) := by
  rw [Int.tmod_eq_emod_of_nonneg (by omega)]; omega
attribute [local go_sem] nums_length

set_option maxHeartbeats 4000000 in
theorem RTimes_any_ (a b : Nat → Int) (ha : ∀ j, j < 5 → 0 ≤ a j ∧ a j ≤ 134217728) (hb : ∀ j, j < 5 → 0 ≤ b j ∧ b j ≤ 134217728) (w : World) :
    Calls Try.prog 21 #[(.agg (nums .i64 a 5).toArray), (.agg (nums .i64 b 5).toArray)] w fun e w' => e = .returned (.agg (nums .i64 (itR (accT a b 25) 3) 5).toArray) ∧ Below w.heap.size w w' := by
  have AB := Lib.hid (fun n hn j => acc_bd a b ha hb n hn j)
  have CC := Lib.hid (fun w => carried_any (accT a b 25) (fun j _ => ⟨(acc_bd a b ha hb 25 (by decide) j).1, by have := (acc_bd a b ha hb 25 (by decide) j).2; omega⟩) w)
  have HA := Lib.hid ha; have HBb := Lib.hid hb
  clear ha hb
  go_enter Try.func21, Try.ntmps21
  go_upto_region 2 with fail
  obtain ⟨W0, hW⟩ : ∃ W0, W0 = ((((w.alloc (.cells (nums .i64 a 5).toArray 49)).alloc (.cells (nums .i64 b 5).toArray 49)).alloc (.cells #[.int .i64 0, .int .i64 0, .int .i64 0, .int .i64 0, .int .i64 0] 49)).alloc (.cells #[.int .i64 0, .int .i64 0, .int .i64 0, .int .i64 0, .int .i64 0] 49)) := ⟨_, rfl⟩
  have hB0 : Below w.heap.size w W0 := hW ▸ (Below.al (Below.al (Below.al (Below.al (Below.refl _ _)))))
  have HX : Hid (Own w.heap.size (nums .i64 a 5) W0) := Lib.hid (hW ▸ (show Own w.heap.size (nums .i64 a 5) (w.alloc (.cells (nums .i64 a 5).toArray 49)) from Own.newAt (by simp)).alloc.alloc.alloc)
  have HY : Hid (Own (w.heap.size + 1) (nums .i64 b 5) W0) := Lib.hid (hW ▸ (show Own (w.heap.size + 1) (nums .i64 b 5) ((w.alloc (.cells (nums .i64 a 5).toArray 49)).alloc (.cells (nums .i64 b 5).toArray 49)) from Own.newAt (by simp)).alloc.alloc)
  have HR : Hid (Own ((w.heap.size + 1) + 1) (nums .i64 (fun _ => 0) 5) W0) := Lib.hid (hW ▸ (show Own ((w.heap.size + 1) + 1) (nums .i64 (fun _ => 0) 5) (((w.alloc (.cells (nums .i64 a 5).toArray 49)).alloc (.cells (nums .i64 b 5).toArray 49)).alloc (.cells #[.int .i64 0, .int .i64 0, .int .i64 0, .int .i64 0, .int .i64 0] 49)) from Own.newAt (by simp)).alloc)
  have HQ : Hid (Own (((w.heap.size + 1) + 1) + 1) (nums .i64 (fun _ => 0) 5) W0) := Lib.hid (hW ▸ (show Own (((w.heap.size + 1) + 1) + 1) (nums .i64 (fun _ => 0) 5) ((((w.alloc (.cells (nums .i64 a 5).toArray 49)).alloc (.cells (nums .i64 b 5).toArray 49)).alloc (.cells #[.int .i64 0, .int .i64 0, .int .i64 0, .int .i64 0, .int .i64 0] 49)).alloc (.cells #[.int .i64 0, .int .i64 0, .int .i64 0, .int .i64 0, .int .i64 0] 49)) from Own.newAt (by simp)))
  rw [← hW]
  clear hW
  obtain ⟨Q, eQ⟩ : ∃ X, X = (((w.heap.size + 1) + 1) + 1) := ⟨_, rfl⟩
  rw [← eQ] at HQ ⊢
  have Qw : w.heap.size ≤ Q := by omega
  obtain ⟨R, eR⟩ : ∃ X, X = ((w.heap.size + 1) + 1) := ⟨_, rfl⟩
  rw [← eR] at HR ⊢
  have Rw : w.heap.size ≤ R := by omega
  obtain ⟨Y, eY⟩ : ∃ X, X = (w.heap.size + 1) := ⟨_, rfl⟩
  rw [← eY] at HY ⊢
  have Yw : w.heap.size ≤ Y := by omega
  obtain ⟨X, eX⟩ : ∃ X, X = w.heap.size := ⟨_, rfl⟩
  rw [← eX] at HX ⊢
  have Xw : w.heap.size ≤ X := by omega
  have nXY : X ≠ Y := by omega
  have nYX : Y ≠ X := by omega
  have nXR : X ≠ R := by omega
  have nRX : R ≠ X := by omega
  have nXQ : X ≠ Q := by omega
  have nQX : Q ≠ X := by omega
  have nYR : Y ≠ R := by omega
  have nRY : R ≠ Y := by omega
  have nYQ : Y ≠ Q := by omega
  have nQY : Q ≠ Y := by omega
  have nRQ : R ≠ Q := by omega
  have nQR : Q ≠ R := by omega
  clear eX eY eR eQ
  go_wp2_with (fail)
  go_loopw [6] (fun iv wr => ∃ (i : Nat), i ≤ 5 ∧ iv = .int .i64 i ∧ Hid (Below w.heap.size w wr) ∧ Hid (Own X (nums .i64 a 5) wr) ∧ Hid (Own Y (nums .i64 b 5) wr) ∧ Hid (Own Q (nums .i64 (accT a b (5 * i)) 5) wr) ∧ Hid (Own R (nums .i64 (fun _ => 0) 5) wr)) (fun iv _ => (5 - (intOf iv).toNat))
  case atStart => exact ⟨0, by decide, rfl, Lib.hid hB0, HX, HY, HQ, HR⟩
  case round =>
    clear HX HY HQ HR hB0
    obtain ⟨i, hi, rfl, HB, HX, HY, HQ, HR⟩ := hrel
    by_cases hlt : i < 5
    · have i5 : (i : Int) < 5 := by omega
      have i0 : (0 : Int) ≤ (i : Int) := by omega
      have wi : IntKind.i64.wrap ((i : Int) + 1) = (i : Int) + 1 := IntWalk.i64_in _ (by omega)
      have HI := Lib.hid hlt
      clear hi hlt
      go_wp2_with (fail)
      go_loopw [7] (fun kv ws => ∃ (k : Nat), k ≤ 5 ∧ kv = .int .i64 k ∧ Hid (Below w.heap.size w ws) ∧ Hid (Own X (nums .i64 a 5) ws) ∧ Hid (Own Y (nums .i64 b 5) ws) ∧ Hid (Own Q (nums .i64 (accT a b (5 * i + k)) 5) ws) ∧ Hid (Own R (nums .i64 (fun _ => 0) 5) ws)) (fun kv _ => (5 - (intOf kv).toNat))
      case atStart => exact ⟨0, by decide, rfl, HB, HX, HY, HQ, HR⟩
      case round =>
        clear HB HX HY HQ HR
        obtain ⟨k, hk, rfl, HB, HX, HY, HQ, HR⟩ := hrel
        rename World => ws
        by_cases h5 : k < 5
        · have hi5 := HI.out
          have x0 := HX.out.at i _ (nums_at _ _ hi5)
          have y0 := HY.out.at k _ (nums_at _ _ h5)
          have bx := HA.out i hi5; have bY := HBb.out k h5
          obtain ⟨x, ex⟩ : ∃ x, a i = x := ⟨_, rfl⟩
          obtain ⟨y, ey⟩ : ∃ y, b k = y := ⟨_, rfl⟩
          rw [ex] at x0 bx; rw [ey] at y0 bY
          have u0 := Int.mul_nonneg bx.1 bY.1
          have u1 : x * y ≤ 134217728 * 134217728 := Int.mul_le_mul bx.2 bY.2 bY.1 (by decide)
          obtain ⟨u, eu⟩ : ∃ u, x * y = u := ⟨_, rfl⟩
          rw [eu] at u0 u1
          have wu : IntKind.i64.wrap u = u := IntWalk.i64_in _ (by omega)
          obtain ⟨s, es⟩ : ∃ s : Nat, s = i + k := ⟨_, rfl⟩
          obtain ⟨t_, et⟩ : ∃ t : Nat, s % 5 = t := ⟨_, rfl⟩
          have t5 : t_ < 5 := by omega
          have d0 := HQ.out.at t_ _ (nums_at _ _ t5)
          have df := HQ.out.ok t_ (by rw [nums_length]; exact t5)
          have Ql := HQ.out.lt
          have bd := AB.out (5 * i + k) (by omega) t_
          obtain ⟨d_, ed⟩ : ∃ d_, accT a b (5 * i + k) t_ = d_ := ⟨_, rfl⟩
          rw [ed] at d0 bd
          have ws1 : IntKind.i64.wrap ((i : Int) + (k : Int)) = (s : Int) := by rw [IntWalk.i64_in _ (by omega)]; omega
          have ws2 : (i : Int) + (k : Int) = (s : Int) := by omega
          have ws3 : IntKind.i64.wrap (s : Int) = (s : Int) := IntWalk.i64_in _ (by omega)
          have tm := tmod5 s t_ et
          have wt : IntKind.i64.wrap (t_ : Int) = (t_ : Int) := IntWalk.i64_in _ (by omega)
          have k0 : (0 : Int) ≤ (k : Int) := by omega
          have k5 : (k : Int) < 5 := by omega
          have t0 : (0 : Int) ≤ (t_ : Int) := by omega
          have t5i : (t_ : Int) < 5 := by omega
          have wk1 : IntKind.i64.wrap ((k : Int) + 1) = (k : Int) + 1 := IntWalk.i64_in _ (by omega)
          have HK5 := Lib.hid (show k + 1 ≤ 5 from h5)
          have T5 := Lib.hid t5
          clear bx bY hi5 t5
          by_cases sb : 5 ≤ s
          ·
            have sb2 : (5 : Int) ≤ (s : Int) := by omega
            have PT : pT a b (5 * i + k) = 5 * u := by
              unfold pT
              rw [show (5 * i + k) / 5 = i by omega, show (5 * i + k) % 5 = k by omega, ex, ey, eu]
              exact if_pos (by omega)
            have AS : nums .i64 (at1 (accT a b (5 * i + k)) t_ (accT a b (5 * i + k) t_ + pT a b (5 * i + k))) 5 = nums .i64 (accT a b (5 * i + (k + 1))) 5 := by
              rw [show 5 * i + (k + 1) = (5 * i + k) + 1 by omega, accT, show (5 * i + k) / 5 = i by omega, show (5 * i + k) % 5 = k by omega, ← es, et]
            rw [PT, ed] at AS
            obtain ⟨p_, ep⟩ : ∃ p_, 5 * u = p_ := ⟨_, rfl⟩
            have wp : IntKind.i64.wrap p_ = p_ := IntWalk.i64_in _ (by omega)
            rw [ep] at AS
            obtain ⟨z, ez⟩ : ∃ z, d_ + p_ = z := ⟨_, rfl⟩
            have wz : IntKind.i64.wrap z = z := IntWalk.i64_in _ (by omega)
            rw [ez] at AS
            have AS2 := Lib.hid AS
            clear AS PT ex ey ed es et bd u0 u1 h5 hk
            go_wp2_with (fail)
            go_quiet (fail)
            have hD : Below ws.heap.size ws (ws.drewN nq) := below_drewN (Below.refl _ _) _
            have o1 := Lib.hid (AS2.out ▸ own_set (v := z) (HQ.out.later hD) T5.out)
            have o2 := Lib.hid (Own.far (c := Q) (o := t_) (vs := [.int .i64 z]) (HX.out.later hD) nXQ)
            have o3 := Lib.hid (Own.far (c := Q) (o := t_) (vs := [.int .i64 z]) (HY.out.later hD) nYQ)
            have o4 := Lib.hid (Own.far (c := Q) (o := t_) (vs := [.int .i64 z]) (HR.out.later hD) nRQ)
            have o5 := Lib.hid (Below.setCells (Below.go HB.out hD) Qw [.int .i64 z] t_)
            clear AS2 HX HY HR HQ HB
            go_wp2_with (fail)
            skip
            go_roundw
            case rel => (first | exact ⟨k + 1, HK5.out, by go_num, o5, o2, o3, o1, o4⟩ | ((repeat apply Exists.intro); exact ⟨⟨k + 1, HK5.out, by go_num, o5, o2, o3, o1, o4⟩, rfl⟩))
            case measure => (have := HK5.out; simp [intOf]; omega)
          ·
            have sb2 : decide ((5 : Int) ≤ (s : Int)) = false := decide_eq_false (by omega)
            have PT : pT a b (5 * i + k) = u := by
              unfold pT
              rw [show (5 * i + k) / 5 = i by omega, show (5 * i + k) % 5 = k by omega, ex, ey, eu]
              exact if_neg (by omega)
            have AS : nums .i64 (at1 (accT a b (5 * i + k)) t_ (accT a b (5 * i + k) t_ + pT a b (5 * i + k))) 5 = nums .i64 (accT a b (5 * i + (k + 1))) 5 := by
              rw [show 5 * i + (k + 1) = (5 * i + k) + 1 by omega, accT, show (5 * i + k) / 5 = i by omega, show (5 * i + k) % 5 = k by omega, ← es, et]
            rw [PT, ed] at AS
            obtain ⟨p_, ep⟩ : ∃ p_, u = p_ := ⟨_, rfl⟩
            have wp : IntKind.i64.wrap p_ = p_ := IntWalk.i64_in _ (by omega)
            rw [ep] at AS
            obtain ⟨z, ez⟩ : ∃ z, d_ + p_ = z := ⟨_, rfl⟩
            have wz : IntKind.i64.wrap z = z := IntWalk.i64_in _ (by omega)
            rw [ez] at AS
            have AS2 := Lib.hid AS
            clear AS PT ex ey ed es et bd u0 u1 h5 hk sb
            go_wp2_with (fail)
            go_quiet (fail)
            have hD : Below ws.heap.size ws (ws.drewN nq) := below_drewN (Below.refl _ _) _
            have o1 := Lib.hid (AS2.out ▸ own_set (v := z) (HQ.out.later hD) T5.out)
            have o2 := Lib.hid (Own.far (c := Q) (o := t_) (vs := [.int .i64 z]) (HX.out.later hD) nXQ)
            have o3 := Lib.hid (Own.far (c := Q) (o := t_) (vs := [.int .i64 z]) (HY.out.later hD) nYQ)
            have o4 := Lib.hid (Own.far (c := Q) (o := t_) (vs := [.int .i64 z]) (HR.out.later hD) nRQ)
            have o5 := Lib.hid (Below.setCells (Below.go HB.out hD) Qw [.int .i64 z] t_)
            clear AS2 HX HY HR HQ HB
            go_wp2_with (fail)
            skip
            go_roundw
            case rel => (first | exact ⟨k + 1, HK5.out, by go_num, o5, o2, o3, o1, o4⟩ | ((repeat apply Exists.intro); exact ⟨⟨k + 1, HK5.out, by go_num, o5, o2, o3, o1, o4⟩, rfl⟩))
            case measure => (have := HK5.out; simp [intOf]; omega)
        · have e5 : k = 5 := by omega
          subst e5
          have HQ2 : Hid (Own Q (nums .i64 (accT a b (5 * (i + 1))) 5) ws) := HQ
          clear HQ h5 hk
          go_wp2_with (fail)
          go_roundw
          case rel => (first | exact ⟨i + 1, HI.out, by go_num, HB, HX, HY, HQ2, HR⟩ | ((repeat apply Exists.intro); exact ⟨⟨i + 1, HI.out, by go_num, HB, HX, HY, HQ2, HR⟩, rfl⟩))
          case measure => (have := HI.out; simp [intOf]; omega)
    · have e5 : i = 5 := by omega
      subst e5
      go_upto_region 12 with fail
      have hB0 := HB.out
      refine wp_region_lit ?_
      refine wpList_load_mid rfl 49 _ rfl Q 0 rfl (nums .i64 (accT a b (5 * 5)) 5) _ HQ.out.cell Try.underlying49 rfl (by kernel_rfl) ?_
      go_wp2_with (fail)
      go_at_call 22
      refine (CC.out _).mono ?_
      rintro e w5 ⟨rfl, hb⟩
      have HRk := Lib.hid (HR.out.later hb)
      clear HR
      have HR := HRk
      clear HRk
      have hB1 := Below.go hB0 hb
      have hst := store_nums (P := Try.prog) (n := 5) .i64 (itR (accT a b 25) 3) HR.out rfl
      have HR1 := Lib.hid (Own.store (vs := nums .i64 (itR (accT a b 25) 3) 5) HR.out rfl)
      have hB2 := Below.setCells hB1 Rw (nums .i64 (itR (accT a b 25) 3) 5) 0
      go_wp2_with (fail)
      have hL := run_loadVar_mid (P := Try.prog) _ R 0 49 (nums .i64 (itR (accT a b 25) 3) 5) _ HR1.out.cell Try.underlying49 rfl (by kernel_rfl)
      exact bodyPost_ret (v := .agg (nums .i64 (itR (accT a b 25) 3) 5).toArray) (res_cell Try.results21 rfl hL) rfl ⟨rfl, hB2⟩
end Go.Proofs.Ytbofihejegbfhaa
