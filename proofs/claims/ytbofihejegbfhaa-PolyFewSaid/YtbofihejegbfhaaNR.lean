/- The document's Tag. -/
import Derived.Test.YtbofihejegbfhaaNK
import Derived.Test.YtbofihejegbfhaaNL
import Derived.Test.YtbofihejegbfhaaNS
import Derived.Test.YtbofihejegbfhaaNQ
import Derived.Test.YtbofihejegbfhaaNT
import Derived.Lib.Hide
import Derived.StillTailTactics
import Derived.Deep.Onto
namespace Go.Proofs.Ytbofihejegbfhaa
set_option linter.unusedVariables false
set_option maxRecDepth 2000
set_option linter.unusedSimpArgs false
open Go.RowKit
theorem st5 (w : World) (f : Nat → Int) (c : Array Value) (hc : c.size = 5) : (storeCells ⟨w.heap.size, 0, none⟩ (nums .i64 f 5)).run Try.prog (w.alloc (.cells c 49)) = .ok () (w.alloc (.cells (nums .i64 f 5).toArray 49)) :=
  run_storeCells_new (P := Try.prog) w 49 c (nums .i64 f 5).toArray (by rw [nums_size]; kernel_rfl) (by rw [nums_size, hc]) (nums_all _ _ _)
/-- the clamped half, and a byte 0 -/
theorem wide_num (kf : Nat → Int) : numB (mixL (clampF kf) (fun _ => 0) 16) 17 = facN kf := by
  have e : numB (mixL (clampF kf) (fun _ => 0) 16) 17 = numB (mixL (clampF kf) (fun _ => 0) 16) 16 + (mixL (clampF kf) (fun _ => 0) 16 16).toNat * 256 ^ 16 := rfl
  rw [e, mixL_at, numB_congr (f := mixL (clampF kf) (fun _ => 0) 16) (g := clampF kf) (n := 16) (fun i hi => if_pos hi)]
  show numB (clampF kf) 16 + 0 * 256 ^ 16 = numB (clampF kf) 16
  rw [Nat.zero_mul, Nat.add_zero]
theorem xb_ {v x : Int} {e : Nat} (hv : 0 ≤ v ∧ v ≤ 256) (he : e < 256) (hx : v + (e : Int) = x) : 0 ≤ x ∧ x ≤ 512 := by omega
theorem ex_ {v x x2 : Int} {e z e1 : Nat} (hx : v + (e : Int) = x) (h2 : x + (z : Int) = x2) (h3 : e1 = e + z) : x2 = v + (e1 : Int) := by omega
theorem wx_ {x x2 : Int} {z : Nat} (hx : 0 ≤ x ∧ x ≤ 512) (hz : z ≤ 128) (h2 : x + (z : Int) = x2) : IntKind.i64.wrap x2 = x2 ∧ wrap64 x2 = x2 := ⟨IntWalk.i64_in _ (by omega), by unfold wrap64; omega⟩
attribute [local go_sem] nums_length st5

set_option maxHeartbeats 8000000 in
theorem RTag_any (kf f : Nat → Int) (p : Option Addr) (n c : Nat) (hk : ∀ i, i < 32 → inB (kf i)) (hf : ∀ i, i < n → inB (f i)) (hn : n ≤ 65536) (hnc : n ≤ c) (hc : c ≤ 9223372036854775807) (w : World) (hb : Byt w p n f) :
    Calls Try.prog 9 #[(.agg (nums .u8 kf 32).toArray), .slice p n c] w fun e w' => e = .returned (.agg (nums .u8 (byt (tagN kf f n)) 16).toArray) ∧ Below w.heap.size w w' := by
  have KB := Lib.hid hk; have FB := Lib.hid hf; have HN := Lib.hid hn; have HNC := Lib.hid hnc; have HC := Lib.hid hc
  have BY0 := Lib.hid hb
  clear hk hf hn hnc hc hb
  go_enter Try.func9, Try.ntmps9
  go_upto_region 2 with fail
  obtain ⟨W0, hW⟩ : ∃ W0, W0 = (((w.alloc (.cells (nums .u8 kf 32).toArray 22)).alloc (.cells #[.int .u8 0, .int .u8 0, .int .u8 0, .int .u8 0, .int .u8 0, .int .u8 0, .int .u8 0, .int .u8 0, .int .u8 0, .int .u8 0, .int .u8 0, .int .u8 0, .int .u8 0, .int .u8 0, .int .u8 0, .int .u8 0] 29)).alloc (.cells #[.int .u8 0, .int .u8 0, .int .u8 0, .int .u8 0, .int .u8 0, .int .u8 0, .int .u8 0, .int .u8 0, .int .u8 0, .int .u8 0, .int .u8 0, .int .u8 0, .int .u8 0, .int .u8 0, .int .u8 0, .int .u8 0] 29)) := ⟨_, rfl⟩
  have hB0 : Below w.heap.size w W0 := hW ▸ (Below.al (Below.al (Below.al (Below.refl _ _))))
  have HY : Hid (Own w.heap.size (nums .u8 kf 32) W0) := Lib.hid (hW ▸ (show Own w.heap.size (nums .u8 kf 32) (w.alloc (.cells (nums .u8 kf 32).toArray 22)) from Own.newAt (by simp)).alloc.alloc)
  have HR : Hid (Own (w.heap.size + 1) (nums .u8 (fun _ => 0) 16) W0) := Lib.hid (hW ▸ (show Own (w.heap.size + 1) (nums .u8 (fun _ => 0) 16) ((w.alloc (.cells (nums .u8 kf 32).toArray 22)).alloc (.cells #[.int .u8 0, .int .u8 0, .int .u8 0, .int .u8 0, .int .u8 0, .int .u8 0, .int .u8 0, .int .u8 0, .int .u8 0, .int .u8 0, .int .u8 0, .int .u8 0, .int .u8 0, .int .u8 0, .int .u8 0, .int .u8 0] 29)) from Own.newAt (by simp)).alloc)
  have HF : Hid (Own ((w.heap.size + 1) + 1) (nums .u8 (fun _ => 0) 16) W0) := Lib.hid (hW ▸ (show Own ((w.heap.size + 1) + 1) (nums .u8 (fun _ => 0) 16) (((w.alloc (.cells (nums .u8 kf 32).toArray 22)).alloc (.cells #[.int .u8 0, .int .u8 0, .int .u8 0, .int .u8 0, .int .u8 0, .int .u8 0, .int .u8 0, .int .u8 0, .int .u8 0, .int .u8 0, .int .u8 0, .int .u8 0, .int .u8 0, .int .u8 0, .int .u8 0, .int .u8 0] 29)).alloc (.cells #[.int .u8 0, .int .u8 0, .int .u8 0, .int .u8 0, .int .u8 0, .int .u8 0, .int .u8 0, .int .u8 0, .int .u8 0, .int .u8 0, .int .u8 0, .int .u8 0, .int .u8 0, .int .u8 0, .int .u8 0, .int .u8 0] 29)) from Own.newAt (by simp)))
  rw [← hW]
  clear hW
  obtain ⟨F, eF⟩ : ∃ X, X = ((w.heap.size + 1) + 1) := ⟨_, rfl⟩
  rw [← eF] at HF ⊢
  have Fw : w.heap.size ≤ F := by omega
  obtain ⟨R, eR⟩ : ∃ X, X = (w.heap.size + 1) := ⟨_, rfl⟩
  rw [← eR] at HR ⊢
  have Rw : w.heap.size ≤ R := by omega
  obtain ⟨Y, eY⟩ : ∃ X, X = w.heap.size := ⟨_, rfl⟩
  rw [← eY] at HY ⊢
  have Yw : w.heap.size ≤ Y := by omega
  have nYR : Y ≠ R := by omega
  have nRY : R ≠ Y := by omega
  have nYF : Y ≠ F := by omega
  have nFY : F ≠ Y := by omega
  have nRF : R ≠ F := by omega
  have nFR : F ≠ R := by omega
  clear eY eR eF
  have BY := Lib.hid (BY0.out.upto.below hB0)
  clear BY0
  go_wp2_with (fail)
  go_loopw [6] (fun iv wr => ∃ (i : Nat), i ≤ 16 ∧ iv = .int .i64 i ∧ Hid (Below w.heap.size w wr) ∧ Hid (BytU wr p n f w.heap.size) ∧ Hid (Own Y (nums .u8 kf 32) wr) ∧ Hid (Own F (nums .u8 (mixL (kf) (fun _ => 0) i) 16) wr) ∧ Hid (Own R (nums .u8 (fun _ => 0) 16) wr)) (fun iv _ => (16 - (intOf iv).toNat))
  case atStart => exact ⟨0, by omega, rfl, Lib.hid hB0, BY, HY, HF, HR⟩
  case round =>
    clear HY HF HR BY hB0
    obtain ⟨i, hi, rfl, HB, BY, HY, HF, HR⟩ := hrel
    by_cases hlt : i < 16
    · have x0 := HY.out.at i _ (nums_at _ _ (by omega))
      have y0 := HF.out.at i _ (nums_at _ _ (by omega))
      have yf := HF.out.ok i (by rw [nums_length]; omega)
      have Yl := HF.out.lt
      have MX := mixL_step .u8 (kf) (fun _ => 0) i 16 _ rfl
      obtain ⟨x, ex⟩ : ∃ x, (kf) i = x := ⟨_, rfl⟩
      rw [ex] at x0 MX
      have i0 : (0 : Int) ≤ (i : Int) := by omega
      have i1 : (i : Int) < 16 := by omega
      have i2 : (i : Int) < 32 := by omega
      have i3 : (i : Int) < 17 := by omega
      have w1 : IntKind.i64.wrap ((i : Int) + 1) = (i : Int) + 1 := IntWalk.i64_in _ (by omega)
      have HL := Lib.hid hlt
      have o0 := Lib.hid (BytU.far (o := i) (vs := [.int .u8 x]) BY.out Fw)
      have o1 := Lib.hid (Own.far (o := i) (vs := [.int .u8 x]) HY.out nYF)
      have o2 := Lib.hid (MX ▸ own_set (v := x) HF.out (show i < 16 by omega))
      have o3 := Lib.hid (Own.far (o := i) (vs := [.int .u8 x]) HR.out nRF)
      have ob := Lib.hid (Below.setCells HB.out Fw [.int .u8 x] i)
      clear ex MX HY HF HR BY HB hi hlt
      go_wp2_with (fail)
      go_roundw
      case rel => (first | exact ⟨i + 1, HL.out, by go_num, ob, o0, o1, o2, o3⟩ | ((repeat apply Exists.intro); exact ⟨⟨i + 1, HL.out, by go_num, ob, o0, o1, o2, o3⟩, rfl⟩))
      case measure => (have := HL.out; simp [intOf]; omega)
    · have e16 : i = 16 := by omega
      subst e16
      clear hi hlt
      rw [mixL_all] at HF
      have hB0 := HB.out
      clear HB
      go_upto_region 6 with fail
      refine wp_region_lit ?_
      refine wpList_load_mid rfl 29 _ rfl F 0 rfl (nums .u8 kf 16) _ HF.out.cell Try.underlying29 rfl (by kernel_rfl) ?_
      go_wp2_with (fail)
      go_at_call 18
      refine (RClamp_any kf (fun i hi => KB.out i (by omega)) _).mono ?_
      rintro e y2 ⟨rfl, hb⟩
      have HFk := Lib.hid (HF.out.later hb)
      have HYk := Lib.hid (HY.out.later hb)
      have HRk := Lib.hid (HR.out.later hb)
      clear HF HY HR
      have HF := HFk
      clear HFk
      have HY := HYk
      clear HYk
      have HR := HRk
      clear HRk
      replace BY := Lib.hid (BY.out.later hb)
      have hBn := Below.go hB0 hb
      clear hB0 hb
      have hB0 := hBn
      clear hBn
      have hst := store_nums (P := Try.prog) (n := 16) .u8 (clampF kf) HF.out rfl
      go_upto_region 7 with fail
      have byn := Lib.hid (BytU.far (o := 0) (vs := nums .u8 (clampF kf) 16) BY.out Fw)
      clear BY
      have BY := byn
      clear byn
      have HFn : Hid (Own F (nums .u8 (clampF kf) 16) (y2.setCells F 0 (nums .u8 (clampF kf) 16))) := Lib.hid (Own.store HF.out (by simp [nums_length]))
      have HYn : Hid (Own Y (nums .u8 kf 32) (y2.setCells F 0 (nums .u8 (clampF kf) 16))) := Lib.hid (Own.far (o := 0) (vs := (nums .u8 (clampF kf) 16)) HY.out nYF)
      have HRn : Hid (Own R (nums .u8 (fun _ => 0) 16) (y2.setCells F 0 (nums .u8 (clampF kf) 16))) := Lib.hid (Own.far (o := 0) (vs := (nums .u8 (clampF kf) 16)) HR.out nRF)
      have hB0n : Below w.heap.size w (y2.setCells F 0 (nums .u8 (clampF kf) 16)) := Below.setCells hB0 Fw (nums .u8 (clampF kf) 16) 0
      clear HF HY HR hB0
      generalize (y2.setCells F 0 (nums .u8 (clampF kf) 16)) = y3 at *
      have HF := HFn
      clear HFn
      have HY := HYn
      clear HYn
      have HR := HRn
      clear HRn
      have hB0 := hB0n
      clear hB0n
      clear hst
      go_upto_region 8 with fail
      obtain ⟨y4, hW⟩ : ∃ y4, y4 = (y3.alloc (.cells #[.int .u8 0, .int .u8 0, .int .u8 0, .int .u8 0, .int .u8 0, .int .u8 0, .int .u8 0, .int .u8 0, .int .u8 0, .int .u8 0, .int .u8 0, .int .u8 0, .int .u8 0, .int .u8 0, .int .u8 0, .int .u8 0, .int .u8 0] 48)) := ⟨_, rfl⟩
      have hBx : Below y3.heap.size y3 y4 := hW ▸ (Below.al (Below.refl _ _))
      have HV : Hid (Own y3.heap.size (nums .u8 (fun _ => 0) 17) y4) := Lib.hid (hW ▸ (show Own y3.heap.size (nums .u8 (fun _ => 0) 17) (y3.alloc (.cells #[.int .u8 0, .int .u8 0, .int .u8 0, .int .u8 0, .int .u8 0, .int .u8 0, .int .u8 0, .int .u8 0, .int .u8 0, .int .u8 0, .int .u8 0, .int .u8 0, .int .u8 0, .int .u8 0, .int .u8 0, .int .u8 0, .int .u8 0] 48)) from Own.newAt (by simp)))
      rw [← hW]
      clear hW
      obtain ⟨V, eV⟩ : ∃ X, X = y3.heap.size := ⟨_, rfl⟩
      rw [← eV] at HV ⊢
      have Vw : y3.heap.size ≤ V := by omega
      clear eV
      have nVY : V ≠ Y := by have := HY.out.lt; omega
      have nYV : Y ≠ V := Ne.symm nVY
      have nVR : V ≠ R := by have := HR.out.lt; omega
      have nRV : R ≠ V := Ne.symm nVR
      have nVF : V ≠ F := by have := HF.out.lt; omega
      have nFV : F ≠ V := Ne.symm nVF
      have Vw2 : w.heap.size ≤ V := by have := hB0.size; omega
      clear Vw
      have Vw := Vw2
      clear Vw2
      have HYk := Lib.hid (HY.out.later hBx)
      have HRk := Lib.hid (HR.out.later hBx)
      have HFk := Lib.hid (HF.out.later hBx)
      clear HY HR HF
      have HY := HYk
      clear HYk
      have HR := HRk
      clear HRk
      have HF := HFk
      clear HFk
      replace BY := Lib.hid (BY.out.later hBx)
      have hB0n := Below.go hB0 hBx
      clear hB0 hBx
      have hB0 := hB0n
      clear hB0n
      go_wp2_with (fail)
      go_loopw [8] (fun iv wr => ∃ (i : Nat), i ≤ 16 ∧ iv = .int .i64 i ∧ Hid (Below w.heap.size w wr) ∧ Hid (BytU wr p n f w.heap.size) ∧ Hid (Own F (nums .u8 (clampF kf) 16) wr) ∧ Hid (Own V (nums .u8 (mixL (clampF kf) (fun _ => 0) i) 17) wr) ∧ Hid (Own Y (nums .u8 kf 32) wr) ∧ Hid (Own R (nums .u8 (fun _ => 0) 16) wr)) (fun iv _ => (16 - (intOf iv).toNat))
      case atStart => exact ⟨0, by omega, rfl, Lib.hid hB0, BY, HF, HV, HY, HR⟩
      case round =>
        clear HF HV HY HR BY hB0
        obtain ⟨i, hi, rfl, HB, BY, HF, HV, HY, HR⟩ := hrel
        by_cases hlt : i < 16
        · have x0 := HF.out.at i _ (nums_at _ _ (by omega))
          have y0 := HV.out.at i _ (nums_at _ _ (by omega))
          have yf := HV.out.ok i (by rw [nums_length]; omega)
          have Yl := HV.out.lt
          have MX := mixL_step .u8 (clampF kf) (fun _ => 0) i 17 _ rfl
          obtain ⟨x, ex⟩ : ∃ x, (clampF kf) i = x := ⟨_, rfl⟩
          rw [ex] at x0 MX
          have i0 : (0 : Int) ≤ (i : Int) := by omega
          have i1 : (i : Int) < 16 := by omega
          have i2 : (i : Int) < 32 := by omega
          have i3 : (i : Int) < 17 := by omega
          have w1 : IntKind.i64.wrap ((i : Int) + 1) = (i : Int) + 1 := IntWalk.i64_in _ (by omega)
          have HL := Lib.hid hlt
          have o0 := Lib.hid (BytU.far (o := i) (vs := [.int .u8 x]) BY.out Vw)
          have o1 := Lib.hid (Own.far (o := i) (vs := [.int .u8 x]) HF.out nFV)
          have o2 := Lib.hid (MX ▸ own_set (v := x) HV.out (show i < 17 by omega))
          have o3 := Lib.hid (Own.far (o := i) (vs := [.int .u8 x]) HY.out nYV)
          have o4 := Lib.hid (Own.far (o := i) (vs := [.int .u8 x]) HR.out nRV)
          have ob := Lib.hid (Below.setCells HB.out Vw [.int .u8 x] i)
          clear ex MX HF HV HY HR BY HB hi hlt
          go_wp2_with (fail)
          go_roundw
          case rel => (first | exact ⟨i + 1, HL.out, by go_num, ob, o0, o1, o2, o3, o4⟩ | ((repeat apply Exists.intro); exact ⟨⟨i + 1, HL.out, by go_num, ob, o0, o1, o2, o3, o4⟩, rfl⟩))
          case measure => (have := HL.out; simp [intOf]; omega)
        · have e16 : i = 16 := by omega
          subst e16
          clear hi hlt
          have hB0 := HB.out
          clear HB
          go_upto_region 12 with fail
          have FL := Lib.hid (facN_lt (fun i hi => KB.out i (Nat.lt_trans hi (by decide))))
          refine wp_region_lit ?_
          refine wpList_load_mid rfl 48 _ rfl V 0 rfl (nums .u8 (mixL (clampF kf) (fun _ => 0) 16) 17) _ HV.out.cell Try.underlying48 rfl (by kernel_rfl) ?_
          have wv : ∀ i, i < 17 → inB (mixL (clampF kf) (fun _ => 0) 16 i) := fun i _ => by
            unfold mixL
            split
            · rename_i h; exact in_clampF (KB.out i (by omega))
            · show inB 0
              exact ⟨by decide, by decide⟩
          go_wp2_with (fail)
          go_at_call 19
          refine (digits_any _ (facN kf) wv (wide_num kf) (by have := FL.out; unfold TT; omega) _).mono ?_
          rintro e y5 ⟨rfl, hb⟩
          have HYk := Lib.hid (HY.out.later hb)
          have HRk := Lib.hid (HR.out.later hb)
          clear HY HR
          have HY := HYk
          clear HYk
          have HR := HRk
          clear HRk
          replace BY := Lib.hid (BY.out.later hb)
          have hBn := Below.go hB0 hb
          clear hB0 hb
          have hB0 := hBn
          clear hBn
          clear HF HV wv
          go_upto_region 14 with fail
          obtain ⟨y6, hW⟩ : ∃ y6, y6 = ((y5.alloc (.cells (nums .i64 (digs (facN kf)) 5).toArray 49)).alloc (.cells #[.int .i64 0, .int .i64 0, .int .i64 0, .int .i64 0, .int .i64 0] 49)) := ⟨_, rfl⟩
          have hBx : Below y5.heap.size y5 y6 := hW ▸ (Below.al (Below.al (Below.refl _ _)))
          have HD : Hid (Own y5.heap.size (nums .i64 (digs (facN kf)) 5) y6) := Lib.hid (hW ▸ (show Own y5.heap.size (nums .i64 (digs (facN kf)) 5) (y5.alloc (.cells (nums .i64 (digs (facN kf)) 5).toArray 49)) from Own.newAt (by simp)).alloc)
          have HH : Hid (Own (y5.heap.size + 1) (nums .i64 (fun _ => 0) 5) y6) := Lib.hid (hW ▸ (show Own (y5.heap.size + 1) (nums .i64 (fun _ => 0) 5) ((y5.alloc (.cells (nums .i64 (digs (facN kf)) 5).toArray 49)).alloc (.cells #[.int .i64 0, .int .i64 0, .int .i64 0, .int .i64 0, .int .i64 0] 49)) from Own.newAt (by simp)))
          rw [← hW]
          clear hW
          obtain ⟨H, eH⟩ : ∃ X, X = (y5.heap.size + 1) := ⟨_, rfl⟩
          rw [← eH] at HH ⊢
          have Hw : y5.heap.size ≤ H := by omega
          obtain ⟨D, eD⟩ : ∃ X, X = y5.heap.size := ⟨_, rfl⟩
          rw [← eD] at HD ⊢
          have Dw : y5.heap.size ≤ D := by omega
          have nDH : D ≠ H := by omega
          have nHD : H ≠ D := by omega
          clear eD eH
          have nDY : D ≠ Y := by have := HY.out.lt; omega
          have nYD : Y ≠ D := Ne.symm nDY
          have nDR : D ≠ R := by have := HR.out.lt; omega
          have nRD : R ≠ D := Ne.symm nDR
          have Dw2 : w.heap.size ≤ D := by have := hB0.size; omega
          clear Dw
          have Dw := Dw2
          clear Dw2
          have nHY : H ≠ Y := by have := HY.out.lt; omega
          have nYH : Y ≠ H := Ne.symm nHY
          have nHR : H ≠ R := by have := HR.out.lt; omega
          have nRH : R ≠ H := Ne.symm nHR
          have Hw2 : w.heap.size ≤ H := by have := hB0.size; omega
          clear Hw
          have Hw := Hw2
          clear Hw2
          have HYk := Lib.hid (HY.out.later hBx)
          have HRk := Lib.hid (HR.out.later hBx)
          clear HY HR
          have HY := HYk
          clear HYk
          have HR := HRk
          clear HRk
          replace BY := Lib.hid (BY.out.later hBx)
          have hB0n := Below.go hB0 hBx
          clear hB0 hBx
          have hB0 := hB0n
          clear hB0n
          obtain ⟨m, em⟩ : ∃ m, m = (n + 15) / 16 := ⟨_, rfl⟩
          have Hl6 := HH.out.lt
          go_wp2_with (fail)
          go_at_call 20
          refine (RBlocks_any f p n c m HN.out HNC.out HC.out em _ BY.out.byt).mono ?_
          rintro e y7 ⟨v, rfl, hrow, hb⟩
          obtain ⟨p3, c3, rfl, hc3⟩ := row_form hrow
          have RG := Lib.hid (row_byg hrow)
          have NC3 := Lib.hid hc3
          have y6s := hB0.size
          have HYk := Lib.hid (HY.out.later hb)
          have HRk := Lib.hid (HR.out.later hb)
          have HDk := Lib.hid (HD.out.later hb)
          have HHk := Lib.hid (HH.out.later hb)
          clear HY HR HD HH
          have HY := HYk
          clear HYk
          have HR := HRk
          clear HRk
          have HD := HDk
          clear HDk
          have HH := HHk
          clear HHk
          have HB := Lib.hid (Below.go hB0 hb)
          have HM := Lib.hid em
          clear hB0 hb hrow BY hc3 em
          obtain ⟨r, er⟩ : ∃ r, facN kf = r := ⟨_, rfl⟩
          rw [er] at HD FL
          have ER := Lib.hid er
          clear er
          go_wp2_with (fail)
          go_loopw [12] (fun iv wr => ∃ (k M : Nat), k ≤ m ∧ iv = .int .i64 k ∧ Hid (M < TT ∧ M % PP = horn r f n k) ∧ Hid (Below w.heap.size w wr) ∧ Hid (Own D (nums .i64 (digs r) 5) wr) ∧ Hid (Own H (nums .i64 (digs M) 5) wr) ∧ Hid (Own Y (nums .u8 kf 32) wr) ∧ Hid (Own R (nums .u8 (fun _ => 0) 16) wr) ∧ Hid (ByG wr p3 (m * 17) (rowF f n) y6.heap.size)) (fun iv _ => (m - (intOf iv).toNat))
          case atStart => exact ⟨0, 0, Nat.zero_le _, rfl, Lib.hid ⟨by decide, rfl⟩, HB, HD, Lib.hid (by rw [show nums .i64 (digs 0) 5 = nums .i64 (fun _ => 0) 5 from nums_congr _ fun j _ => by simp [digs]]; exact HH.out), HY, HR, RG⟩
          case round =>
            clear HB HD HH HY HR RG
            obtain ⟨k, M, hk, rfl, HMM, HB, HD, HH, HY, HR, RG⟩ := hrel
            by_cases hlt : k < m
            · obtain ⟨G, rfl, hG, HG⟩ : ∃ G, p3 = some ⟨G, 0, none⟩ ∧ y6.heap.size ≤ G ∧ Has G 0 (nums .u8 (rowF f n) (m * 17)) wr := RG.out.resolve_left (by omega)
              have HBK : Hid (Has G (k * 17) (nums .u8 (blkB f n k) 17) wr) := Lib.hid (by
                have h := has_drop HG (show k * 17 + 17 ≤ m * 17 by have := Nat.mul_le_mul_right 17 (show k + 1 ≤ m from hlt); omega)
                rwa [Nat.zero_add, nums_congr (g := blkB f n k) .u8 (fun j hj => rowF_at f n k j hj)] at h)
              have HGR := Lib.hid HG
              have GG := Lib.hid hG
              have k0 : (0 : Int) ≤ (k : Int) := by omega
              have k1 : (k : Int) < (m : Int) := by omega
              have w1 : IntKind.i64.wrap ((k : Int) + 1) = (k : Int) + 1 := IntWalk.i64_in _ (by have := HM.out; have := HN.out; omega)
              have HK := Lib.hid hlt
              have bl := blkN_lt FB.out k
              have bt : blkN f n k < TT := by unfold TT; omega
              obtain ⟨M1, M2, m1, m2, q1, q2, q3⟩ := ref_step M (blkN f n k) r HMM.out.1 bt (by have := FL.out; unfold TT; omega)
              have sb : ∀ j, j < 5 → 0 ≤ digs (blkN f n k) j + digs M j ∧ digs (blkN f n k) j + digs M j ≤ 134217728 := fun j _ => by have := digs_bd (blkN f n k) j; have := digs_bd M j; omega
              have CD := Lib.hid (fun w => digits_any (blkB f n k) (blkN f n k) (fun i _ => in_blkB FB.out k i) rfl bt w)
              have CC := Lib.hid (fun w => carried_any (fun j => digs (blkN f n k) j + digs M j) (fun j hj => ⟨(sb j hj).1, by have := (sb j hj).2; omega⟩) w)
              have CT := Lib.hid (fun w => RTimes_any_ (digs M1) (digs r) (fun j _ => by have := digs_bd M1 j; omega) (fun j _ => by have := digs_bd r j; omega) w)
              rw [q1] at CC
              rw [q2] at CT
              have H2 : Hid (M2 < TT ∧ M2 % PP = horn r f n (k + 1)) := Lib.hid ⟨m2, by rw [q3, HMM.out.2]; rfl⟩
              have SB := Lib.hid sb
              clear m1 m2 q1 q2 q3 bl bt sb HG RG hk HMM
              generalize blkN f n k = bk at *
              have hB0 := HB.out
              clear HB
              go_upto_region 18 with fail
              refine wp_region_lit ?_
              refine wpList_move rfl _ rfl ?_
              refine wpList_move rfl _ rfl ?_
              refine wpList_plain rfl fun K_ hK => ?_
              go_simp
              refine hK _ _ ?_
              clear hK K_
              refine wpList_load_mid rfl 48 _ rfl G (k * 17) rfl (nums .u8 (blkB f n k) 17) _ HBK.out.cell Try.underlying48 rfl (by kernel_rfl) ?_
              go_wp2_with (fail)
              go_at_call 19
              refine (CD.out _).mono ?_
              rintro e z1 ⟨rfl, hb⟩
              have HDk := Lib.hid (HD.out.later hb)
              have HHk := Lib.hid (HH.out.later hb)
              have HYk := Lib.hid (HY.out.later hb)
              have HRk := Lib.hid (HR.out.later hb)
              have HGRk := Lib.hid (HGR.out.later hb)
              clear HD HH HY HR HGR
              have HD := HDk
              clear HDk
              have HH := HHk
              clear HHk
              have HY := HYk
              clear HYk
              have HR := HRk
              clear HRk
              have HGR := HGRk
              clear HGRk
              have hBn := Below.go hB0 hb
              clear hB0 hb HBK
              have hB0 := hBn
              clear hBn
              go_upto_region 19 with fail
              obtain ⟨z2, hW⟩ : ∃ z2, z2 = (z1.alloc (.cells (nums .i64 (digs bk) 5).toArray 49)) := ⟨_, rfl⟩
              have hBx : Below z1.heap.size z1 z2 := hW ▸ (Below.al (Below.refl _ _))
              have HBL : Hid (Own z1.heap.size (nums .i64 (digs bk) 5) z2) := Lib.hid (hW ▸ (show Own z1.heap.size (nums .i64 (digs bk) 5) (z1.alloc (.cells (nums .i64 (digs bk) 5).toArray 49)) from Own.newAt (by simp)))
              rw [← hW]
              clear hW
              obtain ⟨B_, eB_⟩ : ∃ X, X = z1.heap.size := ⟨_, rfl⟩
              rw [← eB_] at HBL ⊢
              have B_w : z1.heap.size ≤ B_ := by omega
              clear eB_
              have nB_D : B_ ≠ D := by have := HD.out.lt; omega
              have nDB_ : D ≠ B_ := Ne.symm nB_D
              have nB_H : B_ ≠ H := by have := HH.out.lt; omega
              have nHB_ : H ≠ B_ := Ne.symm nB_H
              have nB_Y : B_ ≠ Y := by have := HY.out.lt; omega
              have nYB_ : Y ≠ B_ := Ne.symm nB_Y
              have nB_R : B_ ≠ R := by have := HR.out.lt; omega
              have nRB_ : R ≠ B_ := Ne.symm nB_R
              have nB_G : B_ ≠ G := by have := HGR.out.lt; omega
              have nGB_ : G ≠ B_ := Ne.symm nB_G
              have B_w2 : w.heap.size ≤ B_ := by have := hB0.size; omega
              clear B_w
              have B_w := B_w2
              clear B_w2
              have HDk := Lib.hid (HD.out.later hBx)
              have HHk := Lib.hid (HH.out.later hBx)
              have HYk := Lib.hid (HY.out.later hBx)
              have HRk := Lib.hid (HR.out.later hBx)
              have HGRk := Lib.hid (HGR.out.later hBx)
              clear HD HH HY HR HGR
              have HD := HDk
              clear HDk
              have HH := HHk
              clear HHk
              have HY := HYk
              clear HYk
              have HR := HRk
              clear HRk
              have HGR := HGRk
              clear HGRk
              have hB0n := Below.go hB0 hBx
              clear hB0 hBx
              have hB0 := hB0n
              clear hB0n
              go_wp2_with (fail)
              go_loopw [14] (fun jv ws => ∃ (j : Nat), j ≤ 5 ∧ jv = .int .i64 j ∧ Hid (Below w.heap.size w ws) ∧ Hid (Own B_ (nums .i64 (mixL (fun j => digs bk j + digs M j) (digs bk) j) 5) ws) ∧ Hid (Own D (nums .i64 (digs r) 5) ws) ∧ Hid (Own H (nums .i64 (digs M) 5) ws) ∧ Hid (Own Y (nums .u8 kf 32) ws) ∧ Hid (Own R (nums .u8 (fun _ => 0) 16) ws) ∧ Hid (Has G 0 (nums .u8 (rowF f n) (m * 17)) ws)) (fun jv _ => (5 - (intOf jv).toNat))
              case atStart => exact ⟨0, by decide, rfl, Lib.hid hB0, Lib.hid (by rw [show nums .i64 (mixL (fun j => digs bk j + digs M j) (digs bk) 0) 5 = nums .i64 (digs bk) 5 from nums_congr _ fun j _ => if_neg (Nat.not_lt_zero _)]; exact HBL.out), HD, HH, HY, HR, HGR⟩
              case round =>
                clear HBL HD HH HY HR HGR hB0
                obtain ⟨j, hj, rfl, HB, HBL, HD, HH, HY, HR, HGR⟩ := hrel
                rename World => ws
                by_cases h5 : j < 5
                · have x0 := HBL.out.at j _ (nums_at _ _ h5)
                  have xf := HBL.out.ok j (by rw [nums_length]; exact h5)
                  have Bl := HBL.out.lt
                  have y0 := HH.out.at j _ (nums_at _ _ h5)
                  rw [mixL_at] at x0
                  have sb := SB.out j h5
                  have MX := mixL_step .i64 (fun j => digs bk j + digs M j) (digs bk) j 5 _ rfl
                  obtain ⟨x, ex⟩ : ∃ x, digs bk j = x := ⟨_, rfl⟩
                  obtain ⟨y, ey⟩ : ∃ y, digs M j = y := ⟨_, rfl⟩
                  rw [ex, ey] at sb MX
                  rw [ex] at x0; rw [ey] at y0
                  obtain ⟨z, ez⟩ : ∃ z, x + y = z := ⟨_, rfl⟩
                  rw [ez] at sb MX
                  have wz : IntKind.i64.wrap z = z := IntWalk.i64_in _ (by omega)
                  have wz2 : wrap64 z = z := by unfold wrap64; omega
                  have j0 : (0 : Int) ≤ (j : Int) := by omega
                  have j5 : (j : Int) < 5 := by omega
                  have wj : IntKind.i64.wrap ((j : Int) + 1) = (j : Int) + 1 := IntWalk.i64_in _ (by omega)
                  have HJ := Lib.hid h5
                  have MX2 := Lib.hid MX
                  clear ex ey sb MX hj h5
                  go_wp2_with (fail)
                  refine wp_region_still_tail 9 (by kernel_rfl) (by kernel_rfl) ?_; simp only [List.take_succ_cons, List.take_zero, List.drop_succ_cons, List.drop_zero]; change wpStill _ _ (World.drew _) (fun a1 => wpList _ _ _ _ a1 (World.drew _)) _ _; repeat still_step
                  refine wpStill_nil ?_
                  have o1 := Lib.hid (MX2.out ▸ own_set (v := z) HBL.out.drew HJ.out)
                  have o2 := Lib.hid (Own.far (o := j) (vs := [.int .i64 z]) HD.out.drew nDB_)
                  have o3 := Lib.hid (Own.far (o := j) (vs := [.int .i64 z]) HH.out.drew nHB_)
                  have o4 := Lib.hid (Own.far (o := j) (vs := [.int .i64 z]) HY.out.drew nYB_)
                  have o5 := Lib.hid (Own.far (o := j) (vs := [.int .i64 z]) HR.out.drew nRB_)
                  have o6 := Lib.hid (Has.far (o := j) (vs := [.int .i64 z]) HGR.out.drew nGB_)
                  have o7 := Lib.hid (Below.setCells HB.out.drew B_w [.int .i64 z] j)
                  clear HB HBL HD HH HY HR HGR MX2
                  go_wp2_with (fail)
                  go_roundw
                  case rel => (first | exact ⟨j + 1, HJ.out, by go_num, o7, o1, o2, o3, o4, o5, o6⟩ | ((repeat apply Exists.intro); exact ⟨⟨j + 1, HJ.out, by go_num, o7, o1, o2, o3, o4, o5, o6⟩, rfl⟩))
                  case measure => (have := HJ.out; simp [intOf]; omega)
                · have e5 : j = 5 := by omega
                  subst e5
                  rw [mixL_all] at HBL
                  clear hj h5
                  go_wp2_with (fail)
                  refine wp_region_fun 5 (by kernel_rfl) (by kernel_rfl) rfl (fun s b => ⟨#[Value.agg (nums IntKind.u8 kf 32).toArray, Value.slice p n c, Value.pointer (some { block := Y, off := 0 }), undef, Value.pointer (some { block := R, off := 0 }), Value.pointer (some { block := F, off := 0 }), Value.int IntKind.i64 16, Value.pointer (some { block := V, off := 0 }), Value.int IntKind.i64 16, Value.pointer (some { block := D, off := 0 }), Value.pointer (some { block := H, off := 0 }), Value.slice (some { block := G, off := 0 }) m c3, Value.int IntKind.i64 (k : Int), Value.pointer (some { block := B_, off := 0 }), Value.int IntKind.i64 ((5 : Nat) : Int), undef, undef, undef, undef, undef, undef, Value.int IntKind.i64 16, Value.bool false, u23, u24, u25, u26, u27, u28, u29, Value.agg (nums IntKind.u8 kf 16).toArray, Value.agg (nums IntKind.u8 (clampF kf) 16).toArray, Value.int IntKind.i64 16, Value.bool false, u34, u35, u36, u37, u38, u39, u40, Value.agg (nums IntKind.u8 (mixL (clampF kf) (fun x => 0) 16) 17).toArray, Value.agg (nums IntKind.i64 (digs (facN kf)) 5).toArray, Value.slice p n c, Value.slice (some { block := G, off := 0 }) m c3, Value.int IntKind.i64 (k : Int), Value.slice (some { block := G, off := 0 }) m c3, Value.int IntKind.i64 (m : Int), Value.bool true, u49, u50, Value.slice (some { block := G, off := 0 }) m c3, Value.int IntKind.i64 (k : Int), Value.pointer (some { block := G, off := k * 17 }), Value.agg (nums IntKind.u8 (blkB f n k) 17).toArray, Value.agg (nums IntKind.i64 (digs bk) 5).toArray, Value.int IntKind.i64 ((5 : Nat) : Int), Value.bool false, u58, u59, u60, u61, u62, u63, u64, u65, u66, u67, u68, s 69, s 70, s 71, s 72, undef, undef, undef, undef, undef, undef, undef, undef, undef, undef, undef, undef, undef, undef, undef, undef, undef, undef, undef, undef, undef, undef, undef, undef, undef, undef, undef, undef, undef, undef, undef, undef, undef, undef, undef, undef, undef, undef, undef, undef], []⟩) (fun d s b w => (d 4 = false → Below ws.heap.size ws w) ∧ (d 0 = true → s 69 = .agg (nums .i64 (fun j => digs bk j + digs M j) 5).toArray) ∧ (d 1 = true → s 70 = .agg (nums .i64 (digs M1) 5).toArray) ∧ (d 2 = true → s 71 = .agg (nums .i64 (digs r) 5).toArray) ∧ (d 3 = true → s 72 = .agg (nums .i64 (digs M2) 5).toArray) ∧ (d 4 = true → ∀ j, j < 4 → d j = true) ∧ (d 4 = true → ∃ w2, Below ws.heap.size ws w2 ∧ w = w2.setCells H 0 (nums .i64 (digs M2) 5))) rfl ?h0v1 (?stv1 : StepsF _ _ _ _ 5 _ _ [0, 1, 2, 3, 4]) ?dnv1
                  case h0v1 => exact ⟨fun _ => Below.drew (Below.refl _ _), (fun h => nomatch h), (fun h => nomatch h), (fun h => nomatch h), (fun h => nomatch h), (fun h => nomatch h), (fun h => nomatch h)⟩
                  case stv1 =>
                    refine StepsF.cons (o := _) rfl (ws := []) (by kernel_rfl) (by decide) (fun d s b w hF hd hw K_ hK => ?_) ?_
                    · have hk : d 4 = false := by cases e : d 4 with | false => rfl | true => exact absurd ((p5_ hF.out) e 0 (by decide)) (by simp [hd])
                      have hB : Below ws.heap.size ws w := (p0_ hF.out) hk
                      refine step_load (by simp [Region.wanted]) 49 _ rfl B_ 0 rfl (nums .i64 (fun j => digs bk j + digs M j) 5) _ (HBL.out.later hB).cell Try.underlying49 rfl (by kernel_rfl) ?_
                      exact hK.out (ups s 69 (.agg (nums .i64 (fun j => digs bk j + digs M j) 5).toArray)) b _ ⟨(fun _ => hB), (fun _ => rfl), (p2_ hF.out), (p3_ hF.out), (p4_ hF.out), (fun h => absurd ((p5_ hF.out) h 0 (by decide)) (by simp [hd])), (fun h => absurd ((p5_ hF.out) h 0 (by decide)) (by simp [hd]))⟩
                    refine StepsF.cons (o := _) rfl (ws := [0]) (by kernel_rfl) (by decide) (fun d s b w hF hd hw K_ hK => ?_) ?_
                    · have hk : d 4 = false := by cases e : d 4 with | false => rfl | true => exact absurd ((p5_ hF.out) e 1 (by decide)) (by simp [hd])
                      have hB : Below ws.heap.size ws w := (p0_ hF.out) hk
                      have e0 : s 69 = .agg (nums .i64 (fun j => digs bk j + digs M j) 5).toArray := (p1_ hF.out) (hw 0 (by decide))
                      dsimp only
                      go_simp
                      go_at_call 22
                      refine (CC.out _).mono ?_
                      rintro e w1 ⟨rfl, hb⟩
                      exact hK.out (ups (ups s 69 (.agg (nums .i64 (fun j => digs bk j + digs M j) 5).toArray)) 70 (.agg (nums .i64 (digs M1) 5).toArray)) b _ ⟨(fun _ => (Below.go hB hb)), (fun _ => rfl), (fun _ => rfl), (p3_ hF.out), (p4_ hF.out), (fun h => absurd ((p5_ hF.out) h 1 (by decide)) (by simp [hd])), (fun h => absurd ((p5_ hF.out) h 1 (by decide)) (by simp [hd]))⟩
                    refine StepsF.cons (o := _) rfl (ws := []) (by kernel_rfl) (by decide) (fun d s b w hF hd hw K_ hK => ?_) ?_
                    · have hk : d 4 = false := by cases e : d 4 with | false => rfl | true => exact absurd ((p5_ hF.out) e 2 (by decide)) (by simp [hd])
                      have hB : Below ws.heap.size ws w := (p0_ hF.out) hk
                      refine step_load (by simp [Region.wanted]) 49 _ rfl D 0 rfl (nums .i64 (digs r) 5) _ (HD.out.later hB).cell Try.underlying49 rfl (by kernel_rfl) ?_
                      exact hK.out (ups s 71 (.agg (nums .i64 (digs r) 5).toArray)) b _ ⟨(fun _ => hB), (p1_ hF.out), (p2_ hF.out), (fun _ => rfl), (p4_ hF.out), (fun h => absurd ((p5_ hF.out) h 2 (by decide)) (by simp [hd])), (fun h => absurd ((p5_ hF.out) h 2 (by decide)) (by simp [hd]))⟩
                    refine StepsF.cons (o := _) rfl (ws := [1, 2, 1]) (by kernel_rfl) (by decide) (fun d s b w hF hd hw K_ hK => ?_) ?_
                    · have hk : d 4 = false := by cases e : d 4 with | false => rfl | true => exact absurd ((p5_ hF.out) e 3 (by decide)) (by simp [hd])
                      have hB : Below ws.heap.size ws w := (p0_ hF.out) hk
                      have e1 : s 70 = .agg (nums .i64 (digs M1) 5).toArray := (p2_ hF.out) (hw 1 (by decide))
                      have e2 : s 71 = .agg (nums .i64 (digs r) 5).toArray := (p3_ hF.out) (hw 2 (by decide))
                      dsimp only
                      go_simp
                      go_at_call 21
                      refine (CT.out _).mono ?_
                      rintro e w1 ⟨rfl, hb⟩
                      exact hK.out (ups (ups (ups s 70 (.agg (nums .i64 (digs M1) 5).toArray)) 71 (.agg (nums .i64 (digs r) 5).toArray)) 72 (.agg (nums .i64 (digs M2) 5).toArray)) b _ ⟨(fun _ => (Below.go hB hb)), (p1_ hF.out), (fun _ => rfl), (fun _ => rfl), (fun _ => rfl), (fun h => absurd ((p5_ hF.out) h 3 (by decide)) (by simp [hd])), (fun h => absurd ((p5_ hF.out) h 3 (by decide)) (by simp [hd]))⟩
                    refine StepsF.cons (o := _) rfl (ws := [3, 3, 0, 1, 2, 3]) (by kernel_rfl) (by decide) (fun d s b w hF hd hw K_ hK => ?_) ?_
                    · have hB : Below ws.heap.size ws w := (p0_ hF.out) hd
                      have e0 : s 69 = .agg (nums .i64 (fun j => digs bk j + digs M j) 5).toArray := (p1_ hF.out) (hw 0 (by decide))
                      have e1 : s 70 = .agg (nums .i64 (digs M1) 5).toArray := (p2_ hF.out) (hw 1 (by decide))
                      have e2 : s 71 = .agg (nums .i64 (digs r) 5).toArray := (p3_ hF.out) (hw 2 (by decide))
                      have e3 : s 72 = .agg (nums .i64 (digs M2) 5).toArray := (p4_ hF.out) (hw 3 (by decide))
                      dsimp only
                      have oz := HH.out.later hB
                      have hst := store_nums (P := Try.prog) (n := 5) .i64 (digs M2) oz rfl
                      have oX := HH.out.later hB
                      clear oX
                      go_simp
                      exact hK.out (ups (ups (ups (ups s 69 (.agg (nums .i64 (fun j => digs bk j + digs M j) 5).toArray)) 70 (.agg (nums .i64 (digs M1) 5).toArray)) 71 (.agg (nums .i64 (digs r) 5).toArray)) 72 (.agg (nums .i64 (digs M2) 5).toArray)) b _ ⟨(fun h => nomatch h), (fun _ => rfl), (fun _ => rfl), (fun _ => rfl), (fun _ => rfl), (fun _ j hj => by have hj2 := hw j (by simp; omega); simp [upd, hj2]), (fun _ => ⟨w, hB, rfl⟩)⟩
                    exact StepsF.nil
                  intro d s b v1 hF hall
                  replace hF := Lib.hid hF
                  obtain ⟨v1, hB, rfl⟩ := (q6_ hF.out) (hall 4 (by decide))
                  try dsimp only
                  have e0 : s 69 = .agg (nums .i64 (fun j => digs bk j + digs M j) 5).toArray := (p1_ hF.out) (hall 0 (by decide))
                  have e1 : s 70 = .agg (nums .i64 (digs M1) 5).toArray := (p2_ hF.out) (hall 1 (by decide))
                  have e2 : s 71 = .agg (nums .i64 (digs r) 5).toArray := (p3_ hF.out) (hall 2 (by decide))
                  have e3 : s 72 = .agg (nums .i64 (digs M2) 5).toArray := (p4_ hF.out) (hall 3 (by decide))
                  rw [e0, e1, e2, e3]
                  clear hall hF e0 e1 e2 e3
                  clear d s b
                  have o1 := Lib.hid (Own.store (vs := nums .i64 (digs M2) 5) (HH.out.later hB) rfl)
                  have o2 := Lib.hid (Own.far (o := 0) (vs := nums .i64 (digs M2) 5) (HD.out.later hB) nDH)
                  have o3 := Lib.hid (Own.far (o := 0) (vs := nums .i64 (digs M2) 5) (HY.out.later hB) nYH)
                  have o4 := Lib.hid (Own.far (o := 0) (vs := nums .i64 (digs M2) 5) (HR.out.later hB) nRH)
                  have nGH : G ≠ H := by have := GG.out; omega
                  have o5 := Lib.hid (show ByG (v1.setCells H 0 (nums .i64 (digs M2) 5)) (some ⟨G, 0, none⟩) (m * 17) (rowF f n) y6.heap.size from .inr ⟨G, rfl, GG.out, Has.far (o := 0) (vs := nums .i64 (digs M2) 5) (HGR.out.later hB) nGH⟩)
                  have o6 := Lib.hid (Below.setCells (Below.go HB.out hB) Hw (nums .i64 (digs M2) 5) 0)
                  clear HB HBL HD HH HY HR HGR hB
                  go_wp2_with (fail)
                  go_roundw
                  case rel => (first | exact ⟨k + 1, M2, HK.out, by go_num, H2, o6, o2, o1, o3, o4, o5⟩ | ((repeat apply Exists.intro); exact ⟨⟨k + 1, M2, HK.out, by go_num, H2, o6, o2, o1, o3, o4, o5⟩, rfl⟩))
                  case measure => (have := HK.out; simp [intOf]; omega)
            · have hkm : k = m := by omega
              subst hkm
              have hl := HMM.out
              clear hk
              go_upto_region 24 with fail
              have hB0 := HB.out
              clear HB
              refine wp_region_lit ?_
              refine wpList_load_mid rfl 49 _ rfl H 0 rfl (nums .i64 (digs M) 5) _ HH.out.cell Try.underlying49 rfl (by kernel_rfl) ?_
              go_wp2_with (fail)
              go_at_call 23
              refine (least_any M hl.1 _).mono ?_
              rintro e v2 ⟨rfl, hb⟩
              rw [hl.2]
              have HHk := Lib.hid (HH.out.later hb)
              have HYk := Lib.hid (HY.out.later hb)
              have HRk := Lib.hid (HR.out.later hb)
              clear HH HY HR
              have HH := HHk
              clear HHk
              have HY := HYk
              clear HYk
              have HR := HRk
              clear HRk
              have hBn := Below.go hB0 hb
              clear hB0 hb HD RG
              have hB0 := hBn
              clear hBn
              have HL := Lib.hid (show horn r f n k < TT by have := horn_lt r f n k; unfold PP at this; unfold TT; omega)
              have TE : tagN kf f n = horn r f n k + numB (fun i => kf (16 + i)) 16 := by rw [← ER.out, HM.out]; rfl
              have hst := store_nums (P := Try.prog) (n := 5) .i64 (digs (horn r f n k)) HH.out rfl
              have ET := Lib.hid TE
              clear TE hl HMM
              generalize horn r f n k = h0 at *
              go_upto_region 25 with fail
              have HHn : Hid (Own H (nums .i64 (digs h0) 5) (v2.setCells H 0 (nums .i64 (digs h0) 5))) := Lib.hid (Own.store HH.out rfl)
              have HYn : Hid (Own Y (nums .u8 kf 32) (v2.setCells H 0 (nums .i64 (digs h0) 5))) := Lib.hid (Own.far (o := 0) (vs := (nums .i64 (digs h0) 5)) HY.out nYH)
              have HRn : Hid (Own R (nums .u8 (fun _ => 0) 16) (v2.setCells H 0 (nums .i64 (digs h0) 5))) := Lib.hid (Own.far (o := 0) (vs := (nums .i64 (digs h0) 5)) HR.out nRH)
              have hB0n : Below w.heap.size w (v2.setCells H 0 (nums .i64 (digs h0) 5)) := Below.setCells hB0 Hw (nums .i64 (digs h0) 5) 0
              clear HH HY HR hB0
              generalize (v2.setCells H 0 (nums .i64 (digs h0) 5)) = v3 at *
              have HH := HHn
              clear HHn
              have HY := HYn
              clear HYn
              have HR := HRn
              clear HRn
              have hB0 := hB0n
              clear hB0n
              clear hst
              go_upto_region 26 with fail
              obtain ⟨v4, hW⟩ : ∃ v4, v4 = (v3.alloc (.cells #[.int .u8 0, .int .u8 0, .int .u8 0, .int .u8 0, .int .u8 0, .int .u8 0, .int .u8 0, .int .u8 0, .int .u8 0, .int .u8 0, .int .u8 0, .int .u8 0, .int .u8 0, .int .u8 0, .int .u8 0, .int .u8 0] 29)) := ⟨_, rfl⟩
              have hBx : Below v3.heap.size v3 v4 := hW ▸ (Below.al (Below.refl _ _))
              have HO : Hid (Own v3.heap.size (nums .u8 (fun _ => 0) 16) v4) := Lib.hid (hW ▸ (show Own v3.heap.size (nums .u8 (fun _ => 0) 16) (v3.alloc (.cells #[.int .u8 0, .int .u8 0, .int .u8 0, .int .u8 0, .int .u8 0, .int .u8 0, .int .u8 0, .int .u8 0, .int .u8 0, .int .u8 0, .int .u8 0, .int .u8 0, .int .u8 0, .int .u8 0, .int .u8 0, .int .u8 0] 29)) from Own.newAt (by simp)))
              rw [← hW]
              clear hW
              obtain ⟨O, eO⟩ : ∃ X, X = v3.heap.size := ⟨_, rfl⟩
              rw [← eO] at HO ⊢
              have Ow : v3.heap.size ≤ O := by omega
              clear eO
              have nOY : O ≠ Y := by have := HY.out.lt; omega
              have nYO : Y ≠ O := Ne.symm nOY
              have nOR : O ≠ R := by have := HR.out.lt; omega
              have nRO : R ≠ O := Ne.symm nOR
              have nOH : O ≠ H := by have := HH.out.lt; omega
              have nHO : H ≠ O := Ne.symm nOH
              have Ow2 : w.heap.size ≤ O := by have := hB0.size; omega
              clear Ow
              have Ow := Ow2
              clear Ow2
              have HYk := Lib.hid (HY.out.later hBx)
              have HRk := Lib.hid (HR.out.later hBx)
              have HHk := Lib.hid (HH.out.later hBx)
              clear HY HR HH
              have HY := HYk
              clear HYk
              have HR := HRk
              clear HRk
              have HH := HHk
              clear HHk
              have hB0n := Below.go hB0 hBx
              clear hB0 hBx
              have hB0 := hB0n
              clear hB0n
              have KS : Hid (∀ i, i < 16 → kf (16 + i) = byt (numB (fun i => kf (16 + i)) 16) i) := Lib.hid fun i hi => (byt_numB (fun i => kf (16 + i)) 16 i hi fun j hj => KB.out _ (by omega)).symm
              obtain ⟨sN, es⟩ : ∃ s, numB (fun i => kf (16 + i)) 16 = s := ⟨_, rfl⟩
              rw [es] at KS ET
              clear es
              go_wp2_with (fail)
              go_loopw [16, 17] (fun cv iv wr => ∃ (i : Nat), i ≤ 16 ∧ cv = .int .i64 ((carO h0 sN i : Nat) : Int) ∧ iv = .int .i64 i ∧ Hid (Below w.heap.size w wr) ∧ Hid (Own O (nums .u8 (mixL (byt (h0 + sN)) (fun _ => 0) i) 16) wr) ∧ Hid (Own H (nums .i64 (digs h0) 5) wr) ∧ Hid (Own Y (nums .u8 kf 32) wr) ∧ Hid (Own R (nums .u8 (fun _ => 0) 16) wr)) (fun _ iv _ => (16 - (intOf iv).toNat))
              case atStart => exact ⟨0, by decide, by rw [carO0]; rfl, rfl, Lib.hid hB0, HO, HH, HY, HR⟩
              case round =>
                clear HO HH HY HR hB0
                obtain ⟨i, hi, rfl, rfl, HB, HO, HH, HY, HR⟩ := hrel
                by_cases hlt : i < 16
                · obtain ⟨q, eq⟩ : ∃ q : Nat, 16 + i = q := ⟨_, rfl⟩
                  have k0 := HY.out.at q _ (nums_at _ _ (by omega))
                  have kb := KB.out q (by omega)
                  have ks := KS.out i hlt
                  rw [eq] at ks
                  have nx := out_next h0 sN i
                  have cb := carO_bd h0 sN i
                  obtain ⟨y, ey⟩ : ∃ y, kf q = y := ⟨_, rfl⟩
                  rw [ey] at k0 kb ks
                  unfold inB at kb
                  have wq : IntKind.i64.wrap (16 + (i : Int)) = (q : Int) := by rw [IntWalk.i64_in _ (by omega)]; omega
                  have wq2 : 16 + (i : Int) = (q : Int) := by omega
                  have wq3 : IntKind.i64.wrap (q : Int) = (q : Int) := IntWalk.i64_in _ (by omega)
                  have q0 : (0 : Int) ≤ (q : Int) := by omega
                  have q32 : (q : Int) < 32 := by omega
                  have i0 : (0 : Int) ≤ (i : Int) := by omega
                  have i16 : (i : Int) < 16 := by omega
                  have wi : IntKind.i64.wrap ((i : Int) + 1) = (i : Int) + 1 := IntWalk.i64_in _ (by omega)
                  have wy : IntKind.i64.wrap y = y := IntWalk.i64_in _ (by omega)
                  obtain ⟨ca, ec⟩ : ∃ ca, ((carO h0 sN i : Nat) : Int) = ca := ⟨_, rfl⟩
                  have cab : 0 ≤ ca ∧ ca ≤ 1 := by omega
                  rw [ec]
                  obtain ⟨v0, ev⟩ : ∃ v, y + ca = v := ⟨_, rfl⟩
                  have wv : IntKind.i64.wrap v0 = v0 := IntWalk.i64_in _ (by omega)
                  have EV := Lib.hid (show v0 = ((sN / 256 ^ i % 256 + carO h0 sN i : Nat) : Int) by rw [← ev, ks, ← ec]; unfold byt; omega)
                  have VB := Lib.hid (show 0 ≤ v0 ∧ v0 ≤ 256 by omega)
                  have NX := Lib.hid nx
                  have HI := Lib.hid hlt
                  clear nx cb cab ec ks kb ey eq hi hlt
                  go_wp2_with (fail)
                  go_loopw [18, 19] (fun xv kv ws => ∃ (k : Nat), k ≤ 8 ∧ xv = .int .i64 (v0 + ((h0 / 256 ^ i % 2 ^ k : Nat) : Int)) ∧ kv = .int .i64 k ∧ Hid (Below w.heap.size w ws) ∧ Hid (Own O (nums .u8 (mixL (byt (h0 + sN)) (fun _ => 0) i) 16) ws) ∧ Hid (Own H (nums .i64 (digs h0) 5) ws) ∧ Hid (Own Y (nums .u8 kf 32) ws) ∧ Hid (Own R (nums .u8 (fun _ => 0) 16) ws)) (fun _ kv _ => (8 - (intOf kv).toNat))
                  case atStart => exact ⟨0, by decide, by simp [Nat.mod_one], rfl, HB, HO, HH, HY, HR⟩
                  case round =>
                    clear HB HO HH HY HR
                    obtain ⟨k, hk, rfl, rfl, HB, HO, HH, HY, HR⟩ := hrel
                    rename World => ws
                    by_cases h8 : k < 8
                    · have hi := HI.out
                      obtain ⟨s, u, hu, esu⟩ : ∃ s u, u < 26 ∧ 8 * i + k = 26 * s + u := ⟨(8 * i + k) / 26, (8 * i + k) % 26, by omega, by omega⟩
                      have s5 : s < 5 := by omega
                      have d0 := HH.out.at s _ (nums_at _ _ s5)
                      have db := dig_bit h0 s u hu
                      obtain ⟨e0, ee⟩ : ∃ e, h0 / 256 ^ i % 2 ^ k = e := ⟨_, rfl⟩
                      have e0k : e0 < 2 ^ k := by rw [← ee]; exact Nat.mod_lt _ (Nat.two_pow_pos _)
                      have bn0 := bit_next h0 i k
                      rw [esu, ee] at bn0
                      rw [ee]
                      clear ee
                      obtain ⟨e1, ee1⟩ : ∃ e, h0 / 256 ^ i % 2 ^ (k + 1) = e := ⟨_, rfl⟩
                      rw [ee1] at bn0
                      have EE := Lib.hid ee1
                      have BN0 := Lib.hid bn0
                      clear ee1 bn0
                      have dd := digs_bd h0 s
                      obtain ⟨d_, ed⟩ : ∃ d, digs h0 s = d := ⟨_, rfl⟩
                      rw [ed] at d0 db dd
                      have h26 := tdiv26 s u hu
                      have m26 := tmod26 s u hu
                      obtain ⟨t_, et⟩ : ∃ t : Nat, 26 * s + u = t := ⟨_, rfl⟩
                      have bn1 := BN0.out
                      rw [et] at h26 m26 db bn1 esu
                      have BN1 := Lib.hid bn1
                      clear bn1 BN0
                      obtain ⟨b8, e8⟩ : ∃ b : Nat, 8 * i = b := ⟨_, rfl⟩
                      have w8 : IntKind.i64.wrap (8 * (i : Int)) = (b8 : Int) := by rw [IntWalk.i64_in _ (by omega)]; omega
                      have w8b : 8 * (i : Int) = (b8 : Int) := by omega
                      have w8c : IntKind.i64.wrap (b8 : Int) = (b8 : Int) := IntWalk.i64_in _ (by omega)
                      have wt : IntKind.i64.wrap ((b8 : Int) + (k : Int)) = (t_ : Int) := by rw [IntWalk.i64_in _ (by omega)]; omega
                      have wt2 : (b8 : Int) + (k : Int) = (t_ : Int) := by omega
                      have wt3 : IntKind.i64.wrap (t_ : Int) = (t_ : Int) := IntWalk.i64_in _ (by omega)
                      have w3 : IntKind.i64.wrap (s : Int) = (s : Int) := IntWalk.i64_in _ (by omega)
                      have w4 : IntKind.i64.wrap (u : Int) = (u : Int) := IntWalk.i64_in _ (by omega)
                      have s0 : (0 : Int) ≤ (s : Int) := by omega
                      have s5i : (s : Int) < 5 := by omega
                      have u0 : (0 : Int) ≤ (u : Int) := by omega
                      obtain ⟨g, eg⟩ : ∃ g, d_ / ((2 ^ u : Nat) : Int) = g := ⟨_, rfl⟩
                      have g1 : 0 ≤ g ∧ g ≤ d_ := by
                        rw [← eg]
                        exact ⟨Int.ediv_nonneg dd.1 (Int.natCast_nonneg _), Int.ediv_le_self _ dd.1⟩
                      rw [eg] at db
                      have sh1 : d_ / 2 ^ (u : Int).toNat = g := by rw [← eg]; simp
                      have sh2 : d_ / 2 ^ u = g := by rw [← eg]; simp
                      have sh3 : d_ / 2 ^ min u 64 = g := by rw [Nat.min_eq_left (by omega)]; exact sh2
                      have wg : IntKind.i64.wrap g = g := IntWalk.i64_in _ (by omega)
                      have wg2 : wrap64 g = g := by unfold wrap64; omega
                      have an := and1_i64 g
                      obtain ⟨bt, eb⟩ : ∃ b, h0 / 2 ^ t_ % 2 = b := ⟨_, rfl⟩
                      have b1 : bt ≤ 1 := by omega
                      have bn2 := BN1.out
                      rw [eb] at db bn2
                      rw [db] at an
                      have BN2 := Lib.hid bn2
                      clear bn2 BN1
                      have pk : 2 ^ k ≤ 128 := by
                        have := Nat.pow_le_pow_right (n := 2) (by decide) (show k ≤ 7 by omega)
                        simpa using this
                      have zb : 2 ^ k * bt ≤ 128 := Nat.le_trans (Nat.mul_le_mul_left _ b1) (by omega)
                      obtain ⟨z, ez⟩ : ∃ z : Nat, 2 ^ k * bt = z := ⟨_, rfl⟩
                      have bn := BN2.out
                      rw [ez] at bn zb
                      clear BN2
                      have z1 : (bt : Int) * 2 ^ k = (z : Int) := by rw [← ez, Int.natCast_mul, Int.natCast_pow, Int.mul_comm]; rfl
                      have z2 : (bt : Int) * 2 ^ (k : Int).toNat = (z : Int) := by rw [Int.toNat_natCast]; exact z1
                      have z3 : (bt : Int) * 2 ^ min k 64 = (z : Int) := by rw [Nat.min_eq_left (by omega)]; exact z1
                      have wz : IntKind.i64.wrap (z : Int) = (z : Int) := IntWalk.i64_in _ (by omega)
                      have wz2 : wrap64 (z : Int) = (z : Int) := by unfold wrap64; omega
                      have k0 : (0 : Int) ≤ (k : Int) := by omega
                      have k8 : (k : Int) < 8 := by omega
                      have wk : IntKind.i64.wrap ((k : Int) + 1) = (k : Int) + 1 := IntWalk.i64_in _ (by omega)
                      have HB256 : e0 < 256 := Nat.lt_of_lt_of_le e0k (Nat.le_trans pk (by decide))
                      clear e0k
                      obtain ⟨x, ex⟩ : ∃ x, v0 + (e0 : Int) = x := ⟨_, rfl⟩
                      have vb := VB.out
                      have xb := xb_ vb HB256 ex
                      obtain ⟨x2, ex2⟩ : ∃ x2, x + (z : Int) = x2 := ⟨_, rfl⟩
                      have wx := (wx_ xb zb ex2).1
                      have wx2 := (wx_ xb zb ex2).2
                      have EX := Lib.hid (show x2 = v0 + ((h0 / 256 ^ i % 2 ^ (k + 1) : Nat) : Int) by rw [EE.out]; exact ex_ ex ex2 bn)
                      have HK := Lib.hid h8
                      rw [ex]
                      clear ex bn db dd ed esu e8 et hu s5 eg eb b1 pk zb ez HB256 vb xb hk h8 hi g1
                      go_wp2_with (fail)
                      go_roundw
                      case rel => (first | exact ⟨k + 1, HK.out, by rw [EX.out], by go_num, HB, HO, HH, HY, HR⟩ | ((repeat apply Exists.intro); exact ⟨⟨k + 1, HK.out, by rw [EX.out], by go_num, HB, HO, HH, HY, HR⟩, rfl⟩))
                      case measure => (have := HK.out; simp [intOf]; omega)
                    · have e8 : k = 8 := by omega
                      subst e8
                      have EV2 := EV.out
                      have nx := NX.out
                      rw [show (2 : Nat) ^ 8 = 256 from rfl]
                      obtain ⟨g1_, eg1⟩ : ∃ g, h0 / 256 ^ i % 256 = g := ⟨_, rfl⟩
                      have gb : g1_ < 256 := by rw [← eg1]; exact Nat.mod_lt _ (by decide)
                      obtain ⟨g2_, eg2⟩ : ∃ g, sN / 256 ^ i % 256 = g := ⟨_, rfl⟩
                      obtain ⟨g3_, eg3⟩ : ∃ g, carO h0 sN i = g := ⟨_, rfl⟩
                      rw [eg1, eg2, eg3] at nx
                      rw [eg2, eg3] at EV2
                      rw [eg1]
                      clear eg1 eg2 eg3
                      obtain ⟨x, ex⟩ : ∃ x, v0 + (g1_ : Int) = x := ⟨_, rfl⟩
                      have ex2 : x = ((g2_ + g3_ + g1_ : Nat) : Int) := by rw [← ex, EV2]; omega
                      rw [ex]
                      have vb := VB.out
                      have xb : 0 ≤ x ∧ x ≤ 1024 := by omega
                      have MX := mixL_step .u8 (byt (h0 + sN)) (fun _ => 0) i 16 _ rfl
                      obtain ⟨z, ez⟩ : ∃ z, x % 256 = z := ⟨_, rfl⟩
                      rw [show byt (h0 + sN) i = z by rw [nx.1, ← ez, ex2]; omega] at MX
                      have cn : ((carO h0 sN (i + 1) : Nat) : Int) = x / 256 := by rw [nx.2, ex2]; omega
                      have CN := Lib.hid cn
                      have wz : IntKind.u8.wrap x = z := (IntKind.wrap_u8' _).trans ez
                      have hi := HI.out
                      have o0 := HO.out.at i _ (nums_at _ _ hi)
                      have of_ := HO.out.ok i (by rw [nums_length]; exact hi)
                      have Ol := HO.out.lt
                      have o1 := Lib.hid (MX ▸ own_set (v := z) HO.out hi)
                      have o2 := Lib.hid (Own.far (o := i) (vs := [.int .u8 z]) HH.out nHO)
                      have o3 := Lib.hid (Own.far (o := i) (vs := [.int .u8 z]) HY.out nYO)
                      have o4 := Lib.hid (Own.far (o := i) (vs := [.int .u8 z]) HR.out nRO)
                      have o5 := Lib.hid (Below.setCells HB.out Ow [.int .u8 z] i)
                      clear ex ex2 vb xb MX nx cn HB HO HH HY HR hk h8 EV2 gb
                      go_wp2_with (fail)
                      go_roundw
                      case rel => (first | exact ⟨i + 1, HI.out, by rw [CN.out], by go_num, o5, o1, o2, o3, o4⟩ | ((repeat apply Exists.intro); exact ⟨⟨i + 1, HI.out, by rw [CN.out], by go_num, o5, o1, o2, o3, o4⟩, rfl⟩))
                      case measure => (have := HI.out; simp [intOf]; omega)
                · have e16 : i = 16 := by omega
                  subst e16
                  rw [mixL_all] at HO
                  have hB0 := HB.out
                  clear hi hlt
                  go_upto_region 38 with fail
                  skip
                  refine wp_region_lit ?_
                  refine wpList_load_mid rfl 29 _ rfl O 0 rfl (nums .u8 (byt (h0 + sN)) 16) _ HO.out.cell Try.underlying29 rfl (by kernel_rfl) ?_
                  refine wpList_store_mid rfl 29 _ _ rfl R 0 (nums .u8 (byt (h0 + sN)) 16).toArray rfl rfl HR.out.free (by kernel_rfl) (nums_all _ _ _) ?_
                  change wpList _ _ _ [] _ (wr.setCells R 0 (nums .u8 (byt (h0 + sN)) 16))
                  have HRn : Hid (Own R (nums .u8 (byt (h0 + sN)) 16) (wr.setCells R 0 (nums .u8 (byt (h0 + sN)) 16))) := Lib.hid (Own.store HR.out (by simp [nums_length]))
                  have HOn : Hid (Own O (nums .u8 (byt (h0 + sN)) 16) (wr.setCells R 0 (nums .u8 (byt (h0 + sN)) 16))) := Lib.hid (Own.far (o := 0) (vs := (nums .u8 (byt (h0 + sN)) 16)) HO.out nOR)
                  have hB0n : Below w.heap.size w (wr.setCells R 0 (nums .u8 (byt (h0 + sN)) 16)) := Below.setCells hB0 Rw (nums .u8 (byt (h0 + sN)) 16) 0
                  clear HR HO hB0
                  generalize (wr.setCells R 0 (nums .u8 (byt (h0 + sN)) 16)) = wz at *
                  have HR := HRn
                  clear HRn
                  have HO := HOn
                  clear HOn
                  have hB0 := hB0n
                  clear hB0n
                  go_wp2_with (fail)
                  have hL := run_loadVar_mid (P := Try.prog) _ R 0 29 (nums .u8 (byt (h0 + sN)) 16) _ HR.out.cell Try.underlying29 rfl (by kernel_rfl)
                  exact bodyPost_ret (v := .agg (nums .u8 (byt (h0 + sN)) 16).toArray) (res_cell Try.results9 rfl hL) rfl ⟨by rw [ET.out], hB0⟩
end Go.Proofs.Ytbofihejegbfhaa
