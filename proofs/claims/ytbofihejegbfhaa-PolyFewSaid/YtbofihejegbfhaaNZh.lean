/- poly.Mac's Add and Sum where nothing was made. -/
import Derived.Test.YtbofihejegbfhaaNZg
import Derived.Lib.Hide
namespace Go.Proofs.Ytbofihejegbfhaa
set_option linter.unusedVariables false
set_option maxRecDepth 2000
set_option linter.unusedSimpArgs false
open Go.RowKit
attribute [local go_sem] nums_length
theorem Add_nil (x : Value) (w : World) : Calls Try.prog 7 #[.pointer none, x] w fun e w' => e = .returned (.tuple #[]) ∧ w' = w := by
  go_enter Try.func7, Try.ntmps7
  go_wp2_with (fail)
  exact bodyPost_ret (results_none rfl _ _ _) rfl ⟨rfl, rfl⟩
theorem Add_none (K : Nat) (x : Value) (w : World) (h : w.cell? ⟨K, 32, none⟩ = some (.bool false)) : Calls Try.prog 7 #[.pointer (some ⟨K, 0, none⟩), x] w fun e w' => e = .returned (.tuple #[]) ∧ w' = w := by
  go_enter Try.func7, Try.ntmps7
  go_wp2_with (fail)
  exact bodyPost_ret (results_none rfl _ _ _) rfl ⟨rfl, rfl⟩
theorem Sum_nil (w : World) : Calls Try.prog 8 #[.pointer none] w fun e w' => e = .returned (.agg (nums .u8 (fun _ => 0) 16).toArray) ∧ Below w.heap.size w w' := by
  go_enter Try.func8, Try.ntmps8
  go_upto_region 1 with fail
  obtain ⟨W0, hW⟩ : ∃ W0, W0 = w.alloc (.cells #[.int .u8 0, .int .u8 0, .int .u8 0, .int .u8 0, .int .u8 0, .int .u8 0, .int .u8 0, .int .u8 0, .int .u8 0, .int .u8 0, .int .u8 0, .int .u8 0, .int .u8 0, .int .u8 0, .int .u8 0, .int .u8 0] 29) := ⟨_, rfl⟩
  have hB0 : Below w.heap.size w W0 := hW ▸ Below.al (Below.refl _ _)
  have HR : Hid (Own w.heap.size (nums .u8 (fun _ => 0) 16) W0) := Lib.hid (hW ▸ Own.newAt (by simp))
  rw [← hW]
  clear hW
  obtain ⟨R, eR⟩ : ∃ X, X = w.heap.size := ⟨_, rfl⟩
  have Rw : w.heap.size ≤ R := by omega
  rw [← eR] at HR ⊢
  clear eR
  have hst := store_nums (P := Try.prog) (n := 16) .u8 (fun _ => 0) HR.out rfl
  have HR1 := Lib.hid (Own.store (vs := nums .u8 (fun _ => 0) 16) HR.out rfl)
  have hB1 := Below.setCells hB0 Rw (nums .u8 (fun _ => 0) 16) 0
  go_upto_region 2 with fail
  refine wp_region_lit ?_
  refine wpList_buildTo rfl 29 _ rfl (some 12) rfl (nums .u8 (fun _ => 0) 16).toArray (by kernel_rfl) ?_
  go_wp2_with (fail)
  have hL := run_loadVar_mid (P := Try.prog) _ R 0 29 (nums .u8 (fun _ => 0) 16) _ HR1.out.cell Try.underlying29 rfl (by kernel_rfl)
  exact bodyPost_ret (v := .agg (nums .u8 (fun _ => 0) 16).toArray) (res_cell Try.results8 rfl hL) rfl ⟨rfl, hB1⟩
theorem Sum_none (K : Nat) (w : World) (KL : K < w.heap.size) (h : w.cell? ⟨K, 32, none⟩ = some (.bool false)) : Calls Try.prog 8 #[.pointer (some ⟨K, 0, none⟩)] w fun e w' => e = .returned (.agg (nums .u8 (fun _ => 0) 16).toArray) ∧ Below w.heap.size w w' := by
  go_enter Try.func8, Try.ntmps8
  go_upto_region 1 with fail
  obtain ⟨W0, hW⟩ : ∃ W0, W0 = w.alloc (.cells #[.int .u8 0, .int .u8 0, .int .u8 0, .int .u8 0, .int .u8 0, .int .u8 0, .int .u8 0, .int .u8 0, .int .u8 0, .int .u8 0, .int .u8 0, .int .u8 0, .int .u8 0, .int .u8 0, .int .u8 0, .int .u8 0] 29) := ⟨_, rfl⟩
  have hB0 : Below w.heap.size w W0 := hW ▸ Below.al (Below.refl _ _)
  have HR : Hid (Own w.heap.size (nums .u8 (fun _ => 0) 16) W0) := Lib.hid (hW ▸ Own.newAt (by simp))
  have x0 : W0.cell? ⟨K, 32, none⟩ = some (.bool false) := (hB0.cell (p := ⟨K, 32, none⟩) KL).trans h
  rw [← hW]
  clear hW
  obtain ⟨R, eR⟩ : ∃ X, X = w.heap.size := ⟨_, rfl⟩
  have Rw : w.heap.size ≤ R := by omega
  rw [← eR] at HR ⊢
  clear eR
  have hst := store_nums (P := Try.prog) (n := 16) .u8 (fun _ => 0) HR.out rfl
  have HR1 := Lib.hid (Own.store (vs := nums .u8 (fun _ => 0) 16) HR.out rfl)
  have hB1 := Below.setCells hB0 Rw (nums .u8 (fun _ => 0) 16) 0
  go_upto_region 2 with fail
  refine wp_region_lit ?_
  refine wpList_buildTo rfl 29 _ rfl (some 12) rfl (nums .u8 (fun _ => 0) 16).toArray (by kernel_rfl) ?_
  go_wp2_with (fail)
  have hL := run_loadVar_mid (P := Try.prog) _ R 0 29 (nums .u8 (fun _ => 0) 16) _ HR1.out.cell Try.underlying29 rfl (by kernel_rfl)
  exact bodyPost_ret (v := .agg (nums .u8 (fun _ => 0) 16).toArray) (res_cell Try.results8 rfl hL) rfl ⟨rfl, hB1⟩
end Go.Proofs.Ytbofihejegbfhaa
