/- aead.Key, of both. -/
import Derived.Test.YtjkeaiihjbcfgaaDoorYCU
import Derived.Test.YtjkeaiihjbcfgaaDoorYCR
import Derived.Test.YtjkeaiihjbcfgaaDoorYCK
import Derived.Test.YtjkeaiihjbcfgaaDoorYQL
import Derived.Lib.Hide
import Derived.Deep.Onto
import Derived.LoopN
import Derived.LoopTactic
namespace Go.Proofs.YtjkeaiihjbcfgaaDoor
set_option linter.unusedVariables false
set_option maxRecDepth 2000
set_option linter.unusedSimpArgs false
open Go.RowKit
attribute [local go_sem] nums_length st64

set_option maxHeartbeats 4000000 in
theorem Key_any (kf nf : Nat → Int) (hk : ∀ i, i < 32 → inB (kf i)) (hn : ∀ i, i < 12 → inB (nf i)) (w : World) (hg : Has 0 0 GL w) :
    Calls Tryd.prog 10 #[(.agg (nums .u8 kf 32).toArray), (.agg (nums .u8 nf 12).toArray)] w fun e w' => e = .returned (.agg (nums .u8 (blkF kf 0 nf) 32).toArray) ∧ Below w.heap.size w w' := by
  have FK := Lib.hid hk; have FN := Lib.hid hn; have HG := Lib.hid hg
  clear hk hn hg
  go_enter Tryd.func10, Tryd.ntmps10
  go_upto_region 1 with fail
  obtain ⟨W0, hW⟩ : ∃ W0, W0 = (((w.alloc (.cells (nums .u8 kf 32).toArray 22)).alloc (.cells (nums .u8 nf 12).toArray 23)).alloc (.cells #[.int .u8 0, .int .u8 0, .int .u8 0, .int .u8 0, .int .u8 0, .int .u8 0, .int .u8 0, .int .u8 0, .int .u8 0, .int .u8 0, .int .u8 0, .int .u8 0, .int .u8 0, .int .u8 0, .int .u8 0, .int .u8 0, .int .u8 0, .int .u8 0, .int .u8 0, .int .u8 0, .int .u8 0, .int .u8 0, .int .u8 0, .int .u8 0, .int .u8 0, .int .u8 0, .int .u8 0, .int .u8 0, .int .u8 0, .int .u8 0, .int .u8 0, .int .u8 0] 22)) := ⟨_, rfl⟩
  have hB0 : Below w.heap.size w W0 := hW ▸ (Below.al (Below.al (Below.al (Below.refl _ _))))
  have HY : Hid (Own w.heap.size (nums .u8 kf 32) W0) := Lib.hid (hW ▸ (show Own w.heap.size (nums .u8 kf 32) (w.alloc (.cells (nums .u8 kf 32).toArray 22)) from Own.newAt (by simp)).alloc.alloc)
  have HM : Hid (Own (w.heap.size + 1) (nums .u8 nf 12) W0) := Lib.hid (hW ▸ (show Own (w.heap.size + 1) (nums .u8 nf 12) ((w.alloc (.cells (nums .u8 kf 32).toArray 22)).alloc (.cells (nums .u8 nf 12).toArray 23)) from Own.newAt (by simp)).alloc)
  have HR : Hid (Own ((w.heap.size + 1) + 1) (nums .u8 (fun _ => 0) 32) W0) := Lib.hid (hW ▸ (show Own ((w.heap.size + 1) + 1) (nums .u8 (fun _ => 0) 32) (((w.alloc (.cells (nums .u8 kf 32).toArray 22)).alloc (.cells (nums .u8 nf 12).toArray 23)).alloc (.cells #[.int .u8 0, .int .u8 0, .int .u8 0, .int .u8 0, .int .u8 0, .int .u8 0, .int .u8 0, .int .u8 0, .int .u8 0, .int .u8 0, .int .u8 0, .int .u8 0, .int .u8 0, .int .u8 0, .int .u8 0, .int .u8 0, .int .u8 0, .int .u8 0, .int .u8 0, .int .u8 0, .int .u8 0, .int .u8 0, .int .u8 0, .int .u8 0, .int .u8 0, .int .u8 0, .int .u8 0, .int .u8 0, .int .u8 0, .int .u8 0, .int .u8 0, .int .u8 0] 22)) from Own.newAt (by simp)))
  rw [← hW]
  clear hW
  obtain ⟨R, eR⟩ : ∃ X, X = ((w.heap.size + 1) + 1) := ⟨_, rfl⟩
  rw [← eR] at HR ⊢
  have Rw : w.heap.size ≤ R := by omega
  obtain ⟨M, eM⟩ : ∃ X, X = (w.heap.size + 1) := ⟨_, rfl⟩
  rw [← eM] at HM ⊢
  have Mw : w.heap.size ≤ M := by omega
  obtain ⟨Y, eY⟩ : ∃ X, X = w.heap.size := ⟨_, rfl⟩
  rw [← eY] at HY ⊢
  have Yw : w.heap.size ≤ Y := by omega
  have nYM : Y ≠ M := by omega
  have nMY : M ≠ Y := by omega
  have nYR : Y ≠ R := by omega
  have nRY : R ≠ Y := by omega
  have nMR : M ≠ R := by omega
  have nRM : R ≠ M := by omega
  clear eY eM eR
  have HG1 := Lib.hid (HG.out.later hB0)
  refine wp_region_lit ?_
  refine wpList_load_mid rfl 22 _ rfl Y 0 rfl (nums .u8 kf 32) _ HY.out.cell Tryd.underlying22 rfl (by kernel_rfl) ?_
  refine wpList_load_mid rfl 23 _ rfl M 0 rfl (nums .u8 nf 12) _ HM.out.cell Tryd.underlying23 rfl (by kernel_rfl) ?_
  go_wp2_with (fail)
  go_at_call 20
  refine (Block_any kf nf 0 FK.out FN.out (by unfold in32; decide) _ HG1.out).mono ?_
  rintro e w1 ⟨rfl, hb⟩
  have HRk := Lib.hid (HR.out.later hb)
  clear HR
  have HR := HRk
  clear HRk
  have hB1 := Below.go hB0 hb
  clear hB0 hb HY HM HG HG1
  have hB0 := hB1
  clear hB1
  go_upto_region 2 with fail
  obtain ⟨w2, hW⟩ : ∃ w2, w2 = (w1.alloc (.cells (nums .u8 (blkF kf 0 nf) 64).toArray 40)) := ⟨_, rfl⟩
  have hBx : Below w1.heap.size w1 w2 := hW ▸ (Below.al (Below.refl _ _))
  have HB : Hid (Own w1.heap.size (nums .u8 (blkF kf 0 nf) 64) w2) := Lib.hid (hW ▸ (show Own w1.heap.size (nums .u8 (blkF kf 0 nf) 64) (w1.alloc (.cells (nums .u8 (blkF kf 0 nf) 64).toArray 40)) from Own.newAt (by simp)))
  rw [← hW]
  clear hW
  obtain ⟨B, eB⟩ : ∃ X, X = w1.heap.size := ⟨_, rfl⟩
  rw [← eB] at HB ⊢
  have Bw : w1.heap.size ≤ B := by omega
  clear eB
  have nBR : B ≠ R := by have := HR.out.lt; omega
  have nRB : R ≠ B := Ne.symm nBR
  have Bw2 : w.heap.size ≤ B := by have := hB0.size; omega
  clear Bw
  have Bw := Bw2
  clear Bw2
  have HRk := Lib.hid (HR.out.later hBx)
  clear HR
  have HR := HRk
  clear HRk
  have hB0n := Below.go hB0 hBx
  clear hB0 hBx
  have hB0 := hB0n
  clear hB0n
  refine wp_region_lit ?_
  refine wpList_val rfl (.slice (some ⟨B, 0, none⟩) 32 64) (by kernel_rfl) ?_
  refine wpList_val rfl (.pointer (some ⟨B, 0, none⟩)) (by kernel_rfl) ?_
  refine wpList_load_mid rfl 22 _ rfl B 0 rfl (nums .u8 (blkF kf 0 nf) 32) _ (has_take HB.out.has (by decide)).cell Tryd.underlying22 rfl (by kernel_rfl) ?_
  refine wpList_store_mid rfl 22 _ _ rfl R 0 (nums .u8 (blkF kf 0 nf) 32).toArray rfl rfl HR.out.free (by kernel_rfl) (nums_all _ _ _) ?_
  change wpList _ _ _ [] _ (w2.setCells R 0 (nums .u8 (blkF kf 0 nf) 32))
  have HRn : Hid (Own R (nums .u8 (blkF kf 0 nf) 32) (w2.setCells R 0 (nums .u8 (blkF kf 0 nf) 32))) := Lib.hid (Own.store HR.out (by simp [nums_length]))
  have hB0n : Below w.heap.size w (w2.setCells R 0 (nums .u8 (blkF kf 0 nf) 32)) := Below.setCells hB0 Rw (nums .u8 (blkF kf 0 nf) 32) 0
  clear HR hB0
  generalize (w2.setCells R 0 (nums .u8 (blkF kf 0 nf) 32)) = wz at *
  have HR := HRn
  clear HRn
  have hB0 := hB0n
  clear hB0n
  go_wp2_with (fail)
  have hL := run_loadVar_mid (P := Tryd.prog) _ R 0 22 (nums .u8 (blkF kf 0 nf) 32) _ HR.out.cell Tryd.underlying22 rfl (by kernel_rfl)
  exact bodyPost_ret (v := .agg (nums .u8 (blkF kf 0 nf) 32).toArray) (res_cell Tryd.results10 rfl hL) rfl ⟨rfl, hB0⟩

set_option maxHeartbeats 4000000 in
theorem RKey_any (kf nf : Nat → Int) (hk : ∀ i, i < 32 → inB (kf i)) (hn : ∀ i, i < 12 → inB (nf i)) (w : World) :
    Calls Tryd.prog 11 #[(.agg (nums .u8 kf 32).toArray), (.agg (nums .u8 nf 12).toArray)] w fun e w' => e = .returned (.agg (nums .u8 (blkF kf 0 nf) 32).toArray) ∧ Below w.heap.size w w' := by
  have FK := Lib.hid hk; have FN := Lib.hid hn
  clear hk hn
  go_enter Tryd.func11, Tryd.ntmps11
  go_upto_region 1 with fail
  obtain ⟨W0, hW⟩ : ∃ W0, W0 = (((w.alloc (.cells (nums .u8 kf 32).toArray 22)).alloc (.cells (nums .u8 nf 12).toArray 23)).alloc (.cells #[.int .u8 0, .int .u8 0, .int .u8 0, .int .u8 0, .int .u8 0, .int .u8 0, .int .u8 0, .int .u8 0, .int .u8 0, .int .u8 0, .int .u8 0, .int .u8 0, .int .u8 0, .int .u8 0, .int .u8 0, .int .u8 0, .int .u8 0, .int .u8 0, .int .u8 0, .int .u8 0, .int .u8 0, .int .u8 0, .int .u8 0, .int .u8 0, .int .u8 0, .int .u8 0, .int .u8 0, .int .u8 0, .int .u8 0, .int .u8 0, .int .u8 0, .int .u8 0] 22)) := ⟨_, rfl⟩
  have hB0 : Below w.heap.size w W0 := hW ▸ (Below.al (Below.al (Below.al (Below.refl _ _))))
  have HY : Hid (Own w.heap.size (nums .u8 kf 32) W0) := Lib.hid (hW ▸ (show Own w.heap.size (nums .u8 kf 32) (w.alloc (.cells (nums .u8 kf 32).toArray 22)) from Own.newAt (by simp)).alloc.alloc)
  have HM : Hid (Own (w.heap.size + 1) (nums .u8 nf 12) W0) := Lib.hid (hW ▸ (show Own (w.heap.size + 1) (nums .u8 nf 12) ((w.alloc (.cells (nums .u8 kf 32).toArray 22)).alloc (.cells (nums .u8 nf 12).toArray 23)) from Own.newAt (by simp)).alloc)
  have HR : Hid (Own ((w.heap.size + 1) + 1) (nums .u8 (fun _ => 0) 32) W0) := Lib.hid (hW ▸ (show Own ((w.heap.size + 1) + 1) (nums .u8 (fun _ => 0) 32) (((w.alloc (.cells (nums .u8 kf 32).toArray 22)).alloc (.cells (nums .u8 nf 12).toArray 23)).alloc (.cells #[.int .u8 0, .int .u8 0, .int .u8 0, .int .u8 0, .int .u8 0, .int .u8 0, .int .u8 0, .int .u8 0, .int .u8 0, .int .u8 0, .int .u8 0, .int .u8 0, .int .u8 0, .int .u8 0, .int .u8 0, .int .u8 0, .int .u8 0, .int .u8 0, .int .u8 0, .int .u8 0, .int .u8 0, .int .u8 0, .int .u8 0, .int .u8 0, .int .u8 0, .int .u8 0, .int .u8 0, .int .u8 0, .int .u8 0, .int .u8 0, .int .u8 0, .int .u8 0] 22)) from Own.newAt (by simp)))
  rw [← hW]
  clear hW
  obtain ⟨R, eR⟩ : ∃ X, X = ((w.heap.size + 1) + 1) := ⟨_, rfl⟩
  rw [← eR] at HR ⊢
  have Rw : w.heap.size ≤ R := by omega
  obtain ⟨M, eM⟩ : ∃ X, X = (w.heap.size + 1) := ⟨_, rfl⟩
  rw [← eM] at HM ⊢
  have Mw : w.heap.size ≤ M := by omega
  obtain ⟨Y, eY⟩ : ∃ X, X = w.heap.size := ⟨_, rfl⟩
  rw [← eY] at HY ⊢
  have Yw : w.heap.size ≤ Y := by omega
  have nYM : Y ≠ M := by omega
  have nMY : M ≠ Y := by omega
  have nYR : Y ≠ R := by omega
  have nRY : R ≠ Y := by omega
  have nMR : M ≠ R := by omega
  have nRM : R ≠ M := by omega
  clear eY eM eR
  refine wp_region_lit ?_
  refine wpList_load_mid rfl 22 _ rfl Y 0 rfl (nums .u8 kf 32) _ HY.out.cell Tryd.underlying22 rfl (by kernel_rfl) ?_
  refine wpList_load_mid rfl 23 _ rfl M 0 rfl (nums .u8 nf 12) _ HM.out.cell Tryd.underlying23 rfl (by kernel_rfl) ?_
  go_wp2_with (fail)
  go_at_call 23
  refine (RBlock_any kf nf 0 FK.out FN.out (by unfold in32; decide) _).mono ?_
  rintro e w1 ⟨rfl, hb⟩
  have HRk := Lib.hid (HR.out.later hb)
  clear HR
  have HR := HRk
  clear HRk
  have hB1 := Below.go hB0 hb
  clear hB0 hb HY HM
  have hB0 := hB1
  clear hB1
  go_upto_region 3 with fail
  obtain ⟨w2, hW⟩ : ∃ w2, w2 = ((w1.alloc (.cells (nums .u8 (blkF kf 0 nf) 64).toArray 40)).alloc (.cells #[.int .u8 0, .int .u8 0, .int .u8 0, .int .u8 0, .int .u8 0, .int .u8 0, .int .u8 0, .int .u8 0, .int .u8 0, .int .u8 0, .int .u8 0, .int .u8 0, .int .u8 0, .int .u8 0, .int .u8 0, .int .u8 0, .int .u8 0, .int .u8 0, .int .u8 0, .int .u8 0, .int .u8 0, .int .u8 0, .int .u8 0, .int .u8 0, .int .u8 0, .int .u8 0, .int .u8 0, .int .u8 0, .int .u8 0, .int .u8 0, .int .u8 0, .int .u8 0] 22)) := ⟨_, rfl⟩
  have hBx : Below w1.heap.size w1 w2 := hW ▸ (Below.al (Below.al (Below.refl _ _)))
  have HB : Hid (Own w1.heap.size (nums .u8 (blkF kf 0 nf) 64) w2) := Lib.hid (hW ▸ (show Own w1.heap.size (nums .u8 (blkF kf 0 nf) 64) (w1.alloc (.cells (nums .u8 (blkF kf 0 nf) 64).toArray 40)) from Own.newAt (by simp)).alloc)
  have HK : Hid (Own (w1.heap.size + 1) (nums .u8 (fun _ => 0) 32) w2) := Lib.hid (hW ▸ (show Own (w1.heap.size + 1) (nums .u8 (fun _ => 0) 32) ((w1.alloc (.cells (nums .u8 (blkF kf 0 nf) 64).toArray 40)).alloc (.cells #[.int .u8 0, .int .u8 0, .int .u8 0, .int .u8 0, .int .u8 0, .int .u8 0, .int .u8 0, .int .u8 0, .int .u8 0, .int .u8 0, .int .u8 0, .int .u8 0, .int .u8 0, .int .u8 0, .int .u8 0, .int .u8 0, .int .u8 0, .int .u8 0, .int .u8 0, .int .u8 0, .int .u8 0, .int .u8 0, .int .u8 0, .int .u8 0, .int .u8 0, .int .u8 0, .int .u8 0, .int .u8 0, .int .u8 0, .int .u8 0, .int .u8 0, .int .u8 0] 22)) from Own.newAt (by simp)))
  rw [← hW]
  clear hW
  obtain ⟨K, eK⟩ : ∃ X, X = (w1.heap.size + 1) := ⟨_, rfl⟩
  rw [← eK] at HK ⊢
  have Kw : w1.heap.size ≤ K := by omega
  obtain ⟨B, eB⟩ : ∃ X, X = w1.heap.size := ⟨_, rfl⟩
  rw [← eB] at HB ⊢
  have Bw : w1.heap.size ≤ B := by omega
  have nBK : B ≠ K := by omega
  have nKB : K ≠ B := by omega
  clear eB eK
  have nBR : B ≠ R := by have := HR.out.lt; omega
  have nRB : R ≠ B := Ne.symm nBR
  have Bw2 : w.heap.size ≤ B := by have := hB0.size; omega
  clear Bw
  have Bw := Bw2
  clear Bw2
  have nKR : K ≠ R := by have := HR.out.lt; omega
  have nRK : R ≠ K := Ne.symm nKR
  have Kw2 : w.heap.size ≤ K := by have := hB0.size; omega
  clear Kw
  have Kw := Kw2
  clear Kw2
  have HRk := Lib.hid (HR.out.later hBx)
  clear HR
  have HR := HRk
  clear HRk
  have hB0n := Below.go hB0 hBx
  clear hB0 hBx
  have hB0 := hB0n
  clear hB0n
  have hin : Hid (∀ i, inB (blkF kf 0 nf i)) := Lib.hid (in_blkF kf 0 nf)
  go_wp2_with (fail)
  go_loopw [7] (fun iv wr => ∃ (i : Nat), i ≤ 32 ∧ iv = .int .i64 i ∧ Hid (Below w.heap.size w wr) ∧ Hid (Own B (nums .u8 (blkF kf 0 nf) 64) wr) ∧ Hid (Own K (nums .u8 (upto (blkF kf 0 nf) i) 32) wr) ∧ Hid (Own R (nums .u8 (fun _ => 0) 32) wr)) (fun iv _ => (32 - (intOf iv).toNat))
  case atStart => exact ⟨0, by omega, rfl, Lib.hid hB0, HB, Lib.hid HK.out, HR⟩
  case round =>
    clear HB HK HR hB0
    obtain ⟨i, hi, rfl, HW, HB, HK, HR⟩ := hrel
    by_cases hlt : i < 32
    · have y0 := HB.out.at i _ (nums_at _ _ (show i < 64 by omega))
      have xf := HK.out.ok i (by rw [nums_length]; exact hlt)
      have x0 := HK.out.at i _ (nums_at _ _ hlt)
      have Kl := HK.out.lt
      have Bl := HB.out.lt
      obtain ⟨z, ez⟩ : ∃ z, blkF kf 0 nf i = z := ⟨_, rfl⟩
      have ME := Lib.hid (upto_step .u8 (blkF kf 0 nf) i 32 z ez.symm)
      rw [ez] at y0
      have i0 : (0 : Int) ≤ (i : Int) := by omega
      have i1 : (i : Int) < 32 := by omega
      have i2 : (i : Int) < 64 := by omega
      have wi : IntKind.i64.wrap ((i : Int) + 1) = (i : Int) + 1 := IntWalk.i64_in _ (by omega)
      have o1 := Lib.hid (ME.out ▸ own_set (v := z) HK.out hlt)
      have o2 := Lib.hid (Own.far (c := K) (o := i) (vs := [.int .u8 z]) HB.out nBK)
      have o3 := Lib.hid (Own.far (c := K) (o := i) (vs := [.int .u8 z]) HR.out nRK)
      have o4 := Lib.hid (Below.setCells HW.out Kw [.int .u8 z] i)
      clear ez ME HB HK HR HW
      go_wp2_with (fail)
      go_roundw
      case rel => (first | exact ⟨i + 1, by omega, by go_num, o4, o2, o1, o3⟩ | ((repeat apply Exists.intro); exact ⟨⟨i + 1, by omega, by go_num, o4, o2, o1, o3⟩, rfl⟩))
      case measure => simp [intOf]; omega
    · have e4 : i = 32 := by omega
      subst e4
      rw [upto_all] at HK
      go_upto_region 7 with fail
      have hB0 := HW.out
      refine wp_region_lit ?_
      refine wpList_load_mid rfl 22 _ rfl K 0 rfl (nums .u8 (blkF kf 0 nf) 32) _ HK.out.cell Tryd.underlying22 rfl (by kernel_rfl) ?_
      refine wpList_store_mid rfl 22 _ _ rfl R 0 (nums .u8 (blkF kf 0 nf) 32).toArray rfl rfl HR.out.free (by kernel_rfl) (nums_all _ _ _) ?_
      change wpList _ _ _ [] _ (wr.setCells R 0 (nums .u8 (blkF kf 0 nf) 32))
      have HRn : Hid (Own R (nums .u8 (blkF kf 0 nf) 32) (wr.setCells R 0 (nums .u8 (blkF kf 0 nf) 32))) := Lib.hid (Own.store HR.out (by simp [nums_length]))
      have HKn : Hid (Own K (nums .u8 (blkF kf 0 nf) 32) (wr.setCells R 0 (nums .u8 (blkF kf 0 nf) 32))) := Lib.hid (Own.far (o := 0) (vs := (nums .u8 (blkF kf 0 nf) 32)) HK.out nKR)
      have hB0n : Below w.heap.size w (wr.setCells R 0 (nums .u8 (blkF kf 0 nf) 32)) := Below.setCells hB0 Rw (nums .u8 (blkF kf 0 nf) 32) 0
      clear HR HK hB0
      generalize (wr.setCells R 0 (nums .u8 (blkF kf 0 nf) 32)) = wz at *
      have HR := HRn
      clear HRn
      have HK := HKn
      clear HKn
      have hB0 := hB0n
      clear hB0n
      go_wp2_with (fail)
      have hL := run_loadVar_mid (P := Tryd.prog) _ R 0 22 (nums .u8 (blkF kf 0 nf) 32) _ HR.out.cell Tryd.underlying22 rfl (by kernel_rfl)
      exact bodyPost_ret (v := .agg (nums .u8 (blkF kf 0 nf) 32).toArray) (res_cell Tryd.results11 rfl hL) rfl ⟨rfl, hB0⟩
end Go.Proofs.YtjkeaiihjbcfgaaDoor
