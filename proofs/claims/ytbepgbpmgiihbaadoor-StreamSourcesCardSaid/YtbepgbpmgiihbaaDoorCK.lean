/- The document's Block. -/
import Derived.Test.YtbepgbpmgiihbaaDoorCJ
import Derived.LoopN
import Derived.LoopTactic
import Derived.Deep.WholeRow
import Derived.Deep.RegionHeld3
namespace Go.Proofs.YtbepgbpmgiihbaaDoor
set_option linter.unusedVariables false
set_option maxRecDepth 2000
set_option linter.unusedSimpArgs false
open Go.RowKit
attribute [local go_sem] nums_length st16 st64
theorem quarter_part (g : Nat → Int) (hg : inS g) (j : Nat) (hj : j < 8) (a0 a1 a2 a3 : Nat) (e0 : grp 0 j = a0) (e1 : grp 1 j = a1) (e2 : grp 2 j = a2) (e3 : grp 3 j = a3) (w : World) :
    Calls Tryd.prog 24 #[.agg (nums .u32 (partR g j) 16).toArray, .int .i64 (a0 : Nat), .int .i64 (a1 : Nat), .int .i64 (a2 : Nat), .int .i64 (a3 : Nat)] w fun e w' => e = .returned (.agg (nums .u32 (partR g (j + 1)) 16).toArray) ∧ Below w.heap.size w w' := by
  subst e0 e1 e2 e3
  have d : grp 0 j ≠ grp 1 j ∧ grp 0 j ≠ grp 2 j ∧ grp 0 j ≠ grp 3 j ∧ grp 1 j ≠ grp 2 j ∧ grp 1 j ≠ grp 3 j ∧ grp 2 j ≠ grp 3 j := by
    unfold grp
    omega
  exact quarter_any (partR g j) (in_partR hg j) _ _ _ _ (grp_lt 0 j (by omega)) (grp_lt 1 j (by omega)) (grp_lt 2 j (by omega)) (grp_lt 3 j (by omega)) d.1 d.2.1 d.2.2.1 d.2.2.2.1 d.2.2.2.2.1 d.2.2.2.2.2 w

set_option maxHeartbeats 8000000 in
theorem RBlock_any (kf nf : Nat → Int) (c : Int) (hk : ∀ i, i < 32 → inB (kf i)) (hn : ∀ i, i < 12 → inB (nf i)) (hc : in32 c) (w : World) :
    Calls Tryd.prog 13 #[(.agg (nums .u8 kf 32).toArray), .int .u32 c, (.agg (nums .u8 nf 12).toArray)] w fun e w' => e = .returned (.agg (nums .u8 (blkF kf c nf) 64).toArray) ∧ Below w.heap.size w w' := by
  have FK := Lib.hid hk; have FN := Lib.hid hn; have IS := Lib.hid (in_stF hk hn hc)
  clear hk hn hc
  go_enter Tryd.func13, Tryd.ntmps13
  go_upto_region 1 with fail
  obtain ⟨W0, hW⟩ : ∃ W0, W0 = (((w.alloc (.cells (nums .u8 kf 32).toArray 44)).alloc (.cells (nums .u8 nf 12).toArray 47)).alloc (.cells #[.int .u8 0, .int .u8 0, .int .u8 0, .int .u8 0, .int .u8 0, .int .u8 0, .int .u8 0, .int .u8 0, .int .u8 0, .int .u8 0, .int .u8 0, .int .u8 0, .int .u8 0, .int .u8 0, .int .u8 0, .int .u8 0, .int .u8 0, .int .u8 0, .int .u8 0, .int .u8 0, .int .u8 0, .int .u8 0, .int .u8 0, .int .u8 0, .int .u8 0, .int .u8 0, .int .u8 0, .int .u8 0, .int .u8 0, .int .u8 0, .int .u8 0, .int .u8 0, .int .u8 0, .int .u8 0, .int .u8 0, .int .u8 0, .int .u8 0, .int .u8 0, .int .u8 0, .int .u8 0, .int .u8 0, .int .u8 0, .int .u8 0, .int .u8 0, .int .u8 0, .int .u8 0, .int .u8 0, .int .u8 0, .int .u8 0, .int .u8 0, .int .u8 0, .int .u8 0, .int .u8 0, .int .u8 0, .int .u8 0, .int .u8 0, .int .u8 0, .int .u8 0, .int .u8 0, .int .u8 0, .int .u8 0, .int .u8 0, .int .u8 0, .int .u8 0] 35)) := ⟨_, rfl⟩
  have hB0 : Below w.heap.size w W0 := hW ▸ (Below.al (Below.al (Below.al (Below.refl _ _))))
  have HK : Hid (Own w.heap.size (nums .u8 kf 32) W0) := Lib.hid (hW ▸ (show Own w.heap.size (nums .u8 kf 32) (w.alloc (.cells (nums .u8 kf 32).toArray 44)) from Own.newAt (by simp)).alloc.alloc)
  have HM : Hid (Own (w.heap.size + 1) (nums .u8 nf 12) W0) := Lib.hid (hW ▸ (show Own (w.heap.size + 1) (nums .u8 nf 12) ((w.alloc (.cells (nums .u8 kf 32).toArray 44)).alloc (.cells (nums .u8 nf 12).toArray 47)) from Own.newAt (by simp)).alloc)
  have HR : Hid (Own ((w.heap.size + 1) + 1) (nums .u8 (fun _ => 0) 64) W0) := Lib.hid (hW ▸ (show Own ((w.heap.size + 1) + 1) (nums .u8 (fun _ => 0) 64) (((w.alloc (.cells (nums .u8 kf 32).toArray 44)).alloc (.cells (nums .u8 nf 12).toArray 47)).alloc (.cells #[.int .u8 0, .int .u8 0, .int .u8 0, .int .u8 0, .int .u8 0, .int .u8 0, .int .u8 0, .int .u8 0, .int .u8 0, .int .u8 0, .int .u8 0, .int .u8 0, .int .u8 0, .int .u8 0, .int .u8 0, .int .u8 0, .int .u8 0, .int .u8 0, .int .u8 0, .int .u8 0, .int .u8 0, .int .u8 0, .int .u8 0, .int .u8 0, .int .u8 0, .int .u8 0, .int .u8 0, .int .u8 0, .int .u8 0, .int .u8 0, .int .u8 0, .int .u8 0, .int .u8 0, .int .u8 0, .int .u8 0, .int .u8 0, .int .u8 0, .int .u8 0, .int .u8 0, .int .u8 0, .int .u8 0, .int .u8 0, .int .u8 0, .int .u8 0, .int .u8 0, .int .u8 0, .int .u8 0, .int .u8 0, .int .u8 0, .int .u8 0, .int .u8 0, .int .u8 0, .int .u8 0, .int .u8 0, .int .u8 0, .int .u8 0, .int .u8 0, .int .u8 0, .int .u8 0, .int .u8 0, .int .u8 0, .int .u8 0, .int .u8 0, .int .u8 0] 35)) from Own.newAt (by simp)))
  rw [← hW]
  clear hW
  obtain ⟨R, eR⟩ : ∃ X, X = ((w.heap.size + 1) + 1) := ⟨_, rfl⟩
  rw [← eR] at HR ⊢
  have Rw : w.heap.size ≤ R := by omega
  obtain ⟨M, eM⟩ : ∃ X, X = (w.heap.size + 1) := ⟨_, rfl⟩
  rw [← eM] at HM ⊢
  have Mw : w.heap.size ≤ M := by omega
  obtain ⟨K, eK⟩ : ∃ X, X = w.heap.size := ⟨_, rfl⟩
  rw [← eK] at HK ⊢
  have Kw : w.heap.size ≤ K := by omega
  have nKM : K ≠ M := by omega
  have nMK : M ≠ K := by omega
  have nKR : K ≠ R := by omega
  have nRK : R ≠ K := by omega
  have nMR : M ≠ R := by omega
  have nRM : R ≠ M := by omega
  clear eK eM eR
  refine wp_region_lit ?_
  refine wpList_load_mid rfl 44 _ rfl K 0 rfl (nums .u8 kf 32) _ HK.out.cell Tryd.underlying44 rfl (by kernel_rfl) ?_
  refine wpList_move rfl _ rfl ?_
  refine wpList_load_mid rfl 47 _ rfl M 0 rfl (nums .u8 nf 12) _ HM.out.cell Tryd.underlying47 rfl (by kernel_rfl) ?_
  go_wp2_with (fail)
  go_at_call 23
  refine (RState_any kf nf c FK.out FN.out _).mono ?_
  rintro e w1 ⟨rfl, hb⟩
  go_upto_region 2 with fail
  have HKk := Lib.hid (HK.out.later hb)
  have HMk := Lib.hid (HM.out.later hb)
  have HRk := Lib.hid (HR.out.later hb)
  clear HK HM HR
  have HK := HKk
  clear HKk
  have HM := HMk
  clear HMk
  have HR := HRk
  clear HRk
  have hB1 := Below.go hB0 hb
  clear hB0 hb
  have hB0 := hB1
  clear hB1
  obtain ⟨W1, hW⟩ : ∃ W1, W1 = (w1.alloc (.cells (nums .u32 (stF kf c nf) 16).toArray 56)) := ⟨_, rfl⟩
  have hBx : Below w1.heap.size w1 W1 := hW ▸ (Below.al (Below.refl _ _))
  have HS : Hid (Own w1.heap.size (nums .u32 (stF kf c nf) 16) W1) := Lib.hid (hW ▸ (show Own w1.heap.size (nums .u32 (stF kf c nf) 16) (w1.alloc (.cells (nums .u32 (stF kf c nf) 16).toArray 56)) from Own.newAt (by simp)))
  rw [← hW]
  clear hW
  obtain ⟨S, eS⟩ : ∃ X, X = w1.heap.size := ⟨_, rfl⟩
  rw [← eS] at HS ⊢
  have Sw : w1.heap.size ≤ S := by omega
  clear eS
  have nSK : S ≠ K := by have := HK.out.lt; omega
  have nKS : K ≠ S := Ne.symm nSK
  have nSM : S ≠ M := by have := HM.out.lt; omega
  have nMS : M ≠ S := Ne.symm nSM
  have nSR : S ≠ R := by have := HR.out.lt; omega
  have nRS : R ≠ S := Ne.symm nSR
  have Sw2 : w.heap.size ≤ S := by have := hB0.size; omega
  clear Sw
  have Sw := Sw2
  clear Sw2
  have HKk := Lib.hid (HK.out.later hBx)
  have HMk := Lib.hid (HM.out.later hBx)
  have HRk := Lib.hid (HR.out.later hBx)
  clear HK HM HR
  have HK := HKk
  clear HKk
  have HM := HMk
  clear HMk
  have HR := HRk
  clear HRk
  have hB0n := Below.go hB0 hBx
  clear hB0 hBx
  have hB0 := hB0n
  clear hB0n
  go_wp2_with (fail)
  go_loopw [8] (fun i wr => ∃ (k : Nat), k ≤ 10 ∧ i = .int .i64 k ∧ Hid (Below w.heap.size w wr) ∧ Hid (Own S (nums .u32 (iterR (stF kf c nf) k) 16) wr) ∧ Hid (Own K (nums .u8 kf 32) wr) ∧ Hid (Own M (nums .u8 nf 12) wr) ∧ Hid (Own R (nums .u8 (fun _ => 0) 64) wr)) (fun i _ => (10 - (intOf i).toNat))
  case atStart => exact ⟨0, by omega, rfl, Lib.hid hB0, HS, HK, HM, HR⟩
  case round =>
    clear HS HK HM HR hB0
    obtain ⟨k, hk, rfl, HB, HS, HK, HM, HR⟩ := hrel
    by_cases hlt : k < 10
    · have hI := Lib.hid (in_iterR IS.out k)
      have hN := Lib.hid (show partR (iterR (stF kf c nf) k) 8 = iterR (stF kf c nf) (k + 1) from rfl)
      rw [show iterR (stF kf c nf) k = partR (iterR (stF kf c nf) k) 0 from rfl] at HS
      obtain ⟨nx, hnx⟩ : ∃ z, iterR (stF kf c nf) (k + 1) = z := ⟨_, rfl⟩
      rw [hnx] at hN
      replace hnx := Lib.hid hnx
      generalize iterR (stF kf c nf) k = f at *
      have hB0 := HB.out
      clear HB
      go_wp2_with (fail)
      refine wp_loop_rounds 5 ?_
      rw [rounds_succ]
      go_upto_region 8 with fail
      refine wp_region_lit ?_
      refine wpList_load_mid rfl 56 _ rfl S 0 rfl (nums .u32 (partR f 0) 16) _ HS.out.cell Tryd.underlying56 rfl (by kernel_rfl) ?_
      go_wp2_with (fail)
      go_at_call 24
      refine (quarter_part f hI.out 0 (by decide) 0 4 8 12 rfl rfl rfl rfl _).mono ?_
      rintro e r0 ⟨rfl, hb⟩
      have HSk := Lib.hid (HS.out.later hb)
      have HKk := Lib.hid (HK.out.later hb)
      have HMk := Lib.hid (HM.out.later hb)
      have HRk := Lib.hid (HR.out.later hb)
      clear HS HK HM HR
      have HS := HSk
      clear HSk
      have HK := HKk
      clear HKk
      have HM := HMk
      clear HMk
      have HR := HRk
      clear HRk
      have hB1 := Below.go hB0 hb
      clear hB0 hb
      have hB0 := hB1
      clear hB1
      have hst := store_nums (P := Tryd.prog) .u32 (partR f 1) HS.out (nums_length _ _ _)
      go_wp2_with (fail)
      clear hst
      have HSn : Hid (Own S (nums .u32 (partR f 1) 16) (r0.setCells S 0 (nums .u32 (partR f 1) 16))) := Lib.hid (own_store HS.out)
      have HKn : Hid (Own K (nums .u8 kf 32) (r0.setCells S 0 (nums .u32 (partR f 1) 16))) := Lib.hid (Own.far (o := 0) (vs := (nums .u32 (partR f 1) 16)) HK.out nKS)
      have HMn : Hid (Own M (nums .u8 nf 12) (r0.setCells S 0 (nums .u32 (partR f 1) 16))) := Lib.hid (Own.far (o := 0) (vs := (nums .u32 (partR f 1) 16)) HM.out nMS)
      have HRn : Hid (Own R (nums .u8 (fun _ => 0) 64) (r0.setCells S 0 (nums .u32 (partR f 1) 16))) := Lib.hid (Own.far (o := 0) (vs := (nums .u32 (partR f 1) 16)) HR.out nRS)
      have hB0n : Below w.heap.size w (r0.setCells S 0 (nums .u32 (partR f 1) 16)) := Below.setCells hB0 Sw (nums .u32 (partR f 1) 16) 0
      clear HS HK HM HR hB0
      generalize (r0.setCells S 0 (nums .u32 (partR f 1) 16)) = s0 at *
      have HS := HSn
      clear HSn
      have HK := HKn
      clear HKn
      have HM := HMn
      clear HMn
      have HR := HRn
      clear HRn
      have hB0 := hB0n
      clear hB0n
      rw [rounds_succ]
      go_upto_region 8 with fail
      refine wp_region_lit ?_
      refine wpList_load_mid rfl 56 _ rfl S 0 rfl (nums .u32 (partR f 1) 16) _ HS.out.cell Tryd.underlying56 rfl (by kernel_rfl) ?_
      go_wp2_with (fail)
      go_at_call 24
      refine (quarter_part f hI.out 1 (by decide) 1 5 9 13 rfl rfl rfl rfl _).mono ?_
      rintro e r1 ⟨rfl, hb⟩
      have HSk := Lib.hid (HS.out.later hb)
      have HKk := Lib.hid (HK.out.later hb)
      have HMk := Lib.hid (HM.out.later hb)
      have HRk := Lib.hid (HR.out.later hb)
      clear HS HK HM HR
      have HS := HSk
      clear HSk
      have HK := HKk
      clear HKk
      have HM := HMk
      clear HMk
      have HR := HRk
      clear HRk
      have hB1 := Below.go hB0 hb
      clear hB0 hb
      have hB0 := hB1
      clear hB1
      have hst := store_nums (P := Tryd.prog) .u32 (partR f 2) HS.out (nums_length _ _ _)
      go_wp2_with (fail)
      clear hst
      have HSn : Hid (Own S (nums .u32 (partR f 2) 16) (r1.setCells S 0 (nums .u32 (partR f 2) 16))) := Lib.hid (own_store HS.out)
      have HKn : Hid (Own K (nums .u8 kf 32) (r1.setCells S 0 (nums .u32 (partR f 2) 16))) := Lib.hid (Own.far (o := 0) (vs := (nums .u32 (partR f 2) 16)) HK.out nKS)
      have HMn : Hid (Own M (nums .u8 nf 12) (r1.setCells S 0 (nums .u32 (partR f 2) 16))) := Lib.hid (Own.far (o := 0) (vs := (nums .u32 (partR f 2) 16)) HM.out nMS)
      have HRn : Hid (Own R (nums .u8 (fun _ => 0) 64) (r1.setCells S 0 (nums .u32 (partR f 2) 16))) := Lib.hid (Own.far (o := 0) (vs := (nums .u32 (partR f 2) 16)) HR.out nRS)
      have hB0n : Below w.heap.size w (r1.setCells S 0 (nums .u32 (partR f 2) 16)) := Below.setCells hB0 Sw (nums .u32 (partR f 2) 16) 0
      clear HS HK HM HR hB0
      generalize (r1.setCells S 0 (nums .u32 (partR f 2) 16)) = s1 at *
      have HS := HSn
      clear HSn
      have HK := HKn
      clear HKn
      have HM := HMn
      clear HMn
      have HR := HRn
      clear HRn
      have hB0 := hB0n
      clear hB0n
      rw [rounds_succ]
      go_upto_region 8 with fail
      refine wp_region_lit ?_
      refine wpList_load_mid rfl 56 _ rfl S 0 rfl (nums .u32 (partR f 2) 16) _ HS.out.cell Tryd.underlying56 rfl (by kernel_rfl) ?_
      go_wp2_with (fail)
      go_at_call 24
      refine (quarter_part f hI.out 2 (by decide) 2 6 10 14 rfl rfl rfl rfl _).mono ?_
      rintro e r2 ⟨rfl, hb⟩
      have HSk := Lib.hid (HS.out.later hb)
      have HKk := Lib.hid (HK.out.later hb)
      have HMk := Lib.hid (HM.out.later hb)
      have HRk := Lib.hid (HR.out.later hb)
      clear HS HK HM HR
      have HS := HSk
      clear HSk
      have HK := HKk
      clear HKk
      have HM := HMk
      clear HMk
      have HR := HRk
      clear HRk
      have hB1 := Below.go hB0 hb
      clear hB0 hb
      have hB0 := hB1
      clear hB1
      have hst := store_nums (P := Tryd.prog) .u32 (partR f 3) HS.out (nums_length _ _ _)
      go_wp2_with (fail)
      clear hst
      have HSn : Hid (Own S (nums .u32 (partR f 3) 16) (r2.setCells S 0 (nums .u32 (partR f 3) 16))) := Lib.hid (own_store HS.out)
      have HKn : Hid (Own K (nums .u8 kf 32) (r2.setCells S 0 (nums .u32 (partR f 3) 16))) := Lib.hid (Own.far (o := 0) (vs := (nums .u32 (partR f 3) 16)) HK.out nKS)
      have HMn : Hid (Own M (nums .u8 nf 12) (r2.setCells S 0 (nums .u32 (partR f 3) 16))) := Lib.hid (Own.far (o := 0) (vs := (nums .u32 (partR f 3) 16)) HM.out nMS)
      have HRn : Hid (Own R (nums .u8 (fun _ => 0) 64) (r2.setCells S 0 (nums .u32 (partR f 3) 16))) := Lib.hid (Own.far (o := 0) (vs := (nums .u32 (partR f 3) 16)) HR.out nRS)
      have hB0n : Below w.heap.size w (r2.setCells S 0 (nums .u32 (partR f 3) 16)) := Below.setCells hB0 Sw (nums .u32 (partR f 3) 16) 0
      clear HS HK HM HR hB0
      generalize (r2.setCells S 0 (nums .u32 (partR f 3) 16)) = s2 at *
      have HS := HSn
      clear HSn
      have HK := HKn
      clear HKn
      have HM := HMn
      clear HMn
      have HR := HRn
      clear HRn
      have hB0 := hB0n
      clear hB0n
      rw [rounds_succ]
      go_upto_region 8 with fail
      refine wp_region_lit ?_
      refine wpList_load_mid rfl 56 _ rfl S 0 rfl (nums .u32 (partR f 3) 16) _ HS.out.cell Tryd.underlying56 rfl (by kernel_rfl) ?_
      go_wp2_with (fail)
      go_at_call 24
      refine (quarter_part f hI.out 3 (by decide) 3 7 11 15 rfl rfl rfl rfl _).mono ?_
      rintro e r3 ⟨rfl, hb⟩
      have HSk := Lib.hid (HS.out.later hb)
      have HKk := Lib.hid (HK.out.later hb)
      have HMk := Lib.hid (HM.out.later hb)
      have HRk := Lib.hid (HR.out.later hb)
      clear HS HK HM HR
      have HS := HSk
      clear HSk
      have HK := HKk
      clear HKk
      have HM := HMk
      clear HMk
      have HR := HRk
      clear HRk
      have hB1 := Below.go hB0 hb
      clear hB0 hb
      have hB0 := hB1
      clear hB1
      have hst := store_nums (P := Tryd.prog) .u32 (partR f 4) HS.out (nums_length _ _ _)
      go_wp2_with (fail)
      clear hst
      have HSn : Hid (Own S (nums .u32 (partR f 4) 16) (r3.setCells S 0 (nums .u32 (partR f 4) 16))) := Lib.hid (own_store HS.out)
      have HKn : Hid (Own K (nums .u8 kf 32) (r3.setCells S 0 (nums .u32 (partR f 4) 16))) := Lib.hid (Own.far (o := 0) (vs := (nums .u32 (partR f 4) 16)) HK.out nKS)
      have HMn : Hid (Own M (nums .u8 nf 12) (r3.setCells S 0 (nums .u32 (partR f 4) 16))) := Lib.hid (Own.far (o := 0) (vs := (nums .u32 (partR f 4) 16)) HM.out nMS)
      have HRn : Hid (Own R (nums .u8 (fun _ => 0) 64) (r3.setCells S 0 (nums .u32 (partR f 4) 16))) := Lib.hid (Own.far (o := 0) (vs := (nums .u32 (partR f 4) 16)) HR.out nRS)
      have hB0n : Below w.heap.size w (r3.setCells S 0 (nums .u32 (partR f 4) 16)) := Below.setCells hB0 Sw (nums .u32 (partR f 4) 16) 0
      clear HS HK HM HR hB0
      generalize (r3.setCells S 0 (nums .u32 (partR f 4) 16)) = s3 at *
      have HS := HSn
      clear HSn
      have HK := HKn
      clear HKn
      have HM := HMn
      clear HMn
      have HR := HRn
      clear HRn
      have hB0 := hB0n
      clear hB0n
      rw [rounds_succ]
      go_wp2_with (fail)
      refine wp_loop_rounds 5 ?_
      rw [rounds_succ]
      go_upto_region 12 with fail
      refine wp_region_lit ?_
      refine wpList_load_mid rfl 56 _ rfl S 0 rfl (nums .u32 (partR f 4) 16) _ HS.out.cell Tryd.underlying56 rfl (by kernel_rfl) ?_
      go_wp2_with (fail)
      go_at_call 24
      refine (quarter_part f hI.out 4 (by decide) 0 5 10 15 rfl rfl rfl rfl _).mono ?_
      rintro e r4 ⟨rfl, hb⟩
      have HSk := Lib.hid (HS.out.later hb)
      have HKk := Lib.hid (HK.out.later hb)
      have HMk := Lib.hid (HM.out.later hb)
      have HRk := Lib.hid (HR.out.later hb)
      clear HS HK HM HR
      have HS := HSk
      clear HSk
      have HK := HKk
      clear HKk
      have HM := HMk
      clear HMk
      have HR := HRk
      clear HRk
      have hB1 := Below.go hB0 hb
      clear hB0 hb
      have hB0 := hB1
      clear hB1
      have hst := store_nums (P := Tryd.prog) .u32 (partR f 5) HS.out (nums_length _ _ _)
      go_wp2_with (fail)
      clear hst
      have HSn : Hid (Own S (nums .u32 (partR f 5) 16) (r4.setCells S 0 (nums .u32 (partR f 5) 16))) := Lib.hid (own_store HS.out)
      have HKn : Hid (Own K (nums .u8 kf 32) (r4.setCells S 0 (nums .u32 (partR f 5) 16))) := Lib.hid (Own.far (o := 0) (vs := (nums .u32 (partR f 5) 16)) HK.out nKS)
      have HMn : Hid (Own M (nums .u8 nf 12) (r4.setCells S 0 (nums .u32 (partR f 5) 16))) := Lib.hid (Own.far (o := 0) (vs := (nums .u32 (partR f 5) 16)) HM.out nMS)
      have HRn : Hid (Own R (nums .u8 (fun _ => 0) 64) (r4.setCells S 0 (nums .u32 (partR f 5) 16))) := Lib.hid (Own.far (o := 0) (vs := (nums .u32 (partR f 5) 16)) HR.out nRS)
      have hB0n : Below w.heap.size w (r4.setCells S 0 (nums .u32 (partR f 5) 16)) := Below.setCells hB0 Sw (nums .u32 (partR f 5) 16) 0
      clear HS HK HM HR hB0
      generalize (r4.setCells S 0 (nums .u32 (partR f 5) 16)) = s4 at *
      have HS := HSn
      clear HSn
      have HK := HKn
      clear HKn
      have HM := HMn
      clear HMn
      have HR := HRn
      clear HRn
      have hB0 := hB0n
      clear hB0n
      rw [rounds_succ]
      go_upto_region 12 with fail
      refine wp_region_lit ?_
      refine wpList_load_mid rfl 56 _ rfl S 0 rfl (nums .u32 (partR f 5) 16) _ HS.out.cell Tryd.underlying56 rfl (by kernel_rfl) ?_
      go_wp2_with (fail)
      go_at_call 24
      refine (quarter_part f hI.out 5 (by decide) 1 6 11 12 rfl rfl rfl rfl _).mono ?_
      rintro e r5 ⟨rfl, hb⟩
      have HSk := Lib.hid (HS.out.later hb)
      have HKk := Lib.hid (HK.out.later hb)
      have HMk := Lib.hid (HM.out.later hb)
      have HRk := Lib.hid (HR.out.later hb)
      clear HS HK HM HR
      have HS := HSk
      clear HSk
      have HK := HKk
      clear HKk
      have HM := HMk
      clear HMk
      have HR := HRk
      clear HRk
      have hB1 := Below.go hB0 hb
      clear hB0 hb
      have hB0 := hB1
      clear hB1
      have hst := store_nums (P := Tryd.prog) .u32 (partR f 6) HS.out (nums_length _ _ _)
      go_wp2_with (fail)
      clear hst
      have HSn : Hid (Own S (nums .u32 (partR f 6) 16) (r5.setCells S 0 (nums .u32 (partR f 6) 16))) := Lib.hid (own_store HS.out)
      have HKn : Hid (Own K (nums .u8 kf 32) (r5.setCells S 0 (nums .u32 (partR f 6) 16))) := Lib.hid (Own.far (o := 0) (vs := (nums .u32 (partR f 6) 16)) HK.out nKS)
      have HMn : Hid (Own M (nums .u8 nf 12) (r5.setCells S 0 (nums .u32 (partR f 6) 16))) := Lib.hid (Own.far (o := 0) (vs := (nums .u32 (partR f 6) 16)) HM.out nMS)
      have HRn : Hid (Own R (nums .u8 (fun _ => 0) 64) (r5.setCells S 0 (nums .u32 (partR f 6) 16))) := Lib.hid (Own.far (o := 0) (vs := (nums .u32 (partR f 6) 16)) HR.out nRS)
      have hB0n : Below w.heap.size w (r5.setCells S 0 (nums .u32 (partR f 6) 16)) := Below.setCells hB0 Sw (nums .u32 (partR f 6) 16) 0
      clear HS HK HM HR hB0
      generalize (r5.setCells S 0 (nums .u32 (partR f 6) 16)) = s5 at *
      have HS := HSn
      clear HSn
      have HK := HKn
      clear HKn
      have HM := HMn
      clear HMn
      have HR := HRn
      clear HRn
      have hB0 := hB0n
      clear hB0n
      rw [rounds_succ]
      go_upto_region 12 with fail
      refine wp_region_lit ?_
      refine wpList_load_mid rfl 56 _ rfl S 0 rfl (nums .u32 (partR f 6) 16) _ HS.out.cell Tryd.underlying56 rfl (by kernel_rfl) ?_
      go_wp2_with (fail)
      go_at_call 24
      refine (quarter_part f hI.out 6 (by decide) 2 7 8 13 rfl rfl rfl rfl _).mono ?_
      rintro e r6 ⟨rfl, hb⟩
      have HSk := Lib.hid (HS.out.later hb)
      have HKk := Lib.hid (HK.out.later hb)
      have HMk := Lib.hid (HM.out.later hb)
      have HRk := Lib.hid (HR.out.later hb)
      clear HS HK HM HR
      have HS := HSk
      clear HSk
      have HK := HKk
      clear HKk
      have HM := HMk
      clear HMk
      have HR := HRk
      clear HRk
      have hB1 := Below.go hB0 hb
      clear hB0 hb
      have hB0 := hB1
      clear hB1
      have hst := store_nums (P := Tryd.prog) .u32 (partR f 7) HS.out (nums_length _ _ _)
      go_wp2_with (fail)
      clear hst
      have HSn : Hid (Own S (nums .u32 (partR f 7) 16) (r6.setCells S 0 (nums .u32 (partR f 7) 16))) := Lib.hid (own_store HS.out)
      have HKn : Hid (Own K (nums .u8 kf 32) (r6.setCells S 0 (nums .u32 (partR f 7) 16))) := Lib.hid (Own.far (o := 0) (vs := (nums .u32 (partR f 7) 16)) HK.out nKS)
      have HMn : Hid (Own M (nums .u8 nf 12) (r6.setCells S 0 (nums .u32 (partR f 7) 16))) := Lib.hid (Own.far (o := 0) (vs := (nums .u32 (partR f 7) 16)) HM.out nMS)
      have HRn : Hid (Own R (nums .u8 (fun _ => 0) 64) (r6.setCells S 0 (nums .u32 (partR f 7) 16))) := Lib.hid (Own.far (o := 0) (vs := (nums .u32 (partR f 7) 16)) HR.out nRS)
      have hB0n : Below w.heap.size w (r6.setCells S 0 (nums .u32 (partR f 7) 16)) := Below.setCells hB0 Sw (nums .u32 (partR f 7) 16) 0
      clear HS HK HM HR hB0
      generalize (r6.setCells S 0 (nums .u32 (partR f 7) 16)) = s6 at *
      have HS := HSn
      clear HSn
      have HK := HKn
      clear HKn
      have HM := HMn
      clear HMn
      have HR := HRn
      clear HRn
      have hB0 := hB0n
      clear hB0n
      rw [rounds_succ]
      go_upto_region 12 with fail
      refine wp_region_lit ?_
      refine wpList_load_mid rfl 56 _ rfl S 0 rfl (nums .u32 (partR f 7) 16) _ HS.out.cell Tryd.underlying56 rfl (by kernel_rfl) ?_
      go_wp2_with (fail)
      go_at_call 24
      refine (quarter_part f hI.out 7 (by decide) 3 4 9 14 rfl rfl rfl rfl _).mono ?_
      rintro e r7 ⟨rfl, hb⟩
      have HSk := Lib.hid (HS.out.later hb)
      have HKk := Lib.hid (HK.out.later hb)
      have HMk := Lib.hid (HM.out.later hb)
      have HRk := Lib.hid (HR.out.later hb)
      clear HS HK HM HR
      have HS := HSk
      clear HSk
      have HK := HKk
      clear HKk
      have HM := HMk
      clear HMk
      have HR := HRk
      clear HRk
      have hB1 := Below.go hB0 hb
      clear hB0 hb
      have hB0 := hB1
      clear hB1
      have hst := store_nums (P := Tryd.prog) .u32 (partR f 8) HS.out (nums_length _ _ _)
      go_wp2_with (fail)
      clear hst
      have HSn : Hid (Own S (nums .u32 (partR f 8) 16) (r7.setCells S 0 (nums .u32 (partR f 8) 16))) := Lib.hid (own_store HS.out)
      have HKn : Hid (Own K (nums .u8 kf 32) (r7.setCells S 0 (nums .u32 (partR f 8) 16))) := Lib.hid (Own.far (o := 0) (vs := (nums .u32 (partR f 8) 16)) HK.out nKS)
      have HMn : Hid (Own M (nums .u8 nf 12) (r7.setCells S 0 (nums .u32 (partR f 8) 16))) := Lib.hid (Own.far (o := 0) (vs := (nums .u32 (partR f 8) 16)) HM.out nMS)
      have HRn : Hid (Own R (nums .u8 (fun _ => 0) 64) (r7.setCells S 0 (nums .u32 (partR f 8) 16))) := Lib.hid (Own.far (o := 0) (vs := (nums .u32 (partR f 8) 16)) HR.out nRS)
      have hB0n : Below w.heap.size w (r7.setCells S 0 (nums .u32 (partR f 8) 16)) := Below.setCells hB0 Sw (nums .u32 (partR f 8) 16) 0
      clear HS HK HM HR hB0
      generalize (r7.setCells S 0 (nums .u32 (partR f 8) 16)) = s7 at *
      have HS := HSn
      clear HSn
      have HK := HKn
      clear HKn
      have HM := HMn
      clear HMn
      have HR := HRn
      clear HRn
      have hB0 := hB0n
      clear hB0n
      rw [rounds_succ]
      go_wp2_with (fail)
      go_roundw
      case rel => (have o1 := Lib.hid (show Own S (nums .u32 (iterR (stF kf c nf) (k + 1)) 16) s7 from by rw [hnx.out, ← hN.out]; exact HS.out); first | exact ⟨k + 1, by omega, by go_num, Lib.hid hB0, o1, HK, HM, HR⟩ | ((repeat apply Exists.intro); exact ⟨⟨k + 1, by omega, by go_num, Lib.hid hB0, o1, HK, HM, HR⟩, rfl⟩))
      case measure => simp [intOf]; omega
    · have e10 : k = 10 := by omega
      subst e10
      have hB0 := HB.out
      clear HB
      go_upto_region 13 with fail
      refine wp_region_lit ?_
      refine wpList_load_mid rfl 44 _ rfl K 0 rfl (nums .u8 kf 32) _ HK.out.cell Tryd.underlying44 rfl (by kernel_rfl) ?_
      refine wpList_move rfl _ rfl ?_
      refine wpList_load_mid rfl 47 _ rfl M 0 rfl (nums .u8 nf 12) _ HM.out.cell Tryd.underlying47 rfl (by kernel_rfl) ?_
      go_wp2_with (fail)
      go_at_call 23
      refine (RState_any kf nf c FK.out FN.out _).mono ?_
      rintro e w5 ⟨rfl, hb⟩
      go_upto_region 14 with fail
      have HSk := Lib.hid (HS.out.later hb)
      have HRk := Lib.hid (HR.out.later hb)
      clear HS HR
      have HS := HSk
      clear HSk
      have HR := HRk
      clear HRk
      have hB1 := Below.go hB0 hb
      clear hB0 hb HK HM nKM nMK nKR nRK nMR nRM nSK nKS nSM nMS
      have hB0 := hB1
      clear hB1
      obtain ⟨W5, hW⟩ : ∃ W5, W5 = (w5.alloc (.cells (nums .u32 (stF kf c nf) 16).toArray 56)) := ⟨_, rfl⟩
      have hBx : Below w5.heap.size w5 W5 := hW ▸ (Below.al (Below.refl _ _))
      have HA : Hid (Own w5.heap.size (nums .u32 (stF kf c nf) 16) W5) := Lib.hid (hW ▸ (show Own w5.heap.size (nums .u32 (stF kf c nf) 16) (w5.alloc (.cells (nums .u32 (stF kf c nf) 16).toArray 56)) from Own.newAt (by simp)))
      rw [← hW]
      clear hW
      obtain ⟨A, eA⟩ : ∃ X, X = w5.heap.size := ⟨_, rfl⟩
      rw [← eA] at HA ⊢
      have Aw : w5.heap.size ≤ A := by omega
      clear eA
      have nAS : A ≠ S := by have := HS.out.lt; omega
      have nSA : S ≠ A := Ne.symm nAS
      have nAR : A ≠ R := by have := HR.out.lt; omega
      have nRA : R ≠ A := Ne.symm nAR
      have Aw2 : w.heap.size ≤ A := by have := hB0.size; omega
      clear Aw
      have Aw := Aw2
      clear Aw2
      have HSk := Lib.hid (HS.out.later hBx)
      have HRk := Lib.hid (HR.out.later hBx)
      clear HS HR
      have HS := HSk
      clear HSk
      have HR := HRk
      clear HRk
      have hB0n := Below.go hB0 hBx
      clear hB0 hBx
      have hB0 := hB0n
      clear hB0n
      go_upto_region 15 with fail
      obtain ⟨W6, hW⟩ : ∃ W6, W6 = (W5.alloc (.cells #[.int .u8 0, .int .u8 0, .int .u8 0, .int .u8 0, .int .u8 0, .int .u8 0, .int .u8 0, .int .u8 0, .int .u8 0, .int .u8 0, .int .u8 0, .int .u8 0, .int .u8 0, .int .u8 0, .int .u8 0, .int .u8 0, .int .u8 0, .int .u8 0, .int .u8 0, .int .u8 0, .int .u8 0, .int .u8 0, .int .u8 0, .int .u8 0, .int .u8 0, .int .u8 0, .int .u8 0, .int .u8 0, .int .u8 0, .int .u8 0, .int .u8 0, .int .u8 0, .int .u8 0, .int .u8 0, .int .u8 0, .int .u8 0, .int .u8 0, .int .u8 0, .int .u8 0, .int .u8 0, .int .u8 0, .int .u8 0, .int .u8 0, .int .u8 0, .int .u8 0, .int .u8 0, .int .u8 0, .int .u8 0, .int .u8 0, .int .u8 0, .int .u8 0, .int .u8 0, .int .u8 0, .int .u8 0, .int .u8 0, .int .u8 0, .int .u8 0, .int .u8 0, .int .u8 0, .int .u8 0, .int .u8 0, .int .u8 0, .int .u8 0, .int .u8 0] 35)) := ⟨_, rfl⟩
      have hBx : Below W5.heap.size W5 W6 := hW ▸ (Below.al (Below.refl _ _))
      have HC : Hid (Own W5.heap.size (nums .u8 (upto (blkF kf c nf) 0) 64) W6) := Lib.hid (hW ▸ (show Own W5.heap.size (nums .u8 (upto (blkF kf c nf) 0) 64) (W5.alloc (.cells #[.int .u8 0, .int .u8 0, .int .u8 0, .int .u8 0, .int .u8 0, .int .u8 0, .int .u8 0, .int .u8 0, .int .u8 0, .int .u8 0, .int .u8 0, .int .u8 0, .int .u8 0, .int .u8 0, .int .u8 0, .int .u8 0, .int .u8 0, .int .u8 0, .int .u8 0, .int .u8 0, .int .u8 0, .int .u8 0, .int .u8 0, .int .u8 0, .int .u8 0, .int .u8 0, .int .u8 0, .int .u8 0, .int .u8 0, .int .u8 0, .int .u8 0, .int .u8 0, .int .u8 0, .int .u8 0, .int .u8 0, .int .u8 0, .int .u8 0, .int .u8 0, .int .u8 0, .int .u8 0, .int .u8 0, .int .u8 0, .int .u8 0, .int .u8 0, .int .u8 0, .int .u8 0, .int .u8 0, .int .u8 0, .int .u8 0, .int .u8 0, .int .u8 0, .int .u8 0, .int .u8 0, .int .u8 0, .int .u8 0, .int .u8 0, .int .u8 0, .int .u8 0, .int .u8 0, .int .u8 0, .int .u8 0, .int .u8 0, .int .u8 0, .int .u8 0] 35)) from Own.newAt (by simp)))
      rw [← hW]
      clear hW
      obtain ⟨C, eC⟩ : ∃ X, X = W5.heap.size := ⟨_, rfl⟩
      rw [← eC] at HC ⊢
      have Cw : W5.heap.size ≤ C := by omega
      clear eC
      have nCR : C ≠ R := by have := HR.out.lt; omega
      have nRC : R ≠ C := Ne.symm nCR
      have nCA : C ≠ A := by have := HA.out.lt; omega
      have nAC : A ≠ C := Ne.symm nCA
      have nCS : C ≠ S := by have := HS.out.lt; omega
      have nSC : S ≠ C := Ne.symm nCS
      have Cw2 : w.heap.size ≤ C := by have := hB0.size; omega
      clear Cw
      have Cw := Cw2
      clear Cw2
      have HRk := Lib.hid (HR.out.later hBx)
      have HAk := Lib.hid (HA.out.later hBx)
      have HSk := Lib.hid (HS.out.later hBx)
      clear HR HA HS
      have HR := HRk
      clear HRk
      have HA := HAk
      clear HAk
      have HS := HSk
      clear HSk
      have hB0n := Below.go hB0 hBx
      clear hB0 hBx
      have hB0 := hB0n
      clear hB0n
      go_wp2_with (fail)
      go_loopw [13] (fun i wr => ∃ (k : Nat), k ≤ 64 ∧ i = .int .i64 k ∧ Hid (Below w.heap.size w wr) ∧ Hid (Own S (nums .u32 (iterR (stF kf c nf) 10) 16) wr) ∧ Hid (Own A (nums .u32 (stF kf c nf) 16) wr) ∧ Hid (Own R (nums .u8 (fun _ => 0) 64) wr) ∧ Hid (Own C (nums .u8 (upto (blkF kf c nf) k) 64) wr)) (fun i _ => (64 - (intOf i).toNat))
      case atStart => exact ⟨0, by omega, rfl, Lib.hid hB0, HS, HA, HR, HC⟩
      case round =>
        clear HS HA HR HC hB0
        obtain ⟨k, hk, rfl, HB, HS, HA, HR, HC⟩ := hrel
        by_cases hlt : k < 64
        · obtain ⟨m, r, hr, rfl⟩ : ∃ m r, r < 4 ∧ k = 4 * m + r := ⟨k / 4, k % 4, by omega, by omega⟩
          have hm : m < 16 := by omega
          have a0 := HA.out.at m _ (nums_at _ _ hm)
          have b0 := HS.out.at m _ (nums_at _ _ hm)
          have c0 := HC.out.at (4 * m + r) _ (nums_at _ _ hlt)
          have f0 := HC.out.ok (4 * m + r) (by rw [nums_length]; exact hlt)
          have Cl := HC.out.lt
          obtain ⟨x, hx⟩ : ∃ z, iterR (stF kf c nf) 10 m = z := ⟨_, rfl⟩
          obtain ⟨y, hy⟩ : ∃ z, (stF kf c nf) m = z := ⟨_, rfl⟩
          rw [hx] at b0
          rw [hy] at a0
          have m0 : (0 : Int) ≤ (m : Int) := by omega
          have m1 : (m : Int) < 16 := by omega
          have wm : IntKind.i64.wrap (m : Int) = (m : Int) := IntWalk.i64_in _ (by omega)
          match r, hr with
          | 0, _ =>
            have q0 : ((4 * m + 0 : Nat) : Int).tdiv 4 = (m : Int) := tdiv4 _ _ (by omega)
            have q1 : ((4 * m + 0 : Nat) : Int).tmod 4 = 0 := tmod4 _ 0 (by omega)
            have w1 : IntKind.i64.wrap 0 = 0 := by decide
            have w2 : IntKind.i64.wrap (8 * 0) = 0 := by decide
            have w3 : IntKind.i64.wrap 0 = 0 := by decide
            have hv : (x + y) % 4294967296 / 1 % 256 = blkF kf c nf (4 * m + 0) := by
              unfold blkF
              rw [show (4 * m + 0) / 4 = m by omega, show (4 * m + 0) % 4 = 0 by omega, hx, hy]
              rfl
            obtain ⟨n, hn⟩ : ∃ n : Nat, 4 * m + 0 = n := ⟨_, rfl⟩
            rw [hn] at c0 f0 hlt q0 q1 hv HC hk ⊢
            have n0 : (0 : Int) ≤ (n : Int) := by omega
            have n1 : (n : Int) < 64 := by omega
            obtain ⟨z, fz⟩ : ∃ z, (x + y) % 4294967296 = z := ⟨_, rfl⟩
            have gz : IntKind.u32.wrap (x + y) = z := (IntKind.wrap_u32' _).trans fz
            have z0 : 0 ≤ z := by omega
            rw [fz] at hv
            rw [Int.ediv_one] at hv
            obtain ⟨v, fv⟩ : ∃ v, z % 256 = v := ⟨_, rfl⟩
            have gv : IntKind.u8.wrap (z) = v := (IntKind.wrap_u8' _).trans fv
            rw [fv] at hv
            replace hv := Lib.hid hv
            clear hx hy hn hk
            go_wp2_with (fail)
            go_region_held3 (fun w' => w'.cell? ⟨S, m, none⟩ = some (.int .u32 x) ∧ w'.cell? ⟨A, m, none⟩ = some (.int .u32 y)) (exact ⟨by simp [go_sem, *], by simp [go_sem, *]⟩) (fail)
            go_wp2_with (fail)
            have e1 := upto_step .u8 (blkF kf c nf) n 64 v hv.out
            have o1 := Lib.hid (Own.drew (e1 ▸ own_set (v := v) HC.out hlt))
            have o2 := Lib.hid (Own.drew (Own.far (c := C) (o := n) (vs := [.int .u8 v]) HS.out nSC))
            have o3 := Lib.hid (Own.drew (Own.far (c := C) (o := n) (vs := [.int .u8 v]) HA.out nAC))
            have o4 := Lib.hid (Own.drew (Own.far (c := C) (o := n) (vs := [.int .u8 v]) HR.out nRC))
            have o5 := Lib.hid (Below.drew (Below.setCells HB.out Cw [.int .u8 v] n))
            go_roundw
            case rel => (first | exact ⟨n + 1, by omega, by go_num, o5, o2, o3, o4, o1⟩ | ((repeat apply Exists.intro); exact ⟨⟨n + 1, by omega, by go_num, o5, o2, o3, o4, o1⟩, rfl⟩))
            case measure => simp [intOf]; omega
          | 1, _ =>
            have q0 : ((4 * m + 1 : Nat) : Int).tdiv 4 = (m : Int) := tdiv4 _ _ (by omega)
            have q1 : ((4 * m + 1 : Nat) : Int).tmod 4 = 1 := tmod4 _ 1 (by omega)
            have w1 : IntKind.i64.wrap 1 = 1 := by decide
            have w2 : IntKind.i64.wrap (8 * 1) = 8 := by decide
            have w3 : IntKind.i64.wrap 8 = 8 := by decide
            have hv : (x + y) % 4294967296 / 256 % 256 = blkF kf c nf (4 * m + 1) := by
              unfold blkF
              rw [show (4 * m + 1) / 4 = m by omega, show (4 * m + 1) % 4 = 1 by omega, hx, hy]
              rfl
            obtain ⟨n, hn⟩ : ∃ n : Nat, 4 * m + 1 = n := ⟨_, rfl⟩
            rw [hn] at c0 f0 hlt q0 q1 hv HC hk ⊢
            have n0 : (0 : Int) ≤ (n : Int) := by omega
            have n1 : (n : Int) < 64 := by omega
            obtain ⟨z, fz⟩ : ∃ z, (x + y) % 4294967296 = z := ⟨_, rfl⟩
            have gz : IntKind.u32.wrap (x + y) = z := (IntKind.wrap_u32' _).trans fz
            have z0 : 0 ≤ z := by omega
            rw [fz] at hv
            skip
            obtain ⟨v, fv⟩ : ∃ v, z / 256 % 256 = v := ⟨_, rfl⟩
            have gv : IntKind.u8.wrap (z / 256) = v := (IntKind.wrap_u8' _).trans fv
            rw [fv] at hv
            replace hv := Lib.hid hv
            clear hx hy hn hk
            go_wp2_with (fail)
            go_region_held3 (fun w' => w'.cell? ⟨S, m, none⟩ = some (.int .u32 x) ∧ w'.cell? ⟨A, m, none⟩ = some (.int .u32 y)) (exact ⟨by simp [go_sem, *], by simp [go_sem, *]⟩) (fail)
            go_wp2_with (fail)
            have e1 := upto_step .u8 (blkF kf c nf) n 64 v hv.out
            have o1 := Lib.hid (Own.drew (e1 ▸ own_set (v := v) HC.out hlt))
            have o2 := Lib.hid (Own.drew (Own.far (c := C) (o := n) (vs := [.int .u8 v]) HS.out nSC))
            have o3 := Lib.hid (Own.drew (Own.far (c := C) (o := n) (vs := [.int .u8 v]) HA.out nAC))
            have o4 := Lib.hid (Own.drew (Own.far (c := C) (o := n) (vs := [.int .u8 v]) HR.out nRC))
            have o5 := Lib.hid (Below.drew (Below.setCells HB.out Cw [.int .u8 v] n))
            go_roundw
            case rel => (first | exact ⟨n + 1, by omega, by go_num, o5, o2, o3, o4, o1⟩ | ((repeat apply Exists.intro); exact ⟨⟨n + 1, by omega, by go_num, o5, o2, o3, o4, o1⟩, rfl⟩))
            case measure => simp [intOf]; omega
          | 2, _ =>
            have q0 : ((4 * m + 2 : Nat) : Int).tdiv 4 = (m : Int) := tdiv4 _ _ (by omega)
            have q1 : ((4 * m + 2 : Nat) : Int).tmod 4 = 2 := tmod4 _ 2 (by omega)
            have w1 : IntKind.i64.wrap 2 = 2 := by decide
            have w2 : IntKind.i64.wrap (8 * 2) = 16 := by decide
            have w3 : IntKind.i64.wrap 16 = 16 := by decide
            have hv : (x + y) % 4294967296 / 65536 % 256 = blkF kf c nf (4 * m + 2) := by
              unfold blkF
              rw [show (4 * m + 2) / 4 = m by omega, show (4 * m + 2) % 4 = 2 by omega, hx, hy]
              rfl
            obtain ⟨n, hn⟩ : ∃ n : Nat, 4 * m + 2 = n := ⟨_, rfl⟩
            rw [hn] at c0 f0 hlt q0 q1 hv HC hk ⊢
            have n0 : (0 : Int) ≤ (n : Int) := by omega
            have n1 : (n : Int) < 64 := by omega
            obtain ⟨z, fz⟩ : ∃ z, (x + y) % 4294967296 = z := ⟨_, rfl⟩
            have gz : IntKind.u32.wrap (x + y) = z := (IntKind.wrap_u32' _).trans fz
            have z0 : 0 ≤ z := by omega
            rw [fz] at hv
            skip
            obtain ⟨v, fv⟩ : ∃ v, z / 65536 % 256 = v := ⟨_, rfl⟩
            have gv : IntKind.u8.wrap (z / 65536) = v := (IntKind.wrap_u8' _).trans fv
            rw [fv] at hv
            replace hv := Lib.hid hv
            clear hx hy hn hk
            go_wp2_with (fail)
            go_region_held3 (fun w' => w'.cell? ⟨S, m, none⟩ = some (.int .u32 x) ∧ w'.cell? ⟨A, m, none⟩ = some (.int .u32 y)) (exact ⟨by simp [go_sem, *], by simp [go_sem, *]⟩) (fail)
            go_wp2_with (fail)
            have e1 := upto_step .u8 (blkF kf c nf) n 64 v hv.out
            have o1 := Lib.hid (Own.drew (e1 ▸ own_set (v := v) HC.out hlt))
            have o2 := Lib.hid (Own.drew (Own.far (c := C) (o := n) (vs := [.int .u8 v]) HS.out nSC))
            have o3 := Lib.hid (Own.drew (Own.far (c := C) (o := n) (vs := [.int .u8 v]) HA.out nAC))
            have o4 := Lib.hid (Own.drew (Own.far (c := C) (o := n) (vs := [.int .u8 v]) HR.out nRC))
            have o5 := Lib.hid (Below.drew (Below.setCells HB.out Cw [.int .u8 v] n))
            go_roundw
            case rel => (first | exact ⟨n + 1, by omega, by go_num, o5, o2, o3, o4, o1⟩ | ((repeat apply Exists.intro); exact ⟨⟨n + 1, by omega, by go_num, o5, o2, o3, o4, o1⟩, rfl⟩))
            case measure => simp [intOf]; omega
          | 3, _ =>
            have q0 : ((4 * m + 3 : Nat) : Int).tdiv 4 = (m : Int) := tdiv4 _ _ (by omega)
            have q1 : ((4 * m + 3 : Nat) : Int).tmod 4 = 3 := tmod4 _ 3 (by omega)
            have w1 : IntKind.i64.wrap 3 = 3 := by decide
            have w2 : IntKind.i64.wrap (8 * 3) = 24 := by decide
            have w3 : IntKind.i64.wrap 24 = 24 := by decide
            have hv : (x + y) % 4294967296 / 16777216 % 256 = blkF kf c nf (4 * m + 3) := by
              unfold blkF
              rw [show (4 * m + 3) / 4 = m by omega, show (4 * m + 3) % 4 = 3 by omega, hx, hy]
              rfl
            obtain ⟨n, hn⟩ : ∃ n : Nat, 4 * m + 3 = n := ⟨_, rfl⟩
            rw [hn] at c0 f0 hlt q0 q1 hv HC hk ⊢
            have n0 : (0 : Int) ≤ (n : Int) := by omega
            have n1 : (n : Int) < 64 := by omega
            obtain ⟨z, fz⟩ : ∃ z, (x + y) % 4294967296 = z := ⟨_, rfl⟩
            have gz : IntKind.u32.wrap (x + y) = z := (IntKind.wrap_u32' _).trans fz
            have z0 : 0 ≤ z := by omega
            rw [fz] at hv
            skip
            obtain ⟨v, fv⟩ : ∃ v, z / 16777216 % 256 = v := ⟨_, rfl⟩
            have gv : IntKind.u8.wrap (z / 16777216) = v := (IntKind.wrap_u8' _).trans fv
            rw [fv] at hv
            replace hv := Lib.hid hv
            clear hx hy hn hk
            go_wp2_with (fail)
            go_region_held3 (fun w' => w'.cell? ⟨S, m, none⟩ = some (.int .u32 x) ∧ w'.cell? ⟨A, m, none⟩ = some (.int .u32 y)) (exact ⟨by simp [go_sem, *], by simp [go_sem, *]⟩) (fail)
            go_wp2_with (fail)
            have e1 := upto_step .u8 (blkF kf c nf) n 64 v hv.out
            have o1 := Lib.hid (Own.drew (e1 ▸ own_set (v := v) HC.out hlt))
            have o2 := Lib.hid (Own.drew (Own.far (c := C) (o := n) (vs := [.int .u8 v]) HS.out nSC))
            have o3 := Lib.hid (Own.drew (Own.far (c := C) (o := n) (vs := [.int .u8 v]) HA.out nAC))
            have o4 := Lib.hid (Own.drew (Own.far (c := C) (o := n) (vs := [.int .u8 v]) HR.out nRC))
            have o5 := Lib.hid (Below.drew (Below.setCells HB.out Cw [.int .u8 v] n))
            go_roundw
            case rel => (first | exact ⟨n + 1, by omega, by go_num, o5, o2, o3, o4, o1⟩ | ((repeat apply Exists.intro); exact ⟨⟨n + 1, by omega, by go_num, o5, o2, o3, o4, o1⟩, rfl⟩))
            case measure => simp [intOf]; omega
        · have e64 : k = 64 := by omega
          subst e64
          have hF : nums .u8 (upto (blkF kf c nf) 64) 64 = nums .u8 (blkF kf c nf) 64 := upto_all _ _ _
          rw [hF] at HC
          go_upto_region 19 with fail
          have hB0 := HB.out
          refine wp_region_lit ?_
          refine wpList_load_mid rfl 35 _ rfl C 0 rfl (nums .u8 (blkF kf c nf) 64) _ HC.out.cell Tryd.underlying35 rfl (by kernel_rfl) ?_
          refine wpList_store_mid rfl 35 _ _ rfl R 0 (nums .u8 (blkF kf c nf) 64).toArray rfl rfl HR.out.free (by kernel_rfl) (all_oneCell_toArray (nums_one _ _ _)) ?_
          change wpList _ _ _ [] _ (wr.setCells R 0 (nums .u8 (blkF kf c nf) 64))
          have HRn : Hid (Own R (nums .u8 (blkF kf c nf) 64) (wr.setCells R 0 (nums .u8 (blkF kf c nf) 64))) := Lib.hid (own_store HR.out)
          have HCn : Hid (Own C (nums .u8 (blkF kf c nf) 64) (wr.setCells R 0 (nums .u8 (blkF kf c nf) 64))) := Lib.hid (Own.far (o := 0) (vs := (nums .u8 (blkF kf c nf) 64)) HC.out nCR)
          have hB0n : Below w.heap.size w (wr.setCells R 0 (nums .u8 (blkF kf c nf) 64)) := Below.setCells hB0 Rw (nums .u8 (blkF kf c nf) 64) 0
          clear HR HC hB0
          generalize (wr.setCells R 0 (nums .u8 (blkF kf c nf) 64)) = w3 at *
          have HR := HRn
          clear HRn
          have HC := HCn
          clear HCn
          have hB0 := hB0n
          clear hB0n
          go_wp2_with (fail)
          have hL := run_loadVar_mid (P := Tryd.prog) _ R 0 35 (nums .u8 (blkF kf c nf) 64) _ HR.out.cell Tryd.underlying35 rfl (by kernel_rfl)
          exact bodyPost_ret (v := .agg (nums .u8 (blkF kf c nf) 64).toArray) (res_cell Tryd.results13 rfl hL) rfl ⟨rfl, hB0⟩
end Go.Proofs.YtbepgbpmgiihbaaDoor
