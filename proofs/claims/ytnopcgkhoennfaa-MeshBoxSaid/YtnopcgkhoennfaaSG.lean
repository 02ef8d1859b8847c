/- mesh: the laws' Few. -/
import Derived.Test.YtnopcgkhoennfaaSA
import Derived.Test.YtnopcgkhoennfaaDG
import Derived.Lib.Hide
import Derived.LoopN
import Derived.LoopTactic
import Derived.Deep.Onto
import Derived.Deep.RegionHeld3
import Derived.Deep.QuietTactic
import Derived.BigQuiet
import Derived.StillTailTactics
import Derived.Lib.SliceRun
namespace Go.Proofs.Ytnopcgkhoennfaa
set_option linter.unusedVariables false
set_option maxRecDepth 2000
set_option linter.unusedSimpArgs false
open Go.RowKit
attribute [local go_sem ↓ high] sliced_head
set_option maxHeartbeats 8000000 in
theorem Few_any (qv qu qt : Option Addr) (nv cv nu cu nt ct a b c : Nat) (ea : min (nv : Int) 70 = (a : Int)) (eb : min (nu : Int) 70 = (b : Int)) (ec : min (nt : Int) 70 = (c : Int)) (lv : nv ≤ cv) (lu : nu ≤ cu) (lt : nt ≤ ct) (xv : cv ≤ 9223372036854775807) (xu : cu ≤ 9223372036854775807) (xt : ct ≤ 9223372036854775807) (w : World) :
    Calls Try.prog 8 #[.agg #[.slice qv nv cv, .slice qu nu cu, .slice qt nt ct]] w fun e w' => e = .returned (.agg #[.slice qv a cv, .slice qu b cu, .slice qt c ct]) ∧ Below w.heap.size w w' := by
  have a0 : (0 : Int) ≤ (a : Int) := by omega
  have b0 : (0 : Int) ≤ (b : Int) := by omega
  have c0 : (0 : Int) ≤ (c : Int) := by omega
  have a1 : (a : Int) ≤ (cv : Int) := by omega
  have b1 : (b : Int) ≤ (cu : Int) := by omega
  have c1 : (c : Int) ≤ (ct : Int) := by omega
  clear lv lu lt xv xu xt
  go_enter Try.func8, Try.ntmps8
  go_upto_region 1 with fail
  obtain ⟨W0, hW⟩ : ∃ W0, W0 = ((w.alloc (.cells #[.slice qv nv cv, .slice qu nu cu, .slice qt nt ct] 26)).alloc (.cells #[.slice none 0 0, .slice none 0 0, .slice none 0 0] 26)) := ⟨_, rfl⟩
  have hB0 : Below w.heap.size w W0 := hW ▸ (Below.al (Below.al (Below.refl _ _)))
  have HA : Hid (Own w.heap.size [.slice qv nv cv, .slice qu nu cu, .slice qt nt ct] W0) := Lib.hid (hW ▸ (Own.newAt (by simp)).alloc)
  have HR : Hid (Own (w.heap.size + 1) [.slice none 0 0, .slice none 0 0, .slice none 0 0] W0) := Lib.hid (hW ▸ (Own.newAt (by simp)))
  rw [← hW]
  clear hW
  obtain ⟨R, eR⟩ : ∃ X, X = (w.heap.size + 1) := ⟨_, rfl⟩
  rw [← eR] at HR ⊢
  have Rw : w.heap.size ≤ R := by omega
  obtain ⟨A, eA⟩ : ∃ X, X = w.heap.size := ⟨_, rfl⟩
  rw [← eA] at HA ⊢
  have Aw : w.heap.size ≤ A := by omega
  have nAR : A ≠ R := by omega
  have nRA : R ≠ A := by omega
  clear eA eR
  have oA := HA.out
  have A0 := oA.at 0 _ rfl
  have A1 := oA.at 1 _ rfl
  have A2 := oA.at 2 _ rfl
  have Al := oA.lt
  clear oA
  have oR := HR.out
  have R0 := oR.at 0 _ rfl
  have Rf0 := oR.ok 0 (by simp)
  have R1 := oR.at 1 _ rfl
  have Rf1 := oR.ok 1 (by simp)
  have R2 := oR.at 2 _ rfl
  have Rf2 := oR.ok 2 (by simp)
  have Rl := oR.lt
  clear oR
  refine wp_region_still_tail 22 (by kernel_rfl) (by kernel_rfl) ?_; simp only [List.take_succ_cons, List.take_zero, List.drop_succ_cons, List.drop_zero]; change wpStill _ _ (World.drew _) (fun a1 => wpList _ _ _ _ a1 (World.drew _)) _ _; repeat still_step
  refine wpStill_nil ?_
  clear ea eb ec a0 b0 c0 a1 b1 c1 A0 A1 A2 Al R0 Rf0 R1 Rf1 R2 Rf2 Rl
  have HRd := Lib.hid (HR.out.drew)
  refine wpList_store_mid rfl 26 _ _ rfl R 0 ([.slice qv a cv, .slice qu b cu, .slice qt c ct]).toArray rfl rfl HRd.out.free (by kernel_rfl) (by simp [Value.oneCell']) ?_
  have HR5 : Hid (Own R [.slice qv a cv, .slice qu b cu, .slice qt c ct] (W0.drew.setCells R 0 [.slice qv a cv, .slice qu b cu, .slice qt c ct])) := Lib.hid (Own.store HRd.out rfl)
  have HB5 : Below w.heap.size w (W0.drew.setCells R 0 [.slice qv a cv, .slice qu b cu, .slice qt c ct]) := Below.setCells hB0.drew Rw _ _
  change wpList _ _ _ [] _ (W0.drew.setCells R 0 [.slice qv a cv, .slice qu b cu, .slice qt c ct])
  generalize W0.drew.setCells R 0 [.slice qv a cv, .slice qu b cu, .slice qt c ct] = W5 at *
  go_wp2_with (fail)
  have hL := run_loadVar_mid (P := Try.prog) _ R 0 26 [.slice qv a cv, .slice qu b cu, .slice qt c ct] _ HR5.out.cell Try.underlying26 rfl (by kernel_rfl)
  exact bodyPost_ret (v := .agg ([.slice qv a cv, .slice qu b cu, .slice qt c ct] : List Value).toArray) (res_cell Try.results8 rfl hL) rfl ⟨rfl, HB5⟩
end Go.Proofs.Ytnopcgkhoennfaa
