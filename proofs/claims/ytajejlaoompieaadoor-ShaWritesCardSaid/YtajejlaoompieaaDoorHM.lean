/- sha.Sum; the sum of a Hash that New did not make. -/
import Derived.Test.YtajejlaoompieaaDoorHL
import Derived.Lib.Hide
import Derived.Deep.Onto
import Derived.Deep.WholeRow
namespace Go.Proofs.YtajejlaoompieaaDoor
set_option linter.unusedVariables false
set_option maxRecDepth 2000
set_option linter.unusedSimpArgs false
open Go.RowKit
theorem state_zero (g : Nat → Int) : hashC hC (fun _ => 0) 0 = stateH g 0 := by
  unfold stateH hashC
  have e2 : nums .u8 (fun _ => 0) 64 = nums .u8 (blkH g 0) 64 := nums_congr _ fun j hj => by
    unfold blkH
    rw [if_neg (by omega)]
  rw [e2]
  rfl
attribute [local go_sem] nums_length

set_option maxHeartbeats 4000000 in
theorem Sum_any (np cp : Nat) (P_ : Option Addr) (g : Nat → Int) (T : Nat → Nat) (hT0 : T 0 = 0) (hT : ∀ k, k ≤ np → T k ≤ 100000) (hnp : np ≤ cp) (hcp : cp ≤ 9223372036854775807) (hg : ∀ k, k ≤ np → ∀ j, j < T k → inB (g j)) (w : World) (hG : Has 0 0 (nums .u32 kC 64) w) (hH : Has 1 0 (nums .u32 hC 8) w) (hP : Parts w P_ np g T) :
    Calls Tryd.prog 17 #[.slice P_ np cp] w fun e w' => e = .returned (.agg (nums .u8 (sumF g (T np)) 32).toArray) ∧ Below w.heap.size w w' := by
  have HG := Lib.hid hG; have HH := Lib.hid hH; have HP := Lib.hid hP; have IG := Lib.hid hg; have HT := Lib.hid hT; have HT0 := Lib.hid hT0
  have HNP := Lib.hid hnp; have HCP := Lib.hid hcp
  clear hG hH hP hg hT hT0 hnp hcp
  go_enter Tryd.func17, Tryd.ntmps17
  go_upto_region 1 with fail
  obtain ⟨W0, hW⟩ : ∃ W0, W0 = (w.alloc (.cells #[.int .u8 0, .int .u8 0, .int .u8 0, .int .u8 0, .int .u8 0, .int .u8 0, .int .u8 0, .int .u8 0, .int .u8 0, .int .u8 0, .int .u8 0, .int .u8 0, .int .u8 0, .int .u8 0, .int .u8 0, .int .u8 0, .int .u8 0, .int .u8 0, .int .u8 0, .int .u8 0, .int .u8 0, .int .u8 0, .int .u8 0, .int .u8 0, .int .u8 0, .int .u8 0, .int .u8 0, .int .u8 0, .int .u8 0, .int .u8 0, .int .u8 0, .int .u8 0] 35)) := ⟨_, rfl⟩
  have hB0 : Below w.heap.size w W0 := hW ▸ (Below.al (Below.refl _ _))
  have HR : Hid (Own w.heap.size (nums .u8 (fun _ => 0) 32) W0) := Lib.hid (hW ▸ (show Own w.heap.size (nums .u8 (fun _ => 0) 32) (w.alloc (.cells #[.int .u8 0, .int .u8 0, .int .u8 0, .int .u8 0, .int .u8 0, .int .u8 0, .int .u8 0, .int .u8 0, .int .u8 0, .int .u8 0, .int .u8 0, .int .u8 0, .int .u8 0, .int .u8 0, .int .u8 0, .int .u8 0, .int .u8 0, .int .u8 0, .int .u8 0, .int .u8 0, .int .u8 0, .int .u8 0, .int .u8 0, .int .u8 0, .int .u8 0, .int .u8 0, .int .u8 0, .int .u8 0, .int .u8 0, .int .u8 0, .int .u8 0, .int .u8 0] 35)) from Own.newAt (by simp)))
  rw [← hW]
  clear hW
  obtain ⟨R, eR⟩ : ∃ X, X = w.heap.size := ⟨_, rfl⟩
  rw [← eR] at HR ⊢
  have Rw : w.heap.size ≤ R := by omega
  clear eR
  have HGk := Lib.hid (HG.out.later hB0)
  have HHk := Lib.hid (HH.out.later hB0)
  clear HG HH
  have HG := HGk
  clear HGk
  have HH := HHk
  clear HHk
  go_wp2_with (fail)
  go_at_call 23
  refine (New_any _ HH.out).mono ?_
  rintro e w1 ⟨K, rfl, hKw, hK, hb⟩
  have nKR : K ≠ R := by have := HR.out.lt; omega
  have nRK := Ne.symm nKR
  have nK0 : K ≠ 0 := by have := HG.out.lt; omega
  have n0K := Ne.symm nK0
  have PN := Lib.hid (HP.out.away (Below.go hB0 hb) (Nat.le_trans hB0.size hKw))
  have Kw : w.heap.size ≤ K := Nat.le_trans hB0.size hKw
  have HGk := Lib.hid (HG.out.later hb)
  have HRk := Lib.hid (HR.out.later hb)
  clear HG HR
  have HG := HGk
  clear HGk
  have HR := HRk
  clear HRk
  have hB1 := Lib.hid (Below.go hB0 hb)
  have HK := Lib.hid (show Own K (stateH g (T 0)) w1 by rw [HT0.out, ← state_zero]; exact hK)
  clear hB0 hb hK HH HP hKw
  have WC := Lib.hid (fun w h1 h2 h3 => Write_any K np cp P_ g T (fun k hk => Nat.le_trans (HT.out k hk) (by decide)) HNP.out HCP.out nK0 IG.out w h1 h2 h3)
  go_wp2_with (fail)
  go_at_call 24
  refine (WC.out _ HG.out HK.out PN.out).mono ?_
  rintro e w2 ⟨rfl, hK2, hbut⟩
  have HG2 := Lib.hid (HG.out.but hbut n0K)
  have HR2 := Lib.hid (HR.out.but hbut nRK)
  have HK2 := Lib.hid hK2
  have hB2 := Lib.hid (hB1.out.trans (hbut.below.mono Kw))
  have TN := Lib.hid (HT.out np (Nat.le_refl _))
  have IGN := Lib.hid (IG.out np (Nat.le_refl _))
  clear HG HR HK PN hK2 hbut hB1 WC IG HT
  obtain ⟨sf, esf⟩ : ∃ sf, sumF g (T np) = sf := ⟨_, rfl⟩
  have SC := Lib.hid (fun w h1 h2 => esf ▸ HSum_any K (T np) g TN.out IGN.out w h1 h2)
  have ES := Lib.hid esf
  clear esf
  go_wp2_with (fail)
  go_at_call 25
  refine (SC.out _ HG2.out HK2.out).mono ?_
  rintro e w3 ⟨rfl, hb⟩
  have HR2k := Lib.hid (HR2.out.later hb)
  clear HR2
  have HR2 := HR2k
  clear HR2k
  have hB3 := Below.go hB2.out hb
  have hst := store_nums (P := Tryd.prog) (n := 32) .u8 sf HR2.out rfl
  have HR3 := Lib.hid (Own.store (vs := nums .u8 sf 32) HR2.out rfl)
  have hB4 := Below.setCells hB3 Rw (nums .u8 sf 32) 0
  clear hB3 hb
  go_wp2_with (fail)
  rw [ES.out]
  have hL := run_loadVar_mid (P := Tryd.prog) _ R 0 35 (nums .u8 sf 32) _ HR3.out.cell Tryd.underlying35 rfl (by kernel_rfl)
  exact bodyPost_ret (v := .agg (nums .u8 sf 32).toArray) (res_cell Tryd.results17 rfl hL) rfl ⟨rfl, hB4⟩

theorem HSum_nil (w : World) : Calls Tryd.prog 25 #[.pointer none] w fun e w' => e = .returned (.agg (nums .u8 (fun _ => 0) 32).toArray) ∧ Below w.heap.size w w' := by
  go_enter Tryd.func25, Tryd.ntmps25
  go_upto_region 1 with fail
  obtain ⟨W0, hW⟩ : ∃ W0, W0 = (w.alloc (.cells #[.int .u8 0, .int .u8 0, .int .u8 0, .int .u8 0, .int .u8 0, .int .u8 0, .int .u8 0, .int .u8 0, .int .u8 0, .int .u8 0, .int .u8 0, .int .u8 0, .int .u8 0, .int .u8 0, .int .u8 0, .int .u8 0, .int .u8 0, .int .u8 0, .int .u8 0, .int .u8 0, .int .u8 0, .int .u8 0, .int .u8 0, .int .u8 0, .int .u8 0, .int .u8 0, .int .u8 0, .int .u8 0, .int .u8 0, .int .u8 0, .int .u8 0, .int .u8 0] 35)) := ⟨_, rfl⟩
  have hB0 : Below w.heap.size w W0 := hW ▸ (Below.al (Below.refl _ _))
  have HR : Hid (Own w.heap.size (nums .u8 (fun _ => 0) 32) W0) := Lib.hid (hW ▸ (show Own w.heap.size (nums .u8 (fun _ => 0) 32) (w.alloc (.cells #[.int .u8 0, .int .u8 0, .int .u8 0, .int .u8 0, .int .u8 0, .int .u8 0, .int .u8 0, .int .u8 0, .int .u8 0, .int .u8 0, .int .u8 0, .int .u8 0, .int .u8 0, .int .u8 0, .int .u8 0, .int .u8 0, .int .u8 0, .int .u8 0, .int .u8 0, .int .u8 0, .int .u8 0, .int .u8 0, .int .u8 0, .int .u8 0, .int .u8 0, .int .u8 0, .int .u8 0, .int .u8 0, .int .u8 0, .int .u8 0, .int .u8 0, .int .u8 0] 35)) from Own.newAt (by simp)))
  rw [← hW]
  clear hW
  obtain ⟨R, eR⟩ : ∃ X, X = w.heap.size := ⟨_, rfl⟩
  rw [← eR] at HR ⊢
  have Rw : w.heap.size ≤ R := by omega
  clear eR
  go_upto_region 2 with fail
  refine wp_region_lit ?_
  refine wpList_val rfl (.agg (nums .u8 (fun _ => 0) 32).toArray) (by kernel_rfl) ?_
  refine wpList_store_mid rfl 35 _ _ rfl R 0 (nums .u8 (fun _ => 0) 32).toArray rfl rfl HR.out.free (by kernel_rfl) (nums_all _ _ _) ?_
  change wpList _ _ _ [] _ (W0.setCells R 0 (nums .u8 (fun _ => 0) 32))
  have HR3 := Lib.hid (Own.store (vs := nums .u8 (fun _ => 0) 32) HR.out rfl)
  have hB4 := Below.setCells hB0 Rw (nums .u8 (fun _ => 0) 32) 0
  go_wp2_with (fail)
  have hL := run_loadVar_mid (P := Tryd.prog) _ R 0 35 (nums .u8 (fun _ => 0) 32) _ HR3.out.cell Tryd.underlying35 rfl (by kernel_rfl)
  exact bodyPost_ret (v := .agg (nums .u8 (fun _ => 0) 32).toArray) (res_cell Tryd.results25 rfl hL) rfl ⟨rfl, hB4⟩

theorem HSum_unmade (K : Nat) (w : World) (hK : w.cell? ⟨K, 73, none⟩ = some (.bool false)) : Calls Tryd.prog 25 #[.pointer (some ⟨K, 0, none⟩)] w fun e w' => e = .returned (.agg (nums .u8 (fun _ => 0) 32).toArray) ∧ Below w.heap.size w w' := by
  have Kl : K < w.heap.size := by
    rcases Nat.lt_or_ge K w.heap.size with h | h
    · exact h
    · simp [World.cell?, Array.getElem?_eq_none h] at hK
  have kK : Hid (∀ W, Below w.heap.size w W → W.cell? ⟨K, 73, none⟩ = some (.bool false)) := Lib.hid fun W hB => by rw [hB.cell (p := ⟨K, 73, none⟩) Kl]; exact hK
  have kL : Hid (∀ W, Below w.heap.size w W → K < W.heap.size) := Lib.hid fun W hB => Nat.lt_of_lt_of_le Kl hB.size
  clear hK Kl
  go_enter Tryd.func25, Tryd.ntmps25
  go_upto_region 1 with fail
  obtain ⟨W0, hW⟩ : ∃ W0, W0 = (w.alloc (.cells #[.int .u8 0, .int .u8 0, .int .u8 0, .int .u8 0, .int .u8 0, .int .u8 0, .int .u8 0, .int .u8 0, .int .u8 0, .int .u8 0, .int .u8 0, .int .u8 0, .int .u8 0, .int .u8 0, .int .u8 0, .int .u8 0, .int .u8 0, .int .u8 0, .int .u8 0, .int .u8 0, .int .u8 0, .int .u8 0, .int .u8 0, .int .u8 0, .int .u8 0, .int .u8 0, .int .u8 0, .int .u8 0, .int .u8 0, .int .u8 0, .int .u8 0, .int .u8 0] 35)) := ⟨_, rfl⟩
  have hB0 : Below w.heap.size w W0 := hW ▸ (Below.al (Below.refl _ _))
  have HR : Hid (Own w.heap.size (nums .u8 (fun _ => 0) 32) W0) := Lib.hid (hW ▸ (show Own w.heap.size (nums .u8 (fun _ => 0) 32) (w.alloc (.cells #[.int .u8 0, .int .u8 0, .int .u8 0, .int .u8 0, .int .u8 0, .int .u8 0, .int .u8 0, .int .u8 0, .int .u8 0, .int .u8 0, .int .u8 0, .int .u8 0, .int .u8 0, .int .u8 0, .int .u8 0, .int .u8 0, .int .u8 0, .int .u8 0, .int .u8 0, .int .u8 0, .int .u8 0, .int .u8 0, .int .u8 0, .int .u8 0, .int .u8 0, .int .u8 0, .int .u8 0, .int .u8 0, .int .u8 0, .int .u8 0, .int .u8 0, .int .u8 0] 35)) from Own.newAt (by simp)))
  rw [← hW]
  clear hW
  obtain ⟨R, eR⟩ : ∃ X, X = w.heap.size := ⟨_, rfl⟩
  rw [← eR] at HR ⊢
  have Rw : w.heap.size ≤ R := by omega
  clear eR
  have KK := kK.out _ hB0
  have Kl2 := kL.out _ hB0
  go_upto_region 2 with fail
  refine wp_region_lit ?_
  refine wpList_val rfl (.agg (nums .u8 (fun _ => 0) 32).toArray) (by kernel_rfl) ?_
  refine wpList_store_mid rfl 35 _ _ rfl R 0 (nums .u8 (fun _ => 0) 32).toArray rfl rfl HR.out.free (by kernel_rfl) (nums_all _ _ _) ?_
  change wpList _ _ _ [] _ (W0.setCells R 0 (nums .u8 (fun _ => 0) 32))
  have HR3 := Lib.hid (Own.store (vs := nums .u8 (fun _ => 0) 32) HR.out rfl)
  have hB4 := Below.setCells hB0 Rw (nums .u8 (fun _ => 0) 32) 0
  go_wp2_with (fail)
  have hL := run_loadVar_mid (P := Tryd.prog) _ R 0 35 (nums .u8 (fun _ => 0) 32) _ HR3.out.cell Tryd.underlying35 rfl (by kernel_rfl)
  exact bodyPost_ret (v := .agg (nums .u8 (fun _ => 0) 32).toArray) (res_cell Tryd.results25 rfl hL) rfl ⟨rfl, hB4⟩
end Go.Proofs.YtajejlaoompieaaDoor
