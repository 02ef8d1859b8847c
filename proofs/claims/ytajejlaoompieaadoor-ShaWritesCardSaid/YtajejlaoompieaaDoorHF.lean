/- The document's Compress. -/
import Derived.Test.YtajejlaoompieaaDoorHE
import Derived.Test.YtajejlaoompieaaDoorHU
import Derived.Lib.Hide
import Derived.Deep.Onto
import Derived.Great.BuildSlice
namespace Go.Proofs.YtajejlaoompieaaDoor
set_option linter.unusedVariables false
set_option maxRecDepth 2000
set_option linter.unusedSimpArgs false
open Go.RowKit
attribute [local go_sem] nums_length
set_option maxHeartbeats 8000000 in
theorem RCompress_any (hf bf : Nat → Int) (hh : ∀ j, j < 8 → in32 (hf j)) (hb : ∀ i, i < 64 → inB (bf i)) (w : World) : Calls Tryd.prog 15 #[(.agg (nums .u32 hf 8).toArray), (.agg (nums .u8 bf 64).toArray)] w fun e w' => e = .returned (.agg (nums .u32 (compF kC hf bf) 8).toArray) ∧ Below w.heap.size w w' := by
  have IH := Lib.hid hh; have IB := Lib.hid hb
  clear hb hh
  go_enter Tryd.func15, Tryd.ntmps15
  go_upto_region 1 with fail
  obtain ⟨W0, hW⟩ : ∃ W0, W0 = (((w.alloc (.cells (nums .u32 hf 8).toArray 28)).alloc (.cells (nums .u8 bf 64).toArray 29)).alloc (.cells #[.int .u32 0, .int .u32 0, .int .u32 0, .int .u32 0, .int .u32 0, .int .u32 0, .int .u32 0, .int .u32 0] 28)) := ⟨_, rfl⟩
  have hB0 : Below w.heap.size w W0 := hW ▸ (Below.al (Below.al (Below.al (Below.refl _ _))))
  have HH : Hid (Own w.heap.size (nums .u32 hf 8) W0) := Lib.hid (hW ▸ (show Own w.heap.size (nums .u32 hf 8) (w.alloc (.cells (nums .u32 hf 8).toArray 28)) from Own.newAt (by simp)).alloc.alloc)
  have HBk : Hid (Own (w.heap.size + 1) (nums .u8 bf 64) W0) := Lib.hid (hW ▸ (show Own (w.heap.size + 1) (nums .u8 bf 64) ((w.alloc (.cells (nums .u32 hf 8).toArray 28)).alloc (.cells (nums .u8 bf 64).toArray 29)) from Own.newAt (by simp)).alloc)
  have HR : Hid (Own ((w.heap.size + 1) + 1) (nums .u32 (fun _ => 0) 8) W0) := Lib.hid (hW ▸ (show Own ((w.heap.size + 1) + 1) (nums .u32 (fun _ => 0) 8) (((w.alloc (.cells (nums .u32 hf 8).toArray 28)).alloc (.cells (nums .u8 bf 64).toArray 29)).alloc (.cells #[.int .u32 0, .int .u32 0, .int .u32 0, .int .u32 0, .int .u32 0, .int .u32 0, .int .u32 0, .int .u32 0] 28)) from Own.newAt (by simp)))
  rw [← hW]
  clear hW
  obtain ⟨R, eR⟩ : ∃ X, X = ((w.heap.size + 1) + 1) := ⟨_, rfl⟩
  rw [← eR] at HR ⊢
  have Rw : w.heap.size ≤ R := by omega
  obtain ⟨B, eB⟩ : ∃ X, X = (w.heap.size + 1) := ⟨_, rfl⟩
  rw [← eB] at HBk ⊢
  have Bw : w.heap.size ≤ B := by omega
  obtain ⟨H, eH⟩ : ∃ X, X = w.heap.size := ⟨_, rfl⟩
  rw [← eH] at HH ⊢
  have Hw : w.heap.size ≤ H := by omega
  have nHB : H ≠ B := by omega
  have nBH : B ≠ H := by omega
  have nHR : H ≠ R := by omega
  have nRH : R ≠ H := by omega
  have nBR : B ≠ R := by omega
  have nRB : R ≠ B := by omega
  clear eH eB eR
  refine wp_region_lit ?_
  refine wpList_arrN rfl 32 27 64 _ rfl .u32 [1116352408, 1899447441, 3049323471, 3921009573, 961987163, 1508970993, 2453635748, 2870763221, 3624381080, 310598401, 607225278, 1426881987, 1925078388, 2162078206, 2614888103, 3248222580, 3835390401, 4022224774, 264347078, 604807628, 770255983, 1249150122, 1555081692, 1996064986, 2554220882, 2821834349, 2952996808, 3210313671, 3336571891, 3584528711, 113926993, 338241895, 666307205, 773529912, 1294757372, 1396182291, 1695183700, 1986661051, 2177026350, 2456956037, 2730485921, 2820302411, 3259730800, 3345764771, 3516065817, 3600352804, 4094571909, 275423344, 430227734, 506948616, 659060556, 883997877, 958139571, 1322822218, 1537002063, 1747873779, 1955562222, 2024104815, 2227730452, 2361852424, 2428436474, 2756734187, 3204031479, 3329325298] kC Tryd.underlying32 (by kernel_rfl) (by kernel_rfl) (by kernel_rfl) (by kernel_rfl) ?_
  refine wpList_load_mid rfl 28 _ rfl H 0 rfl (nums .u32 hf 8) _ HH.out.cell Tryd.underlying28 rfl (by kernel_rfl) ?_
  refine wpList_load_mid rfl 29 _ rfl B 0 rfl (nums .u8 bf 64) _ HBk.out.cell Tryd.underlying29 rfl (by kernel_rfl) ?_
  go_wp2_with (fail)
  go_at_call 18
  refine (By_any kC hf bf (fun i _ => in_kC i) IH.out IB.out _).mono ?_
  rintro e w1 ⟨rfl, hb⟩
  have HRk := Lib.hid (HR.out.later hb)
  clear HR
  have HR := HRk
  clear HRk
  have hB1 := Below.go hB0 hb
  clear hB0 hb
  obtain ⟨cf, ecf⟩ : ∃ cf, compF kC hf bf = cf := ⟨_, rfl⟩
  rw [ecf]
  have EC := Lib.hid ecf
  clear ecf
  have hst := store_nums (P := Tryd.prog) (n := 8) .u32 cf HR.out rfl
  have HR1 := Lib.hid (Own.store (vs := nums .u32 cf 8) HR.out rfl)
  have hB2 := Below.setCells hB1 Rw (nums .u32 cf 8) 0
  go_wp2_with (fail)
  rw [EC.out]
  have hL := run_loadVar_mid (P := Tryd.prog) _ R 0 28 (nums .u32 cf 8) _ HR1.out.cell Tryd.underlying28 rfl (by kernel_rfl)
  exact bodyPost_ret (v := .agg (nums .u32 cf 8).toArray) (res_cell Tryd.results15 rfl hL) rfl ⟨rfl, hB2⟩
end Go.Proofs.YtajejlaoompieaaDoor
