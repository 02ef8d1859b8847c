/- umbralaw08.works. -/
import Derived.Test.YtjkeaiihjbcfgaaDoorYEK
import Derived.Test.YtjkeaiihjbcfgaaDoorYNX
import Derived.Test.YtjkeaiihjbcfgaaDoorYCT
import Derived.Lib.Hide
import Derived.Deep.Onto
import Derived.Laws.OwnMore
import Derived.Great.BuildSlice
import Derived.Lib.SlBytesConst
namespace Go.Proofs.YtjkeaiihjbcfgaaDoor
set_option linter.unusedVariables false
set_option maxRecDepth 2000
set_option linter.unusedSimpArgs false
open Go.RowKit
theorem tab_in (l : List Int) (h : l.all (fun x => decide (0 ≤ x ∧ x < 256)) = true) (i : Nat) : inB (tabI l i) := inB_list l h i
attribute [local go_sem] nums_length

set_option maxHeartbeats 8000000 in
theorem works8_any (w : World) (hG : Has 0 0 GL w) : Calls Tryd.prog 14 #[] w fun e w' => e = .returned (.bool true) ∧ Below w.heap.size w w' := by
  have HG0 := Lib.hid hG
  have w0 : 0 < w.heap.size := hG.lt
  clear hG
  go_enter Tryd.func14, Tryd.ntmps14
  go_upto_region 2 with fail
  obtain ⟨W0, hW⟩ : ∃ W0, W0 = (w.alloc (.cells #[.int .u8 0, .int .u8 0, .int .u8 0, .int .u8 0, .int .u8 0, .int .u8 0, .int .u8 0, .int .u8 0, .int .u8 0, .int .u8 0, .int .u8 0, .int .u8 0, .int .u8 0, .int .u8 0, .int .u8 0, .int .u8 0, .int .u8 0, .int .u8 0, .int .u8 0, .int .u8 0, .int .u8 0, .int .u8 0, .int .u8 0, .int .u8 0, .int .u8 0, .int .u8 0, .int .u8 0, .int .u8 0, .int .u8 0, .int .u8 0, .int .u8 0, .int .u8 0] 22)) := ⟨_, rfl⟩
  have hB0 : Below w.heap.size w W0 := hW ▸ (Below.al (Below.refl _ _))
  have HY : Hid (Own w.heap.size (nums .u8 wz 32) W0) := Lib.hid (hW ▸ (show Own w.heap.size (nums .u8 wz 32) (w.alloc (.cells #[.int .u8 0, .int .u8 0, .int .u8 0, .int .u8 0, .int .u8 0, .int .u8 0, .int .u8 0, .int .u8 0, .int .u8 0, .int .u8 0, .int .u8 0, .int .u8 0, .int .u8 0, .int .u8 0, .int .u8 0, .int .u8 0, .int .u8 0, .int .u8 0, .int .u8 0, .int .u8 0, .int .u8 0, .int .u8 0, .int .u8 0, .int .u8 0, .int .u8 0, .int .u8 0, .int .u8 0, .int .u8 0, .int .u8 0, .int .u8 0, .int .u8 0, .int .u8 0] 22)) from Own.newAt (by simp)))
  rw [← hW]
  clear hW
  obtain ⟨Y, eY⟩ : ∃ X, X = w.heap.size := ⟨_, rfl⟩
  rw [← eY] at HY ⊢
  have Yw : w.heap.size ≤ Y := by omega
  clear eY
  have HG := Lib.hid (HG0.out.later hB0)
  clear HG0
  refine wp_region_lit ?_
  refine wpList_load_mid rfl 22 _ rfl Y 0 rfl (nums .u8 wz 32) _ HY.out.cell Tryd.underlying22 rfl (by kernel_rfl) ?_
  refine wpList_val rfl (.agg (nums .u8 wn 12).toArray) (by kernel_rfl) ?_
  refine wpList_slN rfl 26 5 1 _ rfl .u8 [97] wa Tryd.underlying26 (by kernel_rfl) (by kernel_rfl) rfl (by decide) (by decide) (by kernel_rfl) (by kernel_rfl) ?_
  refine wpList_conv rfl _ rfl rfl ?_
  obtain ⟨W1, hW⟩ : ∃ W, W = (W0.alloc (.cells (nums .u8 wa 1).toArray 5 ((nums .u8 wa 1).toArray.size, (nums .u8 wa 1).toArray.size + 1))) := ⟨_, rfl⟩
  have HA_ : Hid (Has W0.heap.size 0 (nums .u8 wa 1) W1) := Lib.hid (hW ▸ has_marked _ _ _ _)
  have hBx : Below W0.heap.size W0 W1 := hW ▸ Below.al (Below.refl _ _)
  rw [← hW]
  clear hW
  obtain ⟨A_, eA_⟩ : ∃ X, X = W0.heap.size := ⟨_, rfl⟩
  rw [← eA_] at HA_ ⊢
  clear eA_
  have HYk := Lib.hid (HY.out.later hBx)
  have HGk := Lib.hid (HG.out.later hBx)
  clear HY HG
  have HY := HYk
  clear HYk
  have HG := HGk
  clear HGk
  have hB1 := Below.go hB0 hBx
  clear hB0 hBx
  have hB0 := hB1
  clear hB1
  refine wpList_slN rfl 26 5 5 _ rfl .u8 [112, 108, 97, 105, 110] (tabI ptL) Tryd.underlying26 (by kernel_rfl) (by kernel_rfl) rfl (by decide) (by decide) (by kernel_rfl) (by kernel_rfl) ?_
  refine wpList_conv rfl _ rfl rfl ?_
  obtain ⟨W2, hW⟩ : ∃ W, W = (W1.alloc (.cells (nums .u8 (tabI ptL) 5).toArray 5 ((nums .u8 (tabI ptL) 5).toArray.size, (nums .u8 (tabI ptL) 5).toArray.size + 1))) := ⟨_, rfl⟩
  have HB_ : Hid (Has W1.heap.size 0 (nums .u8 (tabI ptL) 5) W2) := Lib.hid (hW ▸ has_marked _ _ _ _)
  have hBx : Below W1.heap.size W1 W2 := hW ▸ Below.al (Below.refl _ _)
  rw [← hW]
  clear hW
  obtain ⟨B_, eB_⟩ : ∃ X, X = W1.heap.size := ⟨_, rfl⟩
  rw [← eB_] at HB_ ⊢
  clear eB_
  have HYk := Lib.hid (HY.out.later hBx)
  have HGk := Lib.hid (HG.out.later hBx)
  have HA_k := Lib.hid (HA_.out.later hBx)
  clear HY HG HA_
  have HY := HYk
  clear HYk
  have HG := HGk
  clear HGk
  have HA_ := HA_k
  clear HA_k
  have hB1 := Below.go hB0 hBx
  clear hB0 hBx
  have hB0 := hB1
  clear hB1
  go_wp2_with (fail)
  go_at_call 15
  refine (Seal_any wz wn wa (tabI ptL) (some ⟨A_, 0, none⟩) (some ⟨B_, 0, none⟩) 1 5 1 5 (fun _ _ => by unfold wz inB; decide) (fun i _ => by unfold wn inB; split <;> decide) (fun _ _ => by unfold wa inB; decide) (fun i _ => tab_in ptL (by decide) i) (by decide) (by decide) (by decide) (by decide) (by decide) (by decide) _ HG.out (.inr ⟨A_, 0, rfl, HA_.out⟩) (.inr ⟨B_, 0, rfl, HB_.out⟩)).mono ?_
  rintro e w3 ⟨v3, rfl, hrow, hBx⟩
  rw [nums_congr (g := tabI sealL) .u8 seal_at] at hrow
  obtain ⟨X, c3, rfl, hX, hXl⟩ := row_blk hrow (by decide)
  have ROW := Lib.hid hrow
  have C3 := Lib.hid (row_cap_ hrow)
  clear hrow HA_ HB_
  have Xw : w.heap.size ≤ X := Nat.le_trans hB0.size hX
  have HY0lt : Y < X := Nat.lt_of_lt_of_le HY.out.lt hX
  clear hX hXl
  have HYk := Lib.hid (HY.out.later hBx)
  have HGk := Lib.hid (HG.out.later hBx)
  clear HY HG
  have HY := HYk
  clear HYk
  have HG := HGk
  clear HGk
  have hB1 := Below.go hB0 hBx
  clear hB0 hBx
  have hB0 := hB1
  clear hB1
  replace ROW : Hid (w3.ownsRow W2.heap.size 5 1 (.slice (some ⟨X, 0, none⟩) 21 c3) 21 (nums .u8 (tabI sealL) 21)) := ROW
  replace C3 : Hid (21 ≤ c3 ∧ c3 ≤ 9223372036854775807) := C3
  have OKK : Hid (∀ (i : Nat), i < 32 → inB (wz i)) := Lib.hid (fun _ _ => by unfold wz inB; decide)
  have OKN : Hid (∀ (i : Nat), i < 12 → inB (wn i)) := Lib.hid (fun i _ => by unfold wn inB; split <;> decide)
  have OKA : Hid (∀ (i : Nat), i < 1 → inB (wa i)) := Lib.hid (fun _ _ => by unfold wa inB; decide)
  go_upto_region 5 with fail
  refine wp_region_lit ?_
  refine wpList_load_mid rfl 22 _ rfl Y 0 rfl (nums .u8 wz 32) _ HY.out.cell Tryd.underlying22 rfl (by kernel_rfl) ?_
  refine wpList_val rfl (.agg (nums .u8 wn 12).toArray) (by kernel_rfl) ?_
  refine wpList_slN rfl 26 5 1 _ rfl .u8 [97] wa Tryd.underlying26 (by kernel_rfl) (by kernel_rfl) rfl (by decide) (by decide) (by kernel_rfl) (by kernel_rfl) ?_
  refine wpList_conv rfl _ rfl rfl ?_
  obtain ⟨W4, hW⟩ : ∃ W, W = (w3.alloc (.cells (nums .u8 wa 1).toArray 5 ((nums .u8 wa 1).toArray.size, (nums .u8 wa 1).toArray.size + 1))) := ⟨_, rfl⟩
  have HD_ : Hid (Has w3.heap.size 0 (nums .u8 wa 1) W4) := Lib.hid (hW ▸ has_marked _ _ _ _)
  have hBx : Below w3.heap.size w3 W4 := hW ▸ Below.al (Below.refl _ _)
  rw [← hW]
  clear hW
  obtain ⟨D_, eD_⟩ : ∃ X, X = w3.heap.size := ⟨_, rfl⟩
  rw [← eD_] at HD_ ⊢
  clear eD_
  have ROWk := Lib.hid (row_later ROW.out hBx)
  clear ROW
  have ROW := ROWk
  clear ROWk
  have HYk := Lib.hid (HY.out.later hBx)
  have HGk := Lib.hid (HG.out.later hBx)
  clear HY HG
  have HY := HYk
  clear HYk
  have HG := HGk
  clear HGk
  have hB1 := Below.go hB0 hBx
  clear hB0 hBx
  have hB0 := hB1
  clear hB1
  go_wp2_with (fail)
  go_at_call 18
  refine (Open_core wz wn wa (tabI sealL) (some ⟨D_, 0, none⟩) X 0 1 5 21 1 c3 rfl true z1 OKK.out OKN.out OKA.out (fun i _ => tab_in sealL (by decide) i) (by decide) (by decide) (by decide) C3.out.1 (by decide) C3.out.2 _ HG.out (.inr ⟨D_, 0, rfl, HD_.out⟩) (row_has' ROW.out).1).mono ?_
  rintro e w5 ⟨⟨v5, rfl, hrow⟩, hBx⟩
  rw [nums_congr (g := tabI ptL) .u8 enc2] at hrow
  obtain ⟨q5, c5, rfl, _⟩ := row_form hrow
  have BY5 : Hid (ByG w5 q5 5 (tabI ptL) W4.heap.size) := Lib.hid (row_byg (n := 5) (size := 1) hrow)
  have XW4 := (row_has' ROW.out).1.lt
  clear hrow HD_
  have ROWk := Lib.hid (row_later ROW.out hBx)
  clear ROW
  have ROW := ROWk
  clear ROWk
  have HYk := Lib.hid (HY.out.later hBx)
  have HGk := Lib.hid (HG.out.later hBx)
  clear HY HG
  have HY := HYk
  clear HYk
  have HG := HGk
  clear HGk
  have hB1 := Below.go hB0 hBx
  clear hB0 hBx
  have hB0 := hB1
  clear hB1
  have xc : w5.cell? ⟨X, 3, none⟩ = some (.int .u8 134) := (World.ownsRow.cellAt ROW.out 3 (by decide)).trans (nums_at .u8 (tabI sealL) (by decide))
  have xf : w5.frozen? ⟨X, 3, none⟩ = false := World.ownsRow.frozenAt ROW.out 3
  have Xl : X < w5.heap.size := (row_has' ROW.out).1.lt
  have c21 : (21 : Nat) ≤ c3 := C3.out.1
  have b4 : bits .xor .u8 134 4 = 130 := by decide
  have ROW6 : Hid ((w5.setCells X 3 [.int .u8 130]).ownsRow W2.heap.size 5 1 (.slice (some ⟨X, 0, none⟩) 21 c3) 21 (nums .u8 (tabI badL) 21)) := Lib.hid (by
    have h := World.ownsRow.stored ROW.out 3 (.int .u8 130)
    rw [nums_lset, nums_congr .u8 (bad_at 130 rfl)] at h
    exact h.1)
  have HY6 : Hid (Own Y (nums .u8 wz 32) (w5.setCells X 3 [.int .u8 130])) := Lib.hid (Own.far (o := 3) (vs := [.int .u8 130]) HY.out (by have := HY0lt; omega))
  have HG6 : Hid (Has 0 0 GL (w5.setCells X 3 [.int .u8 130])) := Lib.hid (Has.far (o := 3) (vs := [.int .u8 130]) HG.out (by omega))
  have BY6 : Hid (ByG (w5.setCells X 3 [.int .u8 130]) q5 5 (tabI ptL) W4.heap.size) := Lib.hid (ByG.far (o := 3) (vs := [.int .u8 130]) BY5.out XW4)
  have hB6 : Below w.heap.size w (w5.setCells X 3 [.int .u8 130]) := Below.setCells hB0 Xw [.int .u8 130] 3
  clear HY HG BY5 hB0 ROW
  go_upto_region 7 with fail
  change Code.wp _ _ _ _ (w5.setCells X 3 [.int .u8 130])
  clear xc xf
  generalize (w5.setCells X 3 [.int .u8 130]) = w6 at *
  have HY := HY6; have HG := HG6; have ROW := ROW6; have hB0 := hB6
  clear HY6 HG6 ROW6 hB6
  refine wp_region_lit ?_
  refine wpList_load_mid rfl 22 _ rfl Y 0 rfl (nums .u8 wz 32) _ HY.out.cell Tryd.underlying22 rfl (by kernel_rfl) ?_
  refine wpList_val rfl (.agg (nums .u8 wn 12).toArray) (by kernel_rfl) ?_
  refine wpList_slN rfl 26 5 1 _ rfl .u8 [97] wa Tryd.underlying26 (by kernel_rfl) (by kernel_rfl) rfl (by decide) (by decide) (by kernel_rfl) (by kernel_rfl) ?_
  refine wpList_conv rfl _ rfl rfl ?_
  obtain ⟨W7, hW⟩ : ∃ W, W = (w6.alloc (.cells (nums .u8 wa 1).toArray 5 ((nums .u8 wa 1).toArray.size, (nums .u8 wa 1).toArray.size + 1))) := ⟨_, rfl⟩
  have HE_ : Hid (Has w6.heap.size 0 (nums .u8 wa 1) W7) := Lib.hid (hW ▸ has_marked _ _ _ _)
  have hBx : Below w6.heap.size w6 W7 := hW ▸ Below.al (Below.refl _ _)
  rw [← hW]
  clear hW
  obtain ⟨E_, eE_⟩ : ∃ X, X = w6.heap.size := ⟨_, rfl⟩
  rw [← eE_] at HE_ ⊢
  clear eE_
  have BY7 := Lib.hid (BY6.out.later hBx)
  clear BY6
  have ROWk := Lib.hid (row_later ROW.out hBx)
  clear ROW
  have ROW := ROWk
  clear ROWk
  have HYk := Lib.hid (HY.out.later hBx)
  have HGk := Lib.hid (HG.out.later hBx)
  clear HY HG
  have HY := HYk
  clear HYk
  have HG := HGk
  clear HGk
  have hB1 := Below.go hB0 hBx
  clear hB0 hBx
  have hB0 := hB1
  clear hB1
  go_wp2_with (fail)
  go_at_call 18
  refine (Open_core wz wn wa (tabI badL) (some ⟨E_, 0, none⟩) X 0 1 5 21 1 c3 rfl false z2 OKK.out OKN.out OKA.out (fun i _ => tab_in badL (by decide) i) (by decide) (by decide) (by decide) C3.out.1 (by decide) C3.out.2 _ HG.out (.inr ⟨E_, 0, rfl, HE_.out⟩) (row_has' ROW.out).1).mono ?_
  rintro e w8 ⟨he, hBx⟩
  obtain rfl : e = .returned (.tuple #[.slice none 0 0, .int .i64 6]) := he
  have BY8 : Hid (Byt w8 q5 5 (tabI ptL)) := Lib.hid (by
    rcases BY7.out.later hBx with h | ⟨G, h1, _, h3⟩
    · exact .inl h
    · exact .inr ⟨G, 0, h1, h3⟩)
  clear HE_ ROW BY7 HY HG
  have hB1 := Below.go hB0 hBx
  clear hB0 hBx
  have cv := conv_any q5 5 c5 (tabI ptL) w8 BY8.out
  have sl5 : (strOfNums [tabI ptL 0, tabI ptL 1, tabI ptL 2, tabI ptL 3, tabI ptL 4]).toList = [112, 108, 97, 105, 110] := by decide +kernel
  go_wp2_with (fail)
  go_ret
  exact ⟨rfl, hB1⟩
end Go.Proofs.YtjkeaiihjbcfgaaDoor
