/- umbraref08.Mac. -/
import Derived.Test.YtjkeaiihjbcfgaaDoorYEF
import Derived.Test.YtjkeaiihjbcfgaaDoorYNR
import Derived.Lib.Hide
import Derived.Deep.Onto
import Derived.Laws.OwnMore
namespace Go.Proofs.YtjkeaiihjbcfgaaDoor
set_option linter.unusedVariables false
set_option maxRecDepth 2000
set_option linter.unusedSimpArgs false
open Go.RowKit
theorem layA (f : Nat → Int) (n : Nat) (g : Nat → Int) (m : Nat) : nums .u8 (fillF f n) (n + padN n) ++ nums .u8 (fillF g m) (m + padN m) = nums .u8 (layF f n g m) (n + padN n + (m + padN m)) := by
  rw [nums_congr (f := fillF f n) (g := layF f n g m) .u8 (fun j hj => by unfold layF; rw [if_pos hj])]
  exact nums_append .u8 _ _ _ _ (fun j hj => by unfold layF; rw [if_neg (by omega), if_pos (by omega), Nat.add_sub_cancel_left])
theorem layB (f : Nat → Int) (n : Nat) (g : Nat → Int) (m : Nat) : nums .u8 (layF f n g m) (n + padN n + (m + padN m)) ++ nums .u8 (lenB n) 8 = nums .u8 (layF f n g m) (n + padN n + (m + padN m) + 8) :=
  nums_append .u8 _ _ _ _ (fun j hj => by rw [lay4]; unfold lenF; rw [if_pos hj]; rfl)
theorem layC (f : Nat → Int) (n : Nat) (g : Nat → Int) (m : Nat) : nums .u8 (layF f n g m) (n + padN n + (m + padN m) + 8) ++ nums .u8 (lenB m) 8 = nums .u8 (layF f n g m) (n + padN n + (m + padN m) + 8 + 8) :=
  nums_append .u8 _ _ _ _ (fun j hj => by rw [Nat.add_assoc _ 8 j, lay4]; unfold lenF; rw [if_neg (by omega), Nat.add_sub_cancel_left]; rfl)
attribute [local go_sem] nums_length

set_option maxHeartbeats 4000000 in
theorem RMac_any (kf nf f g : Nat → Int) (p q : Option Addr) (n m c d : Nat) (hk : ∀ i, i < 32 → inB (kf i)) (hn : ∀ i, i < 12 → inB (nf i)) (hf : ∀ i, i < n → inB (f i)) (hg : ∀ i, i < m → inB (g i)) (hn4 : n ≤ 16384) (hm4 : m ≤ 16384)
    (w : World) (hp : Byt w p n f) (hq : Byt w q m g) :
    Calls Tryd.prog 13 #[(.agg (nums .u8 kf 32).toArray), (.agg (nums .u8 nf 12).toArray), .slice p n c, .slice q m d] w fun e w' => e = .returned (.agg (nums .u8 (macF kf nf f n g m) 16).toArray) ∧ Below w.heap.size w w' := by
  have FK := Lib.hid hk; have FN := Lib.hid hn; have HF := Lib.hid hf; have HGF := Lib.hid hg; have HN := Lib.hid hn4; have HM := Lib.hid hm4
  have HP := Lib.hid hp; have HQ := Lib.hid hq
  have PN := Lib.hid (padN_lt n); have PM := Lib.hid (padN_lt m)
  clear hk hn hf hg hn4 hm4 hp hq
  go_enter Tryd.func13, Tryd.ntmps13
  go_upto_region 1 with fail
  obtain ⟨W0, hW⟩ : ∃ W0, W0 = (((w.alloc (.cells (nums .u8 kf 32).toArray 22)).alloc (.cells (nums .u8 nf 12).toArray 23)).alloc (.cells #[.int .u8 0, .int .u8 0, .int .u8 0, .int .u8 0, .int .u8 0, .int .u8 0, .int .u8 0, .int .u8 0, .int .u8 0, .int .u8 0, .int .u8 0, .int .u8 0, .int .u8 0, .int .u8 0, .int .u8 0, .int .u8 0] 29)) := ⟨_, rfl⟩
  have hB0 : Below w.heap.size w W0 := hW ▸ (Below.al (Below.al (Below.al (Below.refl _ _))))
  have HY : Hid (Own w.heap.size (nums .u8 kf 32) W0) := Lib.hid (hW ▸ (show Own w.heap.size (nums .u8 kf 32) (w.alloc (.cells (nums .u8 kf 32).toArray 22)) from Own.newAt (by simp)).alloc.alloc)
  have HM_ : Hid (Own (w.heap.size + 1) (nums .u8 nf 12) W0) := Lib.hid (hW ▸ (show Own (w.heap.size + 1) (nums .u8 nf 12) ((w.alloc (.cells (nums .u8 kf 32).toArray 22)).alloc (.cells (nums .u8 nf 12).toArray 23)) from Own.newAt (by simp)).alloc)
  have HR : Hid (Own ((w.heap.size + 1) + 1) (nums .u8 (fun _ => 0) 16) W0) := Lib.hid (hW ▸ (show Own ((w.heap.size + 1) + 1) (nums .u8 (fun _ => 0) 16) (((w.alloc (.cells (nums .u8 kf 32).toArray 22)).alloc (.cells (nums .u8 nf 12).toArray 23)).alloc (.cells #[.int .u8 0, .int .u8 0, .int .u8 0, .int .u8 0, .int .u8 0, .int .u8 0, .int .u8 0, .int .u8 0, .int .u8 0, .int .u8 0, .int .u8 0, .int .u8 0, .int .u8 0, .int .u8 0, .int .u8 0, .int .u8 0] 29)) from Own.newAt (by simp)))
  rw [← hW]
  clear hW
  obtain ⟨R, eR⟩ : ∃ X, X = ((w.heap.size + 1) + 1) := ⟨_, rfl⟩
  rw [← eR] at HR ⊢
  have Rw : w.heap.size ≤ R := by omega
  obtain ⟨M, eM⟩ : ∃ X, X = (w.heap.size + 1) := ⟨_, rfl⟩
  rw [← eM] at HM_ ⊢
  have Mw : w.heap.size ≤ M := by omega
  obtain ⟨Y, eY⟩ : ∃ X, X = w.heap.size := ⟨_, rfl⟩
  rw [← eY] at HY ⊢
  have Yw : w.heap.size ≤ Y := by omega
  have nYM : Y ≠ M := by omega
  have nMY : M ≠ Y := by omega
  have nYR : Y ≠ R := by omega
  have nRY : R ≠ Y := by omega
  have nMR : M ≠ R := by omega
  have nRM : R ≠ M := by omega
  clear eY eM eR
  have HPk := Lib.hid (HP.out.later hB0); have HQk := Lib.hid (HQ.out.later hB0)
  clear HP HQ
  have HP := HPk; have HQ := HQk
  clear HPk HQk
  go_wp2_with (fail)
  go_at_call 26
  refine (filled_any p n c f (by have := HN.out; omega) _ HP.out).mono ?_
  rintro e w1 ⟨v1, rfl, hrow, hb⟩
  obtain ⟨q1, c1, rfl, h1⟩ := row_form hrow
  have ROW : Hid (w1.ownsRow W0.heap.size 5 1 (.slice q1 (n + padN n) c1) (n + padN n) (nums .u8 (fillF f n) (n + padN n))) := Lib.hid hrow
  have HB := Lib.hid hb
  clear hrow hb h1
  go_wp2_with (fail)
  go_at_call 26
  refine (filled_any q m d g (by have := HM.out; omega) _ (HQ.out.later HB.out)).mono ?_
  rintro e w2 ⟨v2, rfl, hrow, hb⟩
  obtain ⟨q2, c2, rfl, h2⟩ := row_form hrow
  have H2 := Lib.hid (byt_row hrow).2
  have ROWk := Lib.hid (row_later ROW.out hb)
  have HBk := Lib.hid (Below.go HB.out hb)
  clear hrow hb h2 ROW HB
  have HL1 := Lib.hid (show n + padN n + (m + padN m) ≤ 140737488355328 by have := HN.out; have := HM.out; have := PN.out; have := PM.out; omega)
  go_wp2_with (at_builtin; refine wpList_append_b rfl _ _ rfl W0.heap.size _ (n + padN n) (nums .u8 (fillF f n) (n + padN n)) rfl ROWk.out q2 (m + padN m) c2 (fillF g m) rfl H2.out HL1.out HBk.out.size ?_; intro v' w3 hrow hgr; obtain ⟨p3, c3, rfl, _⟩ := row_form hrow; rw [layA] at hrow; have HB3 := Lib.hid (HBk.out.grown hgr HBk.out.size (fun k hk => row_ge ROWk.out k hk)); have ROW3 := Lib.hid hrow; clear hrow hgr ROWk HBk H2)
  go_at_call 27
  refine (length_any n (by have := HN.out; omega) _).mono ?_
  rintro e w4 ⟨v4, rfl, hrow, hb⟩
  obtain ⟨q4, c4, rfl, h4⟩ := row_form hrow
  have H4 := Lib.hid (byt_row hrow).2
  have ROW4 := Lib.hid (row_later ROW3.out hb)
  have HB4 := Lib.hid (Below.go HB3.out hb)
  clear hrow hb h4 ROW3 HB3
  have HL2 := Lib.hid (show n + padN n + (m + padN m) + 8 ≤ 140737488355328 by have := HN.out; have := HM.out; have := PN.out; have := PM.out; omega)
  obtain ⟨P_, eP⟩ : ∃ x, n + padN n + (m + padN m) = x := ⟨_, rfl⟩
  have EP := Lib.hid eP
  rw [eP] at ROW4 HL2 ⊢
  clear eP HL1
  go_upto_region 3 with (at_builtin; refine wpList_append_b rfl _ _ rfl W0.heap.size _ P_ (nums .u8 (layF f n g m) P_) rfl ROW4.out q4 8 c4 (lenB n) rfl H4.out HL2.out HB4.out.size ?_; intro v' w5 hrow hgr; obtain ⟨p5, c5, rfl, _⟩ := row_form hrow; rw [← EP.out, layB, EP.out] at hrow; have HB5 := Lib.hid (HB4.out.grown hgr HB4.out.size (fun k hk => row_ge ROW4.out k hk)); have ROW5 := Lib.hid hrow; clear hrow hgr ROW4 HB4 H4)
  obtain ⟨Q_, eQ⟩ : ∃ x, P_ + 8 = x := ⟨_, rfl⟩
  have EQ := Lib.hid eQ
  clear eQ
  refine wp_region_lit ?_
  have HY5 := Lib.hid (HY.out.later HB5.out); have HM5 := Lib.hid (HM_.out.later HB5.out)
  refine wpList_load_mid rfl 22 _ rfl Y 0 rfl (nums .u8 kf 32) _ HY5.out.cell Tryd.underlying22 rfl (by kernel_rfl) ?_
  refine wpList_load_mid rfl 23 _ rfl M 0 rfl (nums .u8 nf 12) _ HM5.out.cell Tryd.underlying23 rfl (by kernel_rfl) ?_
  go_wp2_with (fail)
  go_at_call 11
  refine (RKey_any kf nf FK.out FN.out _).mono ?_
  rintro e w6 ⟨rfl, hb⟩
  have ROW6 := Lib.hid (row_later ROW5.out hb)
  have HB6 := Lib.hid (Below.go HB5.out hb)
  clear hb ROW5 HB5 HY5 HM5 HY HM_
  go_wp2_with (fail)
  go_at_call 27
  refine (length_any m (by have := HM.out; omega) _).mono ?_
  rintro e w7 ⟨v7, rfl, hrow, hb⟩
  obtain ⟨q7, c7, rfl, h7⟩ := row_form hrow
  have H7 := Lib.hid (byt_row hrow).2
  have ROW7 := Lib.hid (row_later ROW6.out hb)
  have HB7 := Lib.hid (Below.go HB6.out hb)
  clear hrow hb h7 ROW6 HB6
  have HL3 := Lib.hid (show P_ + 8 + 8 ≤ 140737488355328 by have := HN.out; have := HM.out; have := PN.out; have := PM.out; have := EP.out; omega)
  have LAYC := Lib.hid (layC f n g m)
  rw [EP.out] at LAYC
  go_wp2_with (at_builtin; refine wpList_append_b rfl _ _ rfl W0.heap.size _ (P_ + 8) (nums .u8 (layF f n g m) (P_ + 8)) rfl ROW7.out q7 8 c7 (lenB m) rfl H7.out HL3.out HB7.out.size ?_; intro v' w8 hrow hgr; obtain ⟨p8, c8, rfl, h8⟩ := row_form hrow; rw [LAYC.out] at hrow; have HB8 := Lib.hid (HB7.out.grown hgr HB7.out.size (fun k hk => row_ge ROW7.out k hk)); have HC8 := Lib.hid (row_cap_ hrow); have H8 : Hid (Byt w8 p8 (P_ + 8 + 8) (layF f n g m)) := Lib.hid (byt_row hrow).2; clear hrow hgr ROW7 HB7 H7 h8)
  have LL : Hid (P_ + 8 + 8 = layL n m) := Lib.hid (by rw [← EP.out]; rfl)
  obtain ⟨N_, eN⟩ : ∃ x, P_ + 8 + 8 = x := ⟨_, rfl⟩
  rw [eN] at HC8 H8 LL HL3 ⊢
  clear eN
  go_at_call 28
  refine (RTag_any (blkF kf 0 nf) (layF f n g m) p8 N_ c8 (fun i _ => in_blkF kf 0 nf i) (fun i _ => in_layF HF.out HGF.out i) (by rw [LL.out]; exact layT_le n m 5 HN.out HM.out) HC8.out.1 HC8.out.2 _ H8.out).mono ?_
  rintro e w9 ⟨rfl, hb⟩
  have HB9 := Below.go HB8.out hb
  have HR9 := Lib.hid (HR.out.later HB9)
  have hB9 := Below.go hB0 HB9
  clear hb HB8 H8 HB9 HR hB0
  obtain ⟨T_, eT⟩ : ∃ x, byt (tagN (blkF kf 0 nf) (layF f n g m) N_) = x := ⟨_, rfl⟩
  rw [eT]
  have ET : Hid (macF kf nf f n g m = T_) := Lib.hid (by rw [← eT, LL.out]; rfl)
  clear eT
  have hst := store_nums (P := Tryd.prog) (n := 16) .u8 T_ HR9.out rfl
  have HR1 := Lib.hid (Own.store (vs := nums .u8 T_ 16) HR9.out rfl)
  have hB2 := Below.setCells hB9 Rw (nums .u8 T_ 16) 0
  go_wp2_with (fail)
  have hL := run_loadVar_mid (P := Tryd.prog) _ R 0 29 (nums .u8 T_ 16) _ HR1.out.cell Tryd.underlying29 rfl (by kernel_rfl)
  exact bodyPost_ret (v := .agg (nums .u8 T_ 16).toArray) (res_cell Tryd.results13 rfl hL) rfl ⟨by rw [ET.out], hB2⟩
end Go.Proofs.YtjkeaiihjbcfgaaDoor
