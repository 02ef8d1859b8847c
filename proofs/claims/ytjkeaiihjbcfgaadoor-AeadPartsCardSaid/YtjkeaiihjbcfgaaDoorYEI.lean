/- umbraref08.Seal, Open. -/
import Derived.Test.YtjkeaiihjbcfgaaDoorYEH
import Derived.Test.YtjkeaiihjbcfgaaDoorYEG
import Derived.Test.YtjkeaiihjbcfgaaDoorYCS
import Derived.Lib.Hide
import Derived.Deep.Onto
import Derived.Laws.OwnMore
import Derived.Deep.QuietTactic
import Derived.LoopN
import Derived.LoopTactic
namespace Go.Proofs.YtjkeaiihjbcfgaaDoor
set_option linter.unusedVariables false
set_option maxRecDepth 2000
set_option linter.unusedSimpArgs false
open Go.RowKit
theorem heap_old_ (w : World) (o : Obj) {r : Nat} (h : r < w.heap.size) : (w.alloc o).heap[r]? = w.heap[r]? := by
  simp only [World.alloc]
  rw [Array.getElem?_push, if_neg (by omega)]
theorem RXor_own (kf nf : Nat → Int) (q : Option Addr) (N cq : Nat) (g : Nat → Int) (hN : N ≤ 65536) (hk : ∀ i, i < 32 → inB (kf i)) (hn : ∀ i, i < 12 → inB (nf i)) (w : World) (hp : Byt w q N g) :
    Calls Tryd.prog 30 #[(.agg (nums .u8 kf 32).toArray), .int .u32 1, (.agg (nums .u8 nf 12).toArray), .slice q N cq] w fun e w' => ∃ v, e = .returned v ∧ w'.ownsRow w.heap.size 5 1 v N (nums .u8 (encF kf nf g) N) ∧ Below w.heap.size w w' :=
  (RXor_any kf nf 1 q N cq g hN hk hn (by unfold in32; decide) w hp).mono fun _ _ h => h
theorem RXor_row (kf nf : Nat → Int) (q : Option Addr) (N cq : Nat) (g : Nat → Int) (hN : N ≤ 65536) (hk : ∀ i, i < 32 → inB (kf i)) (hn : ∀ i, i < 12 → inB (nf i)) (w : World) (hp : Byt w q N g) :
    Calls Tryd.prog 30 #[(.agg (nums .u8 kf 32).toArray), .int .u32 1, (.agg (nums .u8 nf 12).toArray), .slice q N cq] w fun e w' => ∃ v, e = .returned v ∧ RowR w' v N (encF kf nf g) ∧ Below w.heap.size w w' :=
  (RXor_own kf nf q N cq g hN hk hn w hp).mono fun _ _ ⟨v, h1, h2, h3⟩ => ⟨v, h1, RowR.of h2, h3⟩
attribute [local go_sem] nums_length st16b
attribute [local go_sem ↓ high] sliced_head sliced_one

set_option maxHeartbeats 4000000 in
theorem RSeal_any (kf nf f g : Nat → Int) (p q : Option Addr) (n m c d : Nat) (hk : ∀ i, i < 32 → inB (kf i)) (hn : ∀ i, i < 12 → inB (nf i)) (hf : ∀ i, i < n → inB (f i)) (hg : ∀ i, i < m → inB (g i)) (hn4 : n ≤ 16384) (hm4 : m ≤ 16384)
    (w : World) (hp : Byt w p n f) (hq : Byt w q m g) :
    Calls Tryd.prog 16 #[(.agg (nums .u8 kf 32).toArray), (.agg (nums .u8 nf 12).toArray), .slice p n c, .slice q m d] w fun e w' => ∃ v, e = .returned (.tuple #[v, .int .i64 0]) ∧ w'.ownsRow w.heap.size 5 1 v (m + 16) (nums .u8 (sealF kf nf f n g m) (m + 16)) ∧ Below w.heap.size w w' := by
  have g1 : decide (16384 < n) = false := by simp; omega
  have g2 : decide (16384 < m) = false := by simp; omega
  have g3 : decide ((16384 : Int) < (n : Int)) = false := by simp; omega
  have g4 : decide ((16384 : Int) < (m : Int)) = false := by simp; omega
  obtain ⟨i0, hi, hz0, hz1, hz2⟩ := infoB_parts
  have FK := Lib.hid hk; have FN := Lib.hid hn; have HF := Lib.hid hf; have HGF := Lib.hid hg; have HN := Lib.hid hn4; have HM := Lib.hid hm4; have HP := Lib.hid hp; have HQ := Lib.hid hq
  clear hk hn hf hg hn4 hm4 hp hq
  go_enter Tryd.func16, Tryd.ntmps16
  go_upto_region 1 with fail
  obtain ⟨W0, hW⟩ : ∃ W0, W0 = ((w.alloc (.cells (nums .u8 kf 32).toArray 22)).alloc (.cells (nums .u8 nf 12).toArray 23)) := ⟨_, rfl⟩
  have hB0 : Below w.heap.size w W0 := hW ▸ (Below.al (Below.al (Below.refl _ _)))
  have HY : Hid (Own w.heap.size (nums .u8 kf 32) W0) := Lib.hid (hW ▸ (show Own w.heap.size (nums .u8 kf 32) (w.alloc (.cells (nums .u8 kf 32).toArray 22)) from Own.newAt (by simp)).alloc)
  have HM_ : Hid (Own (w.heap.size + 1) (nums .u8 nf 12) W0) := Lib.hid (hW ▸ (show Own (w.heap.size + 1) (nums .u8 nf 12) ((w.alloc (.cells (nums .u8 kf 32).toArray 22)).alloc (.cells (nums .u8 nf 12).toArray 23)) from Own.newAt (by simp)))
  rw [← hW]
  clear hW
  obtain ⟨M, eM⟩ : ∃ X, X = (w.heap.size + 1) := ⟨_, rfl⟩
  rw [← eM] at HM_ ⊢
  have Mw : w.heap.size ≤ M := by omega
  obtain ⟨Y, eY⟩ : ∃ X, X = w.heap.size := ⟨_, rfl⟩
  rw [← eY] at HY ⊢
  have Yw : w.heap.size ≤ Y := by omega
  have nYM : Y ≠ M := by omega
  have nMY : M ≠ Y := by omega
  clear eY eM
  have HPk := Lib.hid (HP.out.later hB0); have HQk := Lib.hid (HQ.out.later hB0)
  clear HP HQ
  have HP := HPk; have HQ := HQk
  clear HPk HQk
  go_upto_region 3 with fail
  refine wp_region_lit ?_
  refine wpList_load_mid rfl 22 _ rfl Y 0 rfl (nums .u8 kf 32) _ HY.out.cell Tryd.underlying22 rfl (by kernel_rfl) ?_
  refine wpList_load_mid rfl 23 _ rfl M 0 rfl (nums .u8 nf 12) _ HM_.out.cell Tryd.underlying23 rfl (by kernel_rfl) ?_
  go_wp2_with (fail)
  go_at_call 30
  refine (RXor_own kf nf q m d g (by have := HM.out; omega) FK.out FN.out _ HQ.out).mono ?_
  rintro e w3 ⟨v3, rfl, hrow, hb⟩
  obtain ⟨q3, c3, rfl, h3⟩ := row_form hrow
  have ROW : Hid (w3.ownsRow w.heap.size 5 1 (.slice q3 m c3) m (nums .u8 (encF kf nf g) m)) := Lib.hid (hrow.mono hB0.size)
  have HE := Lib.hid (byt_row hrow).2
  clear hrow h3 HQ
  have HYk := Lib.hid (HY.out.later hb)
  have HM_k := Lib.hid (HM_.out.later hb)
  have HPk := Lib.hid (HP.out.later hb)
  clear HY HM_ HP
  have HY := HYk
  clear HYk
  have HM_ := HM_k
  clear HM_k
  have HP := HPk
  clear HPk
  have hB1 := Below.go hB0 hb
  clear hB0 hb
  have hB0 := hB1
  clear hB1
  go_upto_region 4 with fail
  refine wp_region_lit ?_
  refine wpList_load_mid rfl 22 _ rfl Y 0 rfl (nums .u8 kf 32) _ HY.out.cell Tryd.underlying22 rfl (by kernel_rfl) ?_
  refine wpList_load_mid rfl 23 _ rfl M 0 rfl (nums .u8 nf 12) _ HM_.out.cell Tryd.underlying23 rfl (by kernel_rfl) ?_
  go_wp2_with (fail)
  go_at_call 13
  refine (RMac_any kf nf f (encF kf nf g) p q3 n m c c3 FK.out FN.out HF.out (in_encF HGF.out) HN.out HM.out _ HP.out HE.out).mono ?_
  rintro e w4 ⟨rfl, hb⟩
  have ROW4 := Lib.hid (row_later ROW.out hb)
  clear HY HM_ HE HP ROW
  have hB1 := Below.go hB0 hb
  clear hB0 hb
  obtain ⟨T_, eT⟩ : ∃ x, macF kf nf f n (encF kf nf g) m = x := ⟨_, rfl⟩
  have ET := Lib.hid eT
  rw [eT]
  clear eT
  go_upto_region 5 with fail
  obtain ⟨W5, hW⟩ : ∃ W, W = (w4.alloc (.cells (nums .u8 T_ 16).toArray 29)) := ⟨_, rfl⟩
  have HT : Hid (Own w4.heap.size (nums .u8 T_ 16) W5) := Lib.hid (hW ▸ (show Own w4.heap.size (nums .u8 T_ 16) (w4.alloc (.cells (nums .u8 T_ 16).toArray 29)) from Own.newAt (by simp)))
  have HTT : Hid (W5.heap[w4.heap.size]? = some (.cells (nums .u8 T_ 16).toArray 29 (0, 0))) := Lib.hid (hW ▸ heap_alloc_new w4 _)
  have hb : Below w4.heap.size w4 W5 := hW ▸ Below.al (Below.refl _ _)
  rw [← hW]
  clear hW
  have ROW5 := Lib.hid (row_later ROW4.out hb)
  have hB2 := Lib.hid (Below.go hB1 hb)
  clear hB1 hb ROW4
  obtain ⟨B_, eB⟩ : ∃ X, X = w4.heap.size := ⟨_, rfl⟩
  rw [← eB] at HT HTT ⊢
  clear eB HT
  go_wp2_with (fail)
  go_loopw [10, 12] (fun v iv wr => ∃ (i : Nat) (p3 : Option Addr) (c3 : Nat), i ≤ 16 ∧ v = .slice p3 (m + i) c3 ∧ iv = .int .i64 i ∧ Hid (wr.ownsRow w.heap.size 5 1 (.slice p3 (m + i) c3) (m + i) (nums .u8 (sealF kf nf f n g m) (m + i))) ∧ Hid (Below w.heap.size w wr) ∧ Hid (wr.heap[B_]? = some (.cells (nums .u8 T_ 16).toArray 29 (0, 0)))) (fun _ iv _ => (16 - (intOf iv).toNat))
  case atStart => exact ⟨0, q3, c3, Nat.zero_le _, rfl, rfl, Lib.hid (by rw [Nat.add_zero, nums_congr (f := sealF kf nf f n g m) (g := encF kf nf g) .u8 (fun j hj => by unfold sealF; rw [if_pos hj])]; exact ROW5.out), hB2, HTT⟩
  case round =>
    clear ROW5 hB2 HTT
    obtain ⟨i, p4, c4, hi6, rfl, rfl, ROW, HB, HTT⟩ := hrel
    by_cases hlt : i < 16
    · have i0' : (0 : Int) ≤ (i : Int) := by omega
      have i1' : (i : Int) < 16 := by omega
      have wi : IntKind.i64.wrap ((i : Int) + 1) = (i : Int) + 1 := IntWalk.i64_in _ (by omega)
      obtain ⟨z, ez⟩ : ∃ z, T_ i = z := ⟨_, rfl⟩
      have BC : wr.cell? ⟨B_, i, none⟩ = some (.int .u8 z) := by
        rw [← ez]
        have h := HTT.out
        have h2 := nums_at .u8 T_ hlt
        simp only [World.cell?, h, List.getElem?_toArray, h2]
        rfl
      have Bl : B_ < wr.heap.size := by
        have := HTT.out
        exact (Array.getElem?_eq_some_iff.1 this).1
      obtain ⟨t, et⟩ : ∃ t, m + i = t := ⟨_, rfl⟩
      have XS : Hid (nums .u8 (sealF kf nf f n g m) t ++ [.int .u8 z] = nums .u8 (sealF kf nf f n g m) (t + 1)) := Lib.hid (nums_append .u8 (sealF kf nf f n g m) (fun _ => z) t 1 (fun j hj => by
        obtain rfl : j = 0 := by omega
        rw [Nat.add_zero, ← et, ← ez, ← ET.out]
        unfold sealF
        rw [if_neg (by omega), Nat.add_sub_cancel_left]))
      have ET2 := Lib.hid et
      have N63 := Lib.hid (show t + 1 ≤ maxLen by have := HM.out; unfold maxLen; omega)
      have NBY := Lib.hid (show (t + 1) * 1 ≤ 140737488355328 by have := HM.out; omega)
      have HS2 : Hid (w.heap.size ≤ (wr.alloc (.cells #[.int .u8 z] 5)).heap.size) := Lib.hid (Below.al HB.out).size
      have NE : Hid ((Value.slice p4 t c4).ownBlock ≠ some B_) := Lib.hid (by rw [← et]; exact tag_ne HTT.out ROW.out (by decide))
      rw [et] at ROW ⊢
      clear et ez hi6
      go_wp2_with (at_builtin; refine wpList_append_own _ rfl _ _ 26 rfl w.heap.size 5 i0 (.int .u8 0) 1 1 Tryd.underlying26 hi hz0 hz1 hz2 rfl (by decide) _ (t) _ rfl (row_later ROW.out (Below.al (Below.refl _ _))) ⟨wr.heap.size, 0, none⟩ 1 1 [.int .u8 z] rfl rfl (Own.newAt (by rfl)).news (by intro v hv; cases hv with | head => rfl | tail _ h => nomatch h) N63.out NBY.out HS2.out ?_; intro v' w6 hrow hgr _; obtain ⟨p', c', rfl, _⟩ := row_form hrow; rw [XS.out] at hrow; have o4 := Lib.hid ((Below.al HB.out).grown hgr (Below.al HB.out).size fun q hq => row_ge ROW.out q hq); have o6 := Lib.hid hrow; have o7 := Lib.hid ((hgr.block B_ (by simp; omega) (fun h => NE.out h.symm)).trans ((heap_old_ _ _ Bl).trans HTT.out)); clear hrow hgr)
      go_roundw
      case rel => (first | exact ⟨i + 1, _, _, by omega, by rw [← Nat.add_assoc, ET2.out], by go_num, Lib.hid (by rw [← Nat.add_assoc, ET2.out]; exact o6.out), o4, o7⟩ | ((repeat apply Exists.intro); exact ⟨⟨i + 1, _, _, by omega, by rw [← Nat.add_assoc, ET2.out], by go_num, Lib.hid (by rw [← Nat.add_assoc, ET2.out]; exact o6.out), o4, o7⟩, rfl⟩))
      case measure => simp [intOf]; omega
    · obtain rfl : i = 16 := by omega
      go_wp2_with (fail)
      exact bodyPost_ret (v := .tuple #[.slice p4 (m + 16) c4, .int .i64 0]) (by simp [results, Tryd.results16, go_sem]) rfl ⟨_, rfl, ROW.out, HB.out⟩
end Go.Proofs.YtjkeaiihjbcfgaaDoor
