/- aead.Seal. -/
import Derived.Test.YtjkeaiihjbcfgaaDoorYEE
import Derived.Test.YtjkeaiihjbcfgaaDoorYCV
import Derived.Lib.Hide
import Derived.Deep.Onto
import Derived.Laws.OwnMore
namespace Go.Proofs.YtjkeaiihjbcfgaaDoor
set_option linter.unusedVariables false
set_option maxRecDepth 2000
set_option linter.unusedSimpArgs false
open Go.RowKit
/-- bytes encrypted -/
def encF (kf nf g : Nat → Int) (j : Nat) : Int := xorB (g j) (strF kf 1 nf j)
theorem in_encF {kf nf g : Nat → Int} {m : Nat} (h : ∀ i, i < m → inB (g i)) (j : Nat) (hj : j < m) : inB (encF kf nf g j) := in_xorB (h j hj) (in_strF kf 1 nf j)
theorem enc_back {kf nf g : Nat → Int} {m : Nat} (h : ∀ i, i < m → inB (g i)) (j : Nat) (hj : j < m) : encF kf nf (encF kf nf g) j = g j := xorB_back (h j hj) (in_strF kf 1 nf j)
/-- what is sealed -/
def sealF (kf nf f : Nat → Int) (n : Nat) (g : Nat → Int) (m : Nat) (j : Nat) : Int := if j < m then encF kf nf g j else macF kf nf f n (encF kf nf g) m (j - m)
theorem seal_app (kf nf f : Nat → Int) (n : Nat) (g : Nat → Int) (m : Nat) : nums .u8 (encF kf nf g) m ++ nums .u8 (macF kf nf f n (encF kf nf g) m) 16 = nums .u8 (sealF kf nf f n g m) (m + 16) := by
  rw [← nums_append .u8 (sealF kf nf f n g m) (macF kf nf f n (encF kf nf g) m) m 16 (fun j hj => by unfold sealF; rw [if_neg (by omega), Nat.add_sub_cancel_left])]
  rw [nums_congr (f := sealF kf nf f n g m) (g := encF kf nf g) .u8 (fun j hj => by unfold sealF; rw [if_pos hj])]
theorem in_macF (kf nf f : Nat → Int) (n : Nat) (g : Nat → Int) (m j : Nat) : inB (macF kf nf f n g m j) := in_byt _ _
theorem in_sealF {kf nf f g : Nat → Int} {n m : Nat} (h : ∀ i, i < m → inB (g i)) (j : Nat) : inB (sealF kf nf f n g m j) := by
  unfold sealF
  split
  · exact in_encF h _ (by assumption)
  · exact in_macF _ _ _ _ _ _ _
/-- one part through the stream: an own row -/
theorem Xor_own (kf nf : Nat → Int) (S m : Nat) (v : Value) (g : Nat → Int) (hm : m ≤ 65536) (hk : ∀ i, i < 32 → inB (kf i)) (hn : ∀ i, i < 12 → inB (nf i)) (w : World) (hg : Has 0 0 GL w) (h : Own S [v] w) (hr : RowR w v m g) :
    Calls Tryd.prog 22 #[(.agg (nums .u8 kf 32).toArray), .int .u32 1, (.agg (nums .u8 nf 12).toArray), .slice (some ⟨S, 0, none⟩) 1 1] w fun e w' => ∃ v, e = .returned v ∧ w'.ownsRow w.heap.size 5 1 v m (nums .u8 (encF kf nf g) m) ∧ Below w.heap.size w w' :=
  (Xor_any kf nf 1 (some ⟨S, 0, none⟩) 1 1 g (T1 m) rfl (fun k hk => by unfold T1; split <;> omega) (Nat.le_refl _) (by decide) hk hn (by unfold in32; decide) w hg (parts_one h hr)).mono fun _ _ h => h
theorem st16b (w : World) (f : Nat → Int) (c : Array Value) (hc : c.size = 16) : (storeCells ⟨w.heap.size, 0, none⟩ (nums .u8 f 16)).run Tryd.prog (w.alloc (.cells c 29)) = .ok () (w.alloc (.cells (nums .u8 f 16).toArray 29)) :=
  run_storeCells_new (P := Tryd.prog) w 29 c (nums .u8 f 16).toArray (by rw [nums_size]; kernel_rfl) (by rw [nums_size, hc]) (nums_all _ _ _)
attribute [local go_sem] nums_length st16b

set_option maxHeartbeats 4000000 in
theorem Seal_any (kf nf f g : Nat → Int) (p q : Option Addr) (n m c d : Nat) (hk : ∀ i, i < 32 → inB (kf i)) (hn : ∀ i, i < 12 → inB (nf i)) (hf : ∀ i, i < n → inB (f i)) (hg : ∀ i, i < m → inB (g i)) (hn4 : n ≤ 16384) (hm4 : m ≤ 16384)
    (hnc : n ≤ c) (hmd : m ≤ d) (hc : c ≤ 9223372036854775807) (hd : d ≤ 9223372036854775807) (w : World) (hG : Has 0 0 GL w) (hp : Byt w p n f) (hq : Byt w q m g) :
    Calls Tryd.prog 15 #[(.agg (nums .u8 kf 32).toArray), (.agg (nums .u8 nf 12).toArray), .slice p n c, .slice q m d] w fun e w' => ∃ v, e = .returned (.tuple #[v, .int .i64 0]) ∧ w'.ownsRow w.heap.size 5 1 v (m + 16) (nums .u8 (sealF kf nf f n g m) (m + 16)) ∧ Below w.heap.size w w' := by
  have FK := Lib.hid hk; have FN := Lib.hid hn; have HF := Lib.hid hf; have HGF := Lib.hid hg; have HN := Lib.hid hn4; have HM := Lib.hid hm4
  have HNC := Lib.hid hnc; have HMD := Lib.hid hmd; have HC := Lib.hid hc; have HD := Lib.hid hd; have HG := Lib.hid hG; have HP := Lib.hid hp; have HQ := Lib.hid hq
  clear hk hn hf hg hn4 hm4 hnc hmd hc hd hG hp hq
  go_enter Tryd.func15, Tryd.ntmps15
  go_upto_region 1 with fail
  obtain ⟨W0, hW⟩ : ∃ W0, W0 = ((w.alloc (.cells (nums .u8 kf 32).toArray 22)).alloc (.cells (nums .u8 nf 12).toArray 23)) := ⟨_, rfl⟩
  have hB0 : Below w.heap.size w W0 := hW ▸ (Below.al (Below.al (Below.refl _ _)))
  have HY : Hid (Own w.heap.size (nums .u8 kf 32) W0) := Lib.hid (hW ▸ (show Own w.heap.size (nums .u8 kf 32) (w.alloc (.cells (nums .u8 kf 32).toArray 22)) from Own.newAt (by simp)).alloc)
  have HM_ : Hid (Own (w.heap.size + 1) (nums .u8 nf 12) W0) := Lib.hid (hW ▸ (show Own (w.heap.size + 1) (nums .u8 nf 12) ((w.alloc (.cells (nums .u8 kf 32).toArray 22)).alloc (.cells (nums .u8 nf 12).toArray 23)) from Own.newAt (by simp)))
  rw [← hW]
  clear hW
  obtain ⟨M, eM⟩ : ∃ X, X = (w.heap.size + 1) := ⟨_, rfl⟩
  rw [← eM] at HM_ ⊢
  have Mw : w.heap.size ≤ M := by omega
  obtain ⟨Y, eY⟩ : ∃ X, X = w.heap.size := ⟨_, rfl⟩
  rw [← eY] at HY ⊢
  have Yw : w.heap.size ≤ Y := by omega
  have nYM : Y ≠ M := by omega
  have nMY : M ≠ Y := by omega
  clear eY eM
  have HGk := Lib.hid (HG.out.later hB0); have HPk := Lib.hid (HP.out.later hB0); have HQk := Lib.hid (HQ.out.later hB0)
  clear HG HP HQ
  have HG := HGk; have HP := HPk; have HQ := HQk
  clear HGk HPk HQk
  go_wp2_with (fail)
  go_at_call 29
  refine (long_any p q n m c d HN.out HM.out _).mono ?_
  rintro e w1 ⟨rfl, hb⟩
  have HYk := Lib.hid (HY.out.later hb)
  have HM_k := Lib.hid (HM_.out.later hb)
  have HGk := Lib.hid (HG.out.later hb)
  have HPk := Lib.hid (HP.out.later hb)
  have HQk := Lib.hid (HQ.out.later hb)
  clear HY HM_ HG HP HQ
  have HY := HYk
  clear HYk
  have HM_ := HM_k
  clear HM_k
  have HG := HGk
  clear HGk
  have HP := HPk
  clear HPk
  have HQ := HQk
  clear HQk
  have hB1 := Below.go hB0 hb
  clear hB0 hb
  have hB0 := hB1
  clear hB1
  go_upto_region 3 with fail
  refine wp_region_lit ?_
  refine wpList_load_mid rfl 22 _ rfl Y 0 rfl (nums .u8 kf 32) _ HY.out.cell Tryd.underlying22 rfl (by kernel_rfl) ?_
  refine wpList_load_mid rfl 23 _ rfl M 0 rfl (nums .u8 nf 12) _ HM_.out.cell Tryd.underlying23 rfl (by kernel_rfl) ?_
  go_wp2_with (fail)
  obtain ⟨W2, hW⟩ : ∃ W, W = (w1.alloc (.cells #[.slice q m d] 26)) := ⟨_, rfl⟩
  have HL : Hid (Own w1.heap.size [.slice q m d] W2) := Lib.hid (hW ▸ Own.newAt rfl)
  have hb : Below w1.heap.size w1 W2 := hW ▸ Below.al (Below.refl _ _)
  rw [← hW]
  clear hW
  have HYk := Lib.hid (HY.out.later hb)
  have HM_k := Lib.hid (HM_.out.later hb)
  have HGk := Lib.hid (HG.out.later hb)
  have HPk := Lib.hid (HP.out.later hb)
  have HQk := Lib.hid (HQ.out.later hb)
  clear HY HM_ HG HP HQ
  have HY := HYk
  clear HYk
  have HM_ := HM_k
  clear HM_k
  have HG := HGk
  clear HGk
  have HP := HPk
  clear HPk
  have HQ := HQk
  clear HQk
  have hB1 := Below.go hB0 hb
  clear hB0 hb
  have hB0 := hB1
  clear hB1
  obtain ⟨L_, eL⟩ : ∃ X, X = w1.heap.size := ⟨_, rfl⟩
  rw [← eL] at HL ⊢
  clear eL
  go_at_call 22
  refine (Xor_own kf nf L_ m (.slice q m d) g (by have := HM.out; omega) FK.out FN.out _ HG.out HL.out ⟨q, d, rfl, HMD.out, HD.out, HQ.out⟩).mono ?_
  rintro e w3 ⟨v3, rfl, hrow, hb⟩
  obtain ⟨q3, c3, rfl, h3⟩ := row_form hrow
  have ROW : Hid (w3.ownsRow w.heap.size 5 1 (.slice q3 m c3) m (nums .u8 (encF kf nf g) m)) := Lib.hid (hrow.mono hB0.size)
  have HC3 := Lib.hid (row_cap_ hrow).2
  have HE := Lib.hid (byt_row hrow).2
  have H3 := Lib.hid h3
  clear hrow h3 HL HQ
  have HYk := Lib.hid (HY.out.later hb)
  have HM_k := Lib.hid (HM_.out.later hb)
  have HGk := Lib.hid (HG.out.later hb)
  have HPk := Lib.hid (HP.out.later hb)
  clear HY HM_ HG HP
  have HY := HYk
  clear HYk
  have HM_ := HM_k
  clear HM_k
  have HG := HGk
  clear HGk
  have HP := HPk
  clear HPk
  have hB1 := Below.go hB0 hb
  clear hB0 hb
  have hB0 := hB1
  clear hB1
  go_upto_region 4 with fail
  refine wp_region_lit ?_
  refine wpList_load_mid rfl 22 _ rfl Y 0 rfl (nums .u8 kf 32) _ HY.out.cell Tryd.underlying22 rfl (by kernel_rfl) ?_
  refine wpList_load_mid rfl 23 _ rfl M 0 rfl (nums .u8 nf 12) _ HM_.out.cell Tryd.underlying23 rfl (by kernel_rfl) ?_
  go_wp2_with (fail)
  go_at_call 12
  refine (Mac_any kf nf f (encF kf nf g) p q3 n m c c3 FK.out FN.out HF.out (in_encF HGF.out) HN.out HM.out HNC.out H3.out HC.out HC3.out _ HG.out HP.out HE.out).mono ?_
  rintro e w4 ⟨rfl, hb⟩
  have ROW4 := Lib.hid (row_later ROW.out hb)
  clear HY HM_ HE HG HP ROW
  have hB1 := Below.go hB0 hb
  clear hB0 hb
  obtain ⟨T_, eT⟩ : ∃ x, macF kf nf f n (encF kf nf g) m = x := ⟨_, rfl⟩
  have ET := Lib.hid eT
  rw [eT]
  clear eT
  go_upto_region 5 with fail
  obtain ⟨W5, hW⟩ : ∃ W, W = (w4.alloc (.cells (nums .u8 T_ 16).toArray 29)) := ⟨_, rfl⟩
  have HT : Hid (Own w4.heap.size (nums .u8 T_ 16) W5) := Lib.hid (hW ▸ (show Own w4.heap.size (nums .u8 T_ 16) (w4.alloc (.cells (nums .u8 T_ 16).toArray 29)) from Own.newAt (by simp)))
  have hb : Below w4.heap.size w4 W5 := hW ▸ Below.al (Below.refl _ _)
  rw [← hW]
  clear hW
  have ROW5 := Lib.hid (row_later ROW4.out hb)
  have hB2 := Below.go hB1 hb
  clear hB1 hb ROW4
  obtain ⟨B_, eB⟩ : ∃ X, X = w4.heap.size := ⟨_, rfl⟩
  rw [← eB] at HT ⊢
  clear eB
  go_wp2_with (at_builtin; refine wpList_append_b rfl _ _ rfl w.heap.size _ m (nums .u8 (encF kf nf g) m) rfl ROW5.out (some ⟨B_, 0, none⟩) 16 16 T_ rfl (.inr ⟨B_, 0, rfl, HT.out.has⟩) (by have := HM.out; omega) hB2.size ?_; intro v' w6 hrow hgr; have hB3 := Lib.hid (hB2.grown hgr hB2.size (fun k hk => row_ge ROW5.out k hk)); rw [← ET.out, seal_app] at hrow; have HROW := Lib.hid hrow; clear hrow hgr)
  refine bodyPost_ret (v := .tuple #[v', .int .i64 0]) (by simp [results, Tryd.results15, go_sem]) rfl ?_
  exact ⟨_, rfl, HROW.out, hB3.out⟩
end Go.Proofs.YtjkeaiihjbcfgaaDoor
