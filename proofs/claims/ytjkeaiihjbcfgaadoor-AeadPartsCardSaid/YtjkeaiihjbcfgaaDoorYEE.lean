/- aead.Mac. -/
import Derived.Test.YtjkeaiihjbcfgaaDoorYEA
import Derived.Test.YtjkeaiihjbcfgaaDoorYED
import Derived.Test.YtjkeaiihjbcfgaaDoorYQE
import Derived.Lib.Hide
import Derived.Deep.Onto
import Derived.Laws.OwnMore
namespace Go.Proofs.YtjkeaiihjbcfgaaDoor
set_option linter.unusedVariables false
set_option maxRecDepth 2000
set_option linter.unusedSimpArgs false
open Go.RowKit
/-- what a tag is made of -/
def layL (n m : Nat) : Nat := n + padN n + (m + padN m) + 16
def layF (f : Nat → Int) (n : Nat) (g : Nat → Int) (m : Nat) (j : Nat) : Int :=
  if j < n + padN n then fillF f n j else if j < n + padN n + (m + padN m) then fillF g m (j - (n + padN n)) else lenF n m (j - (n + padN n + (m + padN m)))
def layT (n m : Nat) (k : Nat) : Nat := if k = 0 then 0 else if k = 1 then n else if k = 2 then n + padN n else if k = 3 then n + padN n + m else if k = 4 then n + padN n + (m + padN m) else layL n m
/-- the tag -/
def macN (kf nf f : Nat → Int) (n : Nat) (g : Nat → Int) (m : Nat) : Nat := tagN (blkF kf 0 nf) (layF f n g m) (layL n m)
def macF (kf nf f : Nat → Int) (n : Nat) (g : Nat → Int) (m : Nat) : Nat → Int := byt (macN kf nf f n g m)
theorem padN_lt (n : Nat) : padN n < 16 := by unfold padN; omega
theorem in_fillF {f : Nat → Int} {n : Nat} (h : ∀ i, i < n → inB (f i)) (j : Nat) : inB (fillF f n j) := by
  unfold fillF
  split
  · rename_i hj; exact h _ hj
  · unfold inB; decide
theorem in_layF {f g : Nat → Int} {n m : Nat} (hf : ∀ i, i < n → inB (f i)) (hg : ∀ i, i < m → inB (g i)) (j : Nat) : inB (layF f n g m j) := by
  unfold layF
  split
  · exact in_fillF hf _
  · split
    · exact in_fillF hg _
    · exact in_lenF _ _ _
theorem lay0 (f : Nat → Int) (n : Nat) (g : Nat → Int) (m j : Nat) (hj : j < n) : layF f n g m (0 + j) = f j := by
  unfold layF fillF
  rw [if_pos (by omega), if_pos (by omega), Nat.zero_add]
theorem lay1 (f : Nat → Int) (n : Nat) (g : Nat → Int) (m j : Nat) (hj : j < padN n) : layF f n g m (n + j) = 0 := by
  unfold layF fillF
  rw [if_pos (by omega), if_neg (by omega)]
theorem lay2 (f : Nat → Int) (n : Nat) (g : Nat → Int) (m j : Nat) (hj : j < m) : layF f n g m (n + padN n + j) = g j := by
  unfold layF fillF
  rw [if_neg (by omega), if_pos (by omega), if_pos (by omega), Nat.add_sub_cancel_left]
theorem lay3 (f : Nat → Int) (n : Nat) (g : Nat → Int) (m j : Nat) (hj : j < padN m) : layF f n g m (n + padN n + m + j) = 0 := by
  unfold layF fillF
  rw [if_neg (by omega), if_pos (by omega), if_neg (by omega)]
theorem lay4 (f : Nat → Int) (n : Nat) (g : Nat → Int) (m j : Nat) : layF f n g m (n + padN n + (m + padN m) + j) = lenF n m j := by
  unfold layF
  rw [if_neg (by omega), if_neg (by omega), Nat.add_sub_cancel_left]
theorem byt_congr {w : World} {q : Option Addr} {n : Nat} {f g : Nat → Int} (h : Byt w q n f) (e : ∀ j, j < n → f j = g j) : Byt w q n g := by
  rcases h with h | ⟨b, off, h1, h2⟩
  · exact .inl h
  · exact .inr ⟨b, off, h1, by rw [← nums_congr .u8 e]; exact h2⟩
/-- the first bytes of an array of zeros -/
theorem zero_byt {w : World} {Z k : Nat} {g : Nat → Int} (h : Own Z (nums .u8 (fun _ => 0) 16) w) (hk : k ≤ 16) (hg : ∀ j, j < k → g j = 0) : Byt w (some ⟨Z, 0, none⟩) k g :=
  byt_congr (.inr ⟨Z, 0, rfl, has_take h.has hk⟩) (fun j hj => (hg j hj).symm)
theorem layT_le (n m k : Nat) (hn : n ≤ 16384) (hm : m ≤ 16384) : layT n m k ≤ 65536 := by
  have := padN_lt n; have := padN_lt m
  unfold layT layL
  repeat' split
  all_goals omega
theorem mac_parts {w : World} {S n m c d c5 : Nat} {p q q5 : Option Addr} {Z : Nat} {f g : Nat → Int} (hS : Own S [.slice p n c, .slice (some ⟨Z, 0, none⟩) (padN n) 16, .slice q m d, .slice (some ⟨Z, 0, none⟩) (padN m) 16, .slice q5 16 c5] w)
    (hZ : Own Z (nums .u8 (fun _ => 0) 16) w) (hp : Byt w p n f) (hq : Byt w q m g) (h5 : Byt w q5 16 (lenF n m)) (hnc : n ≤ c) (hmd : m ≤ d) (h16 : 16 ≤ c5) (hc : c ≤ 9223372036854775807) (hd : d ≤ 9223372036854775807) (hc5 : c5 ≤ 9223372036854775807) :
    Parts w (some ⟨S, 0, none⟩) 5 (layF f n g m) (layT n m) := fun k hk => by
  have a1 := padN_lt n; have a2 := padN_lt m
  have hk' : k = 0 ∨ k = 1 ∨ k = 2 ∨ k = 3 ∨ k = 4 := by omega
  rcases hk' with rfl | rfl | rfl | rfl | rfl
  · exact ⟨S, 0, p, n, c, rfl, hS.lt, hS.at 0 _ rfl, hnc, hc, (Nat.zero_add n).symm, byt_congr hp (fun j hj => (lay0 f n g m j hj).symm)⟩
  · exact ⟨S, 0, _, padN n, 16, rfl, hS.lt, hS.at 1 _ rfl, by omega, by omega, rfl, zero_byt hZ (by omega) (fun j hj => lay1 f n g m j hj)⟩
  · exact ⟨S, 0, q, m, d, rfl, hS.lt, hS.at 2 _ rfl, hmd, hd, rfl, byt_congr hq (fun j hj => (lay2 f n g m j hj).symm)⟩
  · exact ⟨S, 0, _, padN m, 16, rfl, hS.lt, hS.at 3 _ rfl, by omega, by omega, (Nat.add_assoc _ _ _).symm, zero_byt hZ (by omega) (fun j hj => lay3 f n g m j hj)⟩
  · exact ⟨S, 0, q5, 16, c5, rfl, hS.lt, hS.at 4 _ rfl, h16, hc5, rfl, byt_congr h5 (fun j hj => (lay4 f n g m j).symm)⟩
attribute [local go_sem] nums_length

set_option maxHeartbeats 4000000 in
theorem Mac_any (kf nf f g : Nat → Int) (p q : Option Addr) (n m c d : Nat) (hk : ∀ i, i < 32 → inB (kf i)) (hn : ∀ i, i < 12 → inB (nf i)) (hf : ∀ i, i < n → inB (f i)) (hg : ∀ i, i < m → inB (g i)) (hn4 : n ≤ 16384) (hm4 : m ≤ 16384)
    (hnc : n ≤ c) (hmd : m ≤ d) (hc : c ≤ 9223372036854775807) (hd : d ≤ 9223372036854775807) (w : World) (hG : Has 0 0 GL w) (hp : Byt w p n f) (hq : Byt w q m g) :
    Calls Tryd.prog 12 #[(.agg (nums .u8 kf 32).toArray), (.agg (nums .u8 nf 12).toArray), .slice p n c, .slice q m d] w fun e w' => e = .returned (.agg (nums .u8 (macF kf nf f n g m) 16).toArray) ∧ Below w.heap.size w w' := by
  have FK := Lib.hid hk; have FN := Lib.hid hn; have HF := Lib.hid hf; have HGF := Lib.hid hg; have HN := Lib.hid hn4; have HM := Lib.hid hm4
  have HNC := Lib.hid hnc; have HMD := Lib.hid hmd; have HC := Lib.hid hc; have HD := Lib.hid hd; have HG := Lib.hid hG; have HP := Lib.hid hp; have HQ := Lib.hid hq
  clear hk hn hf hg hn4 hm4 hnc hmd hc hd hG hp hq
  have hmf : ∀ (fn : Fn) (first cap : Array Value) (w : World), (Instr.makeFunc fn first cap).run Tryd.prog w = .ok (.func fn first cap) w := fun _ _ _ _ => rfl
  go_enter Tryd.func12, Tryd.ntmps12
  go_upto_region 3 with fail
  obtain ⟨W0, hW⟩ : ∃ W0, W0 = ((((w.alloc (.cells (nums .u8 kf 32).toArray 22)).alloc (.cells (nums .u8 nf 12).toArray 23)).alloc (.cells #[.int .u8 0, .int .u8 0, .int .u8 0, .int .u8 0, .int .u8 0, .int .u8 0, .int .u8 0, .int .u8 0, .int .u8 0, .int .u8 0, .int .u8 0, .int .u8 0, .int .u8 0, .int .u8 0, .int .u8 0, .int .u8 0] 29)).alloc (.cells #[.int .u8 0, .int .u8 0, .int .u8 0, .int .u8 0, .int .u8 0, .int .u8 0, .int .u8 0, .int .u8 0, .int .u8 0, .int .u8 0, .int .u8 0, .int .u8 0, .int .u8 0, .int .u8 0, .int .u8 0, .int .u8 0] 29)) := ⟨_, rfl⟩
  have hB0 : Below w.heap.size w W0 := hW ▸ (Below.al (Below.al (Below.al (Below.al (Below.refl _ _)))))
  have HY : Hid (Own w.heap.size (nums .u8 kf 32) W0) := Lib.hid (hW ▸ (show Own w.heap.size (nums .u8 kf 32) (w.alloc (.cells (nums .u8 kf 32).toArray 22)) from Own.newAt (by simp)).alloc.alloc.alloc)
  have HM_ : Hid (Own (w.heap.size + 1) (nums .u8 nf 12) W0) := Lib.hid (hW ▸ (show Own (w.heap.size + 1) (nums .u8 nf 12) ((w.alloc (.cells (nums .u8 kf 32).toArray 22)).alloc (.cells (nums .u8 nf 12).toArray 23)) from Own.newAt (by simp)).alloc.alloc)
  have HR : Hid (Own ((w.heap.size + 1) + 1) (nums .u8 (fun _ => 0) 16) W0) := Lib.hid (hW ▸ (show Own ((w.heap.size + 1) + 1) (nums .u8 (fun _ => 0) 16) (((w.alloc (.cells (nums .u8 kf 32).toArray 22)).alloc (.cells (nums .u8 nf 12).toArray 23)).alloc (.cells #[.int .u8 0, .int .u8 0, .int .u8 0, .int .u8 0, .int .u8 0, .int .u8 0, .int .u8 0, .int .u8 0, .int .u8 0, .int .u8 0, .int .u8 0, .int .u8 0, .int .u8 0, .int .u8 0, .int .u8 0, .int .u8 0] 29)) from Own.newAt (by simp)).alloc)
  have HZ : Hid (Own (((w.heap.size + 1) + 1) + 1) (nums .u8 (fun _ => 0) 16) W0) := Lib.hid (hW ▸ (show Own (((w.heap.size + 1) + 1) + 1) (nums .u8 (fun _ => 0) 16) ((((w.alloc (.cells (nums .u8 kf 32).toArray 22)).alloc (.cells (nums .u8 nf 12).toArray 23)).alloc (.cells #[.int .u8 0, .int .u8 0, .int .u8 0, .int .u8 0, .int .u8 0, .int .u8 0, .int .u8 0, .int .u8 0, .int .u8 0, .int .u8 0, .int .u8 0, .int .u8 0, .int .u8 0, .int .u8 0, .int .u8 0, .int .u8 0] 29)).alloc (.cells #[.int .u8 0, .int .u8 0, .int .u8 0, .int .u8 0, .int .u8 0, .int .u8 0, .int .u8 0, .int .u8 0, .int .u8 0, .int .u8 0, .int .u8 0, .int .u8 0, .int .u8 0, .int .u8 0, .int .u8 0, .int .u8 0] 29)) from Own.newAt (by simp)))
  rw [← hW]
  clear hW
  obtain ⟨Z, eZ⟩ : ∃ X, X = (((w.heap.size + 1) + 1) + 1) := ⟨_, rfl⟩
  rw [← eZ] at HZ ⊢
  have Zw : w.heap.size ≤ Z := by omega
  obtain ⟨R, eR⟩ : ∃ X, X = ((w.heap.size + 1) + 1) := ⟨_, rfl⟩
  rw [← eR] at HR ⊢
  have Rw : w.heap.size ≤ R := by omega
  obtain ⟨M, eM⟩ : ∃ X, X = (w.heap.size + 1) := ⟨_, rfl⟩
  rw [← eM] at HM_ ⊢
  have Mw : w.heap.size ≤ M := by omega
  obtain ⟨Y, eY⟩ : ∃ X, X = w.heap.size := ⟨_, rfl⟩
  rw [← eY] at HY ⊢
  have Yw : w.heap.size ≤ Y := by omega
  have nYM : Y ≠ M := by omega
  have nMY : M ≠ Y := by omega
  have nYR : Y ≠ R := by omega
  have nRY : R ≠ Y := by omega
  have nYZ : Y ≠ Z := by omega
  have nZY : Z ≠ Y := by omega
  have nMR : M ≠ R := by omega
  have nRM : R ≠ M := by omega
  have nMZ : M ≠ Z := by omega
  have nZM : Z ≠ M := by omega
  have nRZ : R ≠ Z := by omega
  have nZR : Z ≠ R := by omega
  clear eY eM eR eZ
  have HG1 := Lib.hid (HG.out.later hB0)
  have HP1 := Lib.hid (HP.out.later hB0)
  have HQ1 := Lib.hid (HQ.out.later hB0)
  clear HG HP HQ
  refine wp_region_lit ?_
  refine wpList_load_mid rfl 22 _ rfl Y 0 rfl (nums .u8 kf 32) _ HY.out.cell Tryd.underlying22 rfl (by kernel_rfl) ?_
  refine wpList_load_mid rfl 23 _ rfl M 0 rfl (nums .u8 nf 12) _ HM_.out.cell Tryd.underlying23 rfl (by kernel_rfl) ?_
  go_wp2_with (fail)
  go_at_call 10
  refine (Key_any kf nf FK.out FN.out _ HG1.out).mono ?_
  rintro e w1 ⟨rfl, hb⟩
  have HRk := Lib.hid (HR.out.later hb)
  have HZk := Lib.hid (HZ.out.later hb)
  clear HR HZ
  have HR := HRk
  clear HRk
  have HZ := HZk
  clear HZk
  have HP1k := Lib.hid (HP1.out.later hb)
  have HQ1k := Lib.hid (HQ1.out.later hb)
  clear HP1 HQ1
  have HP1 := HP1k; have HQ1 := HQ1k
  clear HP1k HQ1k
  have hB1 := Below.go hB0 hb
  clear hB0 hb
  have hB0 := hB1
  clear hB1
  clear HY HM_ HG1
  go_wp2_with (fail)
  go_at_call 24
  refine (pad_any Z p n c (by have := HN.out; omega) _).mono ?_
  rintro e w2 ⟨rfl, hb⟩
  have HRk := Lib.hid (HR.out.later hb)
  have HZk := Lib.hid (HZ.out.later hb)
  clear HR HZ
  have HR := HRk
  clear HRk
  have HZ := HZk
  clear HZk
  have HP1k := Lib.hid (HP1.out.later hb)
  have HQ1k := Lib.hid (HQ1.out.later hb)
  clear HP1 HQ1
  have HP1 := HP1k; have HQ1 := HQ1k
  clear HP1k HQ1k
  have hB1 := Below.go hB0 hb
  clear hB0 hb
  have hB0 := hB1
  clear hB1
  go_wp2_with (fail)
  go_at_call 24
  refine (pad_any Z q m d (by have := HM.out; omega) _).mono ?_
  rintro e w3 ⟨rfl, hb⟩
  have HRk := Lib.hid (HR.out.later hb)
  have HZk := Lib.hid (HZ.out.later hb)
  clear HR HZ
  have HR := HRk
  clear HRk
  have HZ := HZk
  clear HZk
  have HP1k := Lib.hid (HP1.out.later hb)
  have HQ1k := Lib.hid (HQ1.out.later hb)
  clear HP1 HQ1
  have HP1 := HP1k; have HQ1 := HQ1k
  clear HP1k HQ1k
  have hB1 := Below.go hB0 hb
  clear hB0 hb
  have hB0 := hB1
  clear hB1
  go_wp2_with (fail)
  obtain ⟨W3, hW⟩ : ∃ W, W = (w3.alloc (.cells #[.slice p n c, .slice q m d] 26)) := ⟨_, rfl⟩
  have HL : Hid (Own w3.heap.size [.slice p n c, .slice q m d] W3) := Lib.hid (hW ▸ Own.newAt rfl)
  have hb : Below w3.heap.size w3 W3 := hW ▸ Below.al (Below.refl _ _)
  rw [← hW]
  clear hW
  have HRk := Lib.hid (HR.out.later hb)
  have HZk := Lib.hid (HZ.out.later hb)
  clear HR HZ
  have HR := HRk
  clear HRk
  have HZ := HZk
  clear HZk
  have HP1k := Lib.hid (HP1.out.later hb)
  have HQ1k := Lib.hid (HQ1.out.later hb)
  clear HP1 HQ1
  have HP1 := HP1k; have HQ1 := HQ1k
  clear HP1k HQ1k
  have hB1 := Below.go hB0 hb
  clear hB0 hb
  have hB0 := hB1
  clear hB1
  obtain ⟨L_, eL⟩ : ∃ X, X = w3.heap.size := ⟨_, rfl⟩
  rw [← eL] at HL ⊢
  clear eL
  go_at_call 25
  refine (lengths_any L_ n m c d p q (by have := HN.out; omega) (by have := HM.out; omega) _ HL.out.has).mono ?_
  rintro e w4 ⟨v4, rfl, hrow, hb⟩
  obtain ⟨q5, c5, rfl, h16⟩ := row_form hrow
  have HC5 := Lib.hid (row_cap_ hrow).2
  have H5 := Lib.hid (byt_row hrow).2
  have H16 := Lib.hid h16
  clear hrow h16 HL
  have HRk := Lib.hid (HR.out.later hb)
  have HZk := Lib.hid (HZ.out.later hb)
  clear HR HZ
  have HR := HRk
  clear HRk
  have HZ := HZk
  clear HZk
  have HP1k := Lib.hid (HP1.out.later hb)
  have HQ1k := Lib.hid (HQ1.out.later hb)
  clear HP1 HQ1
  have HP1 := HP1k; have HQ1 := HQ1k
  clear HP1k HQ1k
  have hB1 := Below.go hB0 hb
  clear hB0 hb
  have hB0 := hB1
  clear hB1
  go_wp2_with (fail)
  obtain ⟨W5, hW⟩ : ∃ W, W = (w4.alloc (.cells #[.slice p n c, .slice (some ⟨Z, 0, none⟩) (padN n) 16, .slice q m d, .slice (some ⟨Z, 0, none⟩) (padN m) 16, .slice q5 16 c5] 26)) := ⟨_, rfl⟩
  have HL : Hid (Own w4.heap.size [.slice p n c, .slice (some ⟨Z, 0, none⟩) (padN n) 16, .slice q m d, .slice (some ⟨Z, 0, none⟩) (padN m) 16, .slice q5 16 c5] W5) := Lib.hid (hW ▸ Own.newAt rfl)
  have hb : Below w4.heap.size w4 W5 := hW ▸ Below.al (Below.refl _ _)
  rw [← hW]
  clear hW
  have H5k := Lib.hid (H5.out.later hb)
  clear H5
  have HRk := Lib.hid (HR.out.later hb)
  have HZk := Lib.hid (HZ.out.later hb)
  clear HR HZ
  have HR := HRk
  clear HRk
  have HZ := HZk
  clear HZk
  have HP1k := Lib.hid (HP1.out.later hb)
  have HQ1k := Lib.hid (HQ1.out.later hb)
  clear HP1 HQ1
  have HP1 := HP1k; have HQ1 := HQ1k
  clear HP1k HQ1k
  have hB1 := Below.go hB0 hb
  clear hB0 hb
  have hB0 := hB1
  clear hB1
  obtain ⟨S_, eS⟩ : ∃ X, X = w4.heap.size := ⟨_, rfl⟩
  rw [← eS] at HL ⊢
  clear eS
  go_at_call 21
  refine (Tag_any (blkF kf 0 nf) (layF f n g m) (some ⟨S_, 0, none⟩) 5 5 (layT n m) (fun i _ => in_blkF kf 0 nf i) (fun i _ => in_layF HF.out HGF.out i) rfl (fun k _ => layT_le n m k HN.out HM.out) (Nat.le_refl _) (by decide) _ (mac_parts HL.out HZ.out HP1.out HQ1.out H5k.out HNC.out HMD.out H16.out HC.out HD.out HC5.out)).mono ?_
  rintro e w6 ⟨rfl, hb⟩
  clear HL HP1 HQ1 H5k HZ
  have HRk := Lib.hid (HR.out.later hb)
  clear HR
  have HR := HRk
  clear HRk
  have hB1 := Below.go hB0 hb
  clear hB0 hb
  obtain ⟨T_, eT⟩ : ∃ x, byt (tagN (blkF kf 0 nf) (layF f n g m) (layT n m 5)) = x := ⟨_, rfl⟩
  rw [eT]
  have ET := Lib.hid (show macF kf nf f n g m = T_ from eT)
  clear eT
  have hst := store_nums (P := Tryd.prog) (n := 16) .u8 T_ HR.out rfl
  have HR1 := Lib.hid (Own.store (vs := nums .u8 T_ 16) HR.out rfl)
  have hB2 := Below.setCells hB1 Rw (nums .u8 T_ 16) 0
  go_wp2_with (fail)
  have hL := run_loadVar_mid (P := Tryd.prog) _ R 0 29 (nums .u8 T_ 16) _ HR1.out.cell Tryd.underlying29 rfl (by kernel_rfl)
  exact bodyPost_ret (v := .agg (nums .u8 T_ 16).toArray) (res_cell Tryd.results12 rfl hL) rfl ⟨by rw [ET.out], hB2⟩
end Go.Proofs.YtjkeaiihjbcfgaaDoor
