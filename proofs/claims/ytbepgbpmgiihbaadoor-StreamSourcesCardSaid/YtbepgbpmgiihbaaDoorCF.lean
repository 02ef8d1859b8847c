/- chacha.State, and the document's. -/
import Derived.Test.YtbepgbpmgiihbaaDoorCE
import Derived.LoopN
import Derived.LoopTactic
namespace Go.Proofs.YtbepgbpmgiihbaaDoor
set_option linter.unusedVariables false
set_option maxRecDepth 2000
set_option linter.unusedSimpArgs false
open Go.RowKit
def stF (kf : Nat → Int) (c : Int) (nf : Nat → Int) (j : Nat) : Int :=
  if j = 0 then 1634760805 else if j = 1 then 857760878 else if j = 2 then 2036477234 else if j = 3 then 1797285236
  else if j < 12 then word kf (4 * (j - 4)) else if j = 12 then c else word nf (4 * (j - 13))
theorem own_has4 {K N o : Nat} {f : Nat → Int} {W : World} (h : Own K (nums .u8 f N) W) (ho : o + 4 ≤ N) : Has K o [.int .u8 (f o), .int .u8 (f (o + 1)), .int .u8 (f (o + 2)), .int .u8 (f (o + 3))] W where
  lt := h.lt
  cell := fun j v hv => by
    match j, hv with
    | 0, hv => exact h.at o v ((nums_at _ _ (by omega)).trans hv)
    | 1, hv => exact h.at (o + 1) v ((nums_at _ _ (by omega)).trans hv)
    | 2, hv => exact h.at (o + 2) v ((nums_at _ _ (by omega)).trans hv)
    | 3, hv => exact h.at (o + 3) v ((nums_at _ _ (by omega)).trans hv)
    | j + 4, hv => cases hv

theorem number_own (K o n c N : Nat) (f : Nat → Int) (hf : ∀ i, i < N → inB (f i)) (hn : 4 ≤ n) (ho : o + 4 ≤ N) (w : World) (h : Own K (nums .u8 f N) w) : Calls Tryd.prog 25 #[.slice (some ⟨K, o, none⟩) n c] w fun e w' => e = .returned (.int .u32 (word f o)) ∧ Below w.heap.size w w' :=
  number_any K o n c _ _ _ _ (hf _ (by omega)) (hf _ (by omega)) (hf _ (by omega)) (hf _ (by omega)) hn w (own_has4 h ho)

theorem RNumber_own (K o n c N : Nat) (f : Nat → Int) (hf : ∀ i, i < N → inB (f i)) (hn : 4 ≤ n) (ho : o + 4 ≤ N) (w : World) (h : Own K (nums .u8 f N) w) : Calls Tryd.prog 15 #[.slice (some ⟨K, o, none⟩) n c] w fun e w' => e = .returned (.int .u32 (word f o)) ∧ Below w.heap.size w w' :=
  RNumber_any K o n c _ _ _ _ (hf _ (by omega)) (hf _ (by omega)) (hf _ (by omega)) (hf _ (by omega)) hn w (own_has4 h ho)

set_option maxHeartbeats 8000000 in
theorem State_any (kf nf : Nat → Int) (c : Int) (hk : ∀ i, i < 32 → inB (kf i)) (hn : ∀ i, i < 12 → inB (nf i)) (w : World) :
    Calls Tryd.prog 21 #[(.agg (nums .u8 kf 32).toArray), .int .u32 c, (.agg (nums .u8 nf 12).toArray)] w fun e w' => e = .returned (.agg (nums .u32 (stF kf c nf) 16).toArray) ∧ Below w.heap.size w w' := by
  have FK := Lib.hid hk; have FN := Lib.hid hn
  clear hk hn
  obtain ⟨k0, ek0⟩ : ∃ z, word kf 0 = z := ⟨_, rfl⟩
  obtain ⟨k1, ek1⟩ : ∃ z, word kf 4 = z := ⟨_, rfl⟩
  obtain ⟨k2, ek2⟩ : ∃ z, word kf 8 = z := ⟨_, rfl⟩
  obtain ⟨k3, ek3⟩ : ∃ z, word kf 12 = z := ⟨_, rfl⟩
  obtain ⟨k4, ek4⟩ : ∃ z, word kf 16 = z := ⟨_, rfl⟩
  obtain ⟨k5, ek5⟩ : ∃ z, word kf 20 = z := ⟨_, rfl⟩
  obtain ⟨k6, ek6⟩ : ∃ z, word kf 24 = z := ⟨_, rfl⟩
  obtain ⟨k7, ek7⟩ : ∃ z, word kf 28 = z := ⟨_, rfl⟩
  obtain ⟨m0, em0⟩ : ∃ z, word nf 0 = z := ⟨_, rfl⟩
  obtain ⟨m1, em1⟩ : ∃ z, word nf 4 = z := ⟨_, rfl⟩
  obtain ⟨m2, em2⟩ : ∃ z, word nf 8 = z := ⟨_, rfl⟩
  have HF : nums .u32 (stF kf c nf) 16 = [.int .u32 1634760805, .int .u32 857760878, .int .u32 2036477234, .int .u32 1797285236, .int .u32 k0, .int .u32 k1, .int .u32 k2, .int .u32 k3, .int .u32 k4, .int .u32 k5, .int .u32 k6, .int .u32 k7, .int .u32 c, .int .u32 m0, .int .u32 m1, .int .u32 m2] := by
    rw [← ek0, ← ek1, ← ek2, ← ek3, ← ek4, ← ek5, ← ek6, ← ek7, ← em0, ← em1, ← em2]
    rfl
  rw [HF]
  clear HF
  go_enter Tryd.func21, Tryd.ntmps21
  go_upto_region 1 with fail
  obtain ⟨W0, hW⟩ : ∃ W0, W0 = (((w.alloc (.cells (nums .u8 kf 32).toArray 44)).alloc (.cells (nums .u8 nf 12).toArray 47)).alloc (.cells #[.int .u32 0, .int .u32 0, .int .u32 0, .int .u32 0, .int .u32 0, .int .u32 0, .int .u32 0, .int .u32 0, .int .u32 0, .int .u32 0, .int .u32 0, .int .u32 0, .int .u32 0, .int .u32 0, .int .u32 0, .int .u32 0] 56)) := ⟨_, rfl⟩
  have hB0 : Below w.heap.size w W0 := hW ▸ (Below.al (Below.al (Below.al (Below.refl _ _))))
  have HK : Hid (Own w.heap.size (nums .u8 kf 32) W0) := Lib.hid (hW ▸ (show Own w.heap.size (nums .u8 kf 32) (w.alloc (.cells (nums .u8 kf 32).toArray 44)) from Own.newAt (by simp)).alloc.alloc)
  have HM : Hid (Own (w.heap.size + 1) (nums .u8 nf 12) W0) := Lib.hid (hW ▸ (show Own (w.heap.size + 1) (nums .u8 nf 12) ((w.alloc (.cells (nums .u8 kf 32).toArray 44)).alloc (.cells (nums .u8 nf 12).toArray 47)) from Own.newAt (by simp)).alloc)
  have HR : Hid (Own ((w.heap.size + 1) + 1) ([.int .u32 0, .int .u32 0, .int .u32 0, .int .u32 0, .int .u32 0, .int .u32 0, .int .u32 0, .int .u32 0, .int .u32 0, .int .u32 0, .int .u32 0, .int .u32 0, .int .u32 0, .int .u32 0, .int .u32 0, .int .u32 0]) W0) := Lib.hid (hW ▸ (show Own ((w.heap.size + 1) + 1) ([.int .u32 0, .int .u32 0, .int .u32 0, .int .u32 0, .int .u32 0, .int .u32 0, .int .u32 0, .int .u32 0, .int .u32 0, .int .u32 0, .int .u32 0, .int .u32 0, .int .u32 0, .int .u32 0, .int .u32 0, .int .u32 0]) (((w.alloc (.cells (nums .u8 kf 32).toArray 44)).alloc (.cells (nums .u8 nf 12).toArray 47)).alloc (.cells #[.int .u32 0, .int .u32 0, .int .u32 0, .int .u32 0, .int .u32 0, .int .u32 0, .int .u32 0, .int .u32 0, .int .u32 0, .int .u32 0, .int .u32 0, .int .u32 0, .int .u32 0, .int .u32 0, .int .u32 0, .int .u32 0] 56)) from Own.newAt (by simp)))
  rw [← hW]
  clear hW
  obtain ⟨R, eR⟩ : ∃ X, X = ((w.heap.size + 1) + 1) := ⟨_, rfl⟩
  rw [← eR] at HR ⊢
  have Rw : w.heap.size ≤ R := by omega
  obtain ⟨M, eM⟩ : ∃ X, X = (w.heap.size + 1) := ⟨_, rfl⟩
  rw [← eM] at HM ⊢
  have Mw : w.heap.size ≤ M := by omega
  obtain ⟨K, eK⟩ : ∃ X, X = w.heap.size := ⟨_, rfl⟩
  rw [← eK] at HK ⊢
  have Kw : w.heap.size ≤ K := by omega
  have nKM : K ≠ M := by omega
  have nMK : M ≠ K := by omega
  have nKR : K ≠ R := by omega
  have nRK : R ≠ K := by omega
  have nMR : M ≠ R := by omega
  have nRM : R ≠ M := by omega
  clear eK eM eR
  go_upto_region 2 with fail
  obtain ⟨w0, hW⟩ : ∃ w0, w0 = (W0.alloc (.cells #[.int .u32 1634760805, .int .u32 857760878, .int .u32 2036477234, .int .u32 1797285236, .int .u32 0, .int .u32 0, .int .u32 0, .int .u32 0, .int .u32 0, .int .u32 0, .int .u32 0, .int .u32 0, .int .u32 c, .int .u32 0, .int .u32 0, .int .u32 0] 56)) := ⟨_, rfl⟩
  have hBx : Below W0.heap.size W0 w0 := hW ▸ (Below.al (Below.refl _ _))
  have HS : Hid (Own W0.heap.size ([.int .u32 1634760805, .int .u32 857760878, .int .u32 2036477234, .int .u32 1797285236, .int .u32 0, .int .u32 0, .int .u32 0, .int .u32 0, .int .u32 0, .int .u32 0, .int .u32 0, .int .u32 0, .int .u32 c, .int .u32 0, .int .u32 0, .int .u32 0]) w0) := Lib.hid (hW ▸ (show Own W0.heap.size ([.int .u32 1634760805, .int .u32 857760878, .int .u32 2036477234, .int .u32 1797285236, .int .u32 0, .int .u32 0, .int .u32 0, .int .u32 0, .int .u32 0, .int .u32 0, .int .u32 0, .int .u32 0, .int .u32 c, .int .u32 0, .int .u32 0, .int .u32 0]) (W0.alloc (.cells #[.int .u32 1634760805, .int .u32 857760878, .int .u32 2036477234, .int .u32 1797285236, .int .u32 0, .int .u32 0, .int .u32 0, .int .u32 0, .int .u32 0, .int .u32 0, .int .u32 0, .int .u32 0, .int .u32 c, .int .u32 0, .int .u32 0, .int .u32 0] 56)) from Own.newAt (by simp)))
  rw [← hW]
  clear hW
  obtain ⟨S, eS⟩ : ∃ X, X = W0.heap.size := ⟨_, rfl⟩
  rw [← eS] at HS ⊢
  have Sw : W0.heap.size ≤ S := by omega
  clear eS
  have nSK : S ≠ K := by have := HK.out.lt; omega
  have nKS : K ≠ S := Ne.symm nSK
  have nSM : S ≠ M := by have := HM.out.lt; omega
  have nMS : M ≠ S := Ne.symm nSM
  have nSR : S ≠ R := by have := HR.out.lt; omega
  have nRS : R ≠ S := Ne.symm nSR
  have Sw2 : w.heap.size ≤ S := by have := hB0.size; omega
  clear Sw
  have Sw := Sw2
  clear Sw2
  have HKk := Lib.hid (HK.out.later hBx)
  have HMk := Lib.hid (HM.out.later hBx)
  have HRk := Lib.hid (HR.out.later hBx)
  clear HK HM HR
  have HK := HKk
  clear HKk
  have HM := HMk
  clear HMk
  have HR := HRk
  clear HRk
  have hB0n := Below.go hB0 hBx
  clear hB0 hBx
  have hB0 := hB0n
  clear hB0n
  go_wp2_with (fail)
  refine wp_loop_rounds 9 ?_
  rw [rounds_succ]
  go_wp2_with (fail)
  go_at_call 25
  refine (number_own K 0 _ _ 32 kf FK.out (by decide) (by decide) _ HK.out).mono ?_
  rintro e w1 ⟨rfl, hb⟩
  rw [ek0]
  have HSk := Lib.hid (HS.out.later hb)
  have HKk := Lib.hid (HK.out.later hb)
  have HMk := Lib.hid (HM.out.later hb)
  have HRk := Lib.hid (HR.out.later hb)
  clear HS HK HM HR
  have HS := HSk
  clear HSk
  have HK := HKk
  clear HKk
  have HM := HMk
  clear HMk
  have HR := HRk
  clear HRk
  have hB1 := Below.go hB0 hb
  clear hB0 hb
  have hB0 := hB1
  clear hB1
  have oS := HS.out
  have S4 := oS.at 4 _ rfl
  have Sf4 := oS.ok 4 (by simp)
  have Sl := oS.lt
  clear oS
  go_wp2_with (fail)
  clear S4 Sf4 Sl
  change Code.rounds _ _ _ _ _ (w1.setCells S 4 [.int .u32 k0])
  have HSn : Hid (Own S ([.int .u32 1634760805, .int .u32 857760878, .int .u32 2036477234, .int .u32 1797285236, .int .u32 k0, .int .u32 0, .int .u32 0, .int .u32 0, .int .u32 0, .int .u32 0, .int .u32 0, .int .u32 0, .int .u32 c, .int .u32 0, .int .u32 0, .int .u32 0]) (w1.setCells S 4 [.int .u32 k0])) := Lib.hid (show Own S (over _ 4 [.int .u32 k0]) _ from Own.part HS.out (by simp))
  have HKn : Hid (Own K (nums .u8 kf 32) (w1.setCells S 4 [.int .u32 k0])) := Lib.hid (Own.far (o := 4) (vs := [.int .u32 k0]) HK.out nKS)
  have HMn : Hid (Own M (nums .u8 nf 12) (w1.setCells S 4 [.int .u32 k0])) := Lib.hid (Own.far (o := 4) (vs := [.int .u32 k0]) HM.out nMS)
  have HRn : Hid (Own R ([.int .u32 0, .int .u32 0, .int .u32 0, .int .u32 0, .int .u32 0, .int .u32 0, .int .u32 0, .int .u32 0, .int .u32 0, .int .u32 0, .int .u32 0, .int .u32 0, .int .u32 0, .int .u32 0, .int .u32 0, .int .u32 0]) (w1.setCells S 4 [.int .u32 k0])) := Lib.hid (Own.far (o := 4) (vs := [.int .u32 k0]) HR.out nRS)
  have hB0n : Below w.heap.size w (w1.setCells S 4 [.int .u32 k0]) := Below.setCells hB0 Sw [.int .u32 k0] 4
  clear HS HK HM HR hB0
  generalize (w1.setCells S 4 [.int .u32 k0]) = w2 at *
  have HS := HSn
  clear HSn
  have HK := HKn
  clear HKn
  have HM := HMn
  clear HMn
  have HR := HRn
  clear HRn
  have hB0 := hB0n
  clear hB0n
  rw [rounds_succ]
  go_wp2_with (fail)
  go_at_call 25
  refine (number_own K 4 _ _ 32 kf FK.out (by decide) (by decide) _ HK.out).mono ?_
  rintro e w1 ⟨rfl, hb⟩
  rw [ek1]
  have HSk := Lib.hid (HS.out.later hb)
  have HKk := Lib.hid (HK.out.later hb)
  have HMk := Lib.hid (HM.out.later hb)
  have HRk := Lib.hid (HR.out.later hb)
  clear HS HK HM HR
  have HS := HSk
  clear HSk
  have HK := HKk
  clear HKk
  have HM := HMk
  clear HMk
  have HR := HRk
  clear HRk
  have hB1 := Below.go hB0 hb
  clear hB0 hb
  have hB0 := hB1
  clear hB1
  have oS := HS.out
  have S5 := oS.at 5 _ rfl
  have Sf5 := oS.ok 5 (by simp)
  have Sl := oS.lt
  clear oS
  go_wp2_with (fail)
  clear S5 Sf5 Sl
  change Code.rounds _ _ _ _ _ (w1.setCells S 5 [.int .u32 k1])
  have HSn : Hid (Own S ([.int .u32 1634760805, .int .u32 857760878, .int .u32 2036477234, .int .u32 1797285236, .int .u32 k0, .int .u32 k1, .int .u32 0, .int .u32 0, .int .u32 0, .int .u32 0, .int .u32 0, .int .u32 0, .int .u32 c, .int .u32 0, .int .u32 0, .int .u32 0]) (w1.setCells S 5 [.int .u32 k1])) := Lib.hid (show Own S (over _ 5 [.int .u32 k1]) _ from Own.part HS.out (by simp))
  have HKn : Hid (Own K (nums .u8 kf 32) (w1.setCells S 5 [.int .u32 k1])) := Lib.hid (Own.far (o := 5) (vs := [.int .u32 k1]) HK.out nKS)
  have HMn : Hid (Own M (nums .u8 nf 12) (w1.setCells S 5 [.int .u32 k1])) := Lib.hid (Own.far (o := 5) (vs := [.int .u32 k1]) HM.out nMS)
  have HRn : Hid (Own R ([.int .u32 0, .int .u32 0, .int .u32 0, .int .u32 0, .int .u32 0, .int .u32 0, .int .u32 0, .int .u32 0, .int .u32 0, .int .u32 0, .int .u32 0, .int .u32 0, .int .u32 0, .int .u32 0, .int .u32 0, .int .u32 0]) (w1.setCells S 5 [.int .u32 k1])) := Lib.hid (Own.far (o := 5) (vs := [.int .u32 k1]) HR.out nRS)
  have hB0n : Below w.heap.size w (w1.setCells S 5 [.int .u32 k1]) := Below.setCells hB0 Sw [.int .u32 k1] 5
  clear HS HK HM HR hB0
  generalize (w1.setCells S 5 [.int .u32 k1]) = w2 at *
  have HS := HSn
  clear HSn
  have HK := HKn
  clear HKn
  have HM := HMn
  clear HMn
  have HR := HRn
  clear HRn
  have hB0 := hB0n
  clear hB0n
  rw [rounds_succ]
  go_wp2_with (fail)
  go_at_call 25
  refine (number_own K 8 _ _ 32 kf FK.out (by decide) (by decide) _ HK.out).mono ?_
  rintro e w1 ⟨rfl, hb⟩
  rw [ek2]
  have HSk := Lib.hid (HS.out.later hb)
  have HKk := Lib.hid (HK.out.later hb)
  have HMk := Lib.hid (HM.out.later hb)
  have HRk := Lib.hid (HR.out.later hb)
  clear HS HK HM HR
  have HS := HSk
  clear HSk
  have HK := HKk
  clear HKk
  have HM := HMk
  clear HMk
  have HR := HRk
  clear HRk
  have hB1 := Below.go hB0 hb
  clear hB0 hb
  have hB0 := hB1
  clear hB1
  have oS := HS.out
  have S6 := oS.at 6 _ rfl
  have Sf6 := oS.ok 6 (by simp)
  have Sl := oS.lt
  clear oS
  go_wp2_with (fail)
  clear S6 Sf6 Sl
  change Code.rounds _ _ _ _ _ (w1.setCells S 6 [.int .u32 k2])
  have HSn : Hid (Own S ([.int .u32 1634760805, .int .u32 857760878, .int .u32 2036477234, .int .u32 1797285236, .int .u32 k0, .int .u32 k1, .int .u32 k2, .int .u32 0, .int .u32 0, .int .u32 0, .int .u32 0, .int .u32 0, .int .u32 c, .int .u32 0, .int .u32 0, .int .u32 0]) (w1.setCells S 6 [.int .u32 k2])) := Lib.hid (show Own S (over _ 6 [.int .u32 k2]) _ from Own.part HS.out (by simp))
  have HKn : Hid (Own K (nums .u8 kf 32) (w1.setCells S 6 [.int .u32 k2])) := Lib.hid (Own.far (o := 6) (vs := [.int .u32 k2]) HK.out nKS)
  have HMn : Hid (Own M (nums .u8 nf 12) (w1.setCells S 6 [.int .u32 k2])) := Lib.hid (Own.far (o := 6) (vs := [.int .u32 k2]) HM.out nMS)
  have HRn : Hid (Own R ([.int .u32 0, .int .u32 0, .int .u32 0, .int .u32 0, .int .u32 0, .int .u32 0, .int .u32 0, .int .u32 0, .int .u32 0, .int .u32 0, .int .u32 0, .int .u32 0, .int .u32 0, .int .u32 0, .int .u32 0, .int .u32 0]) (w1.setCells S 6 [.int .u32 k2])) := Lib.hid (Own.far (o := 6) (vs := [.int .u32 k2]) HR.out nRS)
  have hB0n : Below w.heap.size w (w1.setCells S 6 [.int .u32 k2]) := Below.setCells hB0 Sw [.int .u32 k2] 6
  clear HS HK HM HR hB0
  generalize (w1.setCells S 6 [.int .u32 k2]) = w2 at *
  have HS := HSn
  clear HSn
  have HK := HKn
  clear HKn
  have HM := HMn
  clear HMn
  have HR := HRn
  clear HRn
  have hB0 := hB0n
  clear hB0n
  rw [rounds_succ]
  go_wp2_with (fail)
  go_at_call 25
  refine (number_own K 12 _ _ 32 kf FK.out (by decide) (by decide) _ HK.out).mono ?_
  rintro e w1 ⟨rfl, hb⟩
  rw [ek3]
  have HSk := Lib.hid (HS.out.later hb)
  have HKk := Lib.hid (HK.out.later hb)
  have HMk := Lib.hid (HM.out.later hb)
  have HRk := Lib.hid (HR.out.later hb)
  clear HS HK HM HR
  have HS := HSk
  clear HSk
  have HK := HKk
  clear HKk
  have HM := HMk
  clear HMk
  have HR := HRk
  clear HRk
  have hB1 := Below.go hB0 hb
  clear hB0 hb
  have hB0 := hB1
  clear hB1
  have oS := HS.out
  have S7 := oS.at 7 _ rfl
  have Sf7 := oS.ok 7 (by simp)
  have Sl := oS.lt
  clear oS
  go_wp2_with (fail)
  clear S7 Sf7 Sl
  change Code.rounds _ _ _ _ _ (w1.setCells S 7 [.int .u32 k3])
  have HSn : Hid (Own S ([.int .u32 1634760805, .int .u32 857760878, .int .u32 2036477234, .int .u32 1797285236, .int .u32 k0, .int .u32 k1, .int .u32 k2, .int .u32 k3, .int .u32 0, .int .u32 0, .int .u32 0, .int .u32 0, .int .u32 c, .int .u32 0, .int .u32 0, .int .u32 0]) (w1.setCells S 7 [.int .u32 k3])) := Lib.hid (show Own S (over _ 7 [.int .u32 k3]) _ from Own.part HS.out (by simp))
  have HKn : Hid (Own K (nums .u8 kf 32) (w1.setCells S 7 [.int .u32 k3])) := Lib.hid (Own.far (o := 7) (vs := [.int .u32 k3]) HK.out nKS)
  have HMn : Hid (Own M (nums .u8 nf 12) (w1.setCells S 7 [.int .u32 k3])) := Lib.hid (Own.far (o := 7) (vs := [.int .u32 k3]) HM.out nMS)
  have HRn : Hid (Own R ([.int .u32 0, .int .u32 0, .int .u32 0, .int .u32 0, .int .u32 0, .int .u32 0, .int .u32 0, .int .u32 0, .int .u32 0, .int .u32 0, .int .u32 0, .int .u32 0, .int .u32 0, .int .u32 0, .int .u32 0, .int .u32 0]) (w1.setCells S 7 [.int .u32 k3])) := Lib.hid (Own.far (o := 7) (vs := [.int .u32 k3]) HR.out nRS)
  have hB0n : Below w.heap.size w (w1.setCells S 7 [.int .u32 k3]) := Below.setCells hB0 Sw [.int .u32 k3] 7
  clear HS HK HM HR hB0
  generalize (w1.setCells S 7 [.int .u32 k3]) = w2 at *
  have HS := HSn
  clear HSn
  have HK := HKn
  clear HKn
  have HM := HMn
  clear HMn
  have HR := HRn
  clear HRn
  have hB0 := hB0n
  clear hB0n
  rw [rounds_succ]
  go_wp2_with (fail)
  go_at_call 25
  refine (number_own K 16 _ _ 32 kf FK.out (by decide) (by decide) _ HK.out).mono ?_
  rintro e w1 ⟨rfl, hb⟩
  rw [ek4]
  have HSk := Lib.hid (HS.out.later hb)
  have HKk := Lib.hid (HK.out.later hb)
  have HMk := Lib.hid (HM.out.later hb)
  have HRk := Lib.hid (HR.out.later hb)
  clear HS HK HM HR
  have HS := HSk
  clear HSk
  have HK := HKk
  clear HKk
  have HM := HMk
  clear HMk
  have HR := HRk
  clear HRk
  have hB1 := Below.go hB0 hb
  clear hB0 hb
  have hB0 := hB1
  clear hB1
  have oS := HS.out
  have S8 := oS.at 8 _ rfl
  have Sf8 := oS.ok 8 (by simp)
  have Sl := oS.lt
  clear oS
  go_wp2_with (fail)
  clear S8 Sf8 Sl
  change Code.rounds _ _ _ _ _ (w1.setCells S 8 [.int .u32 k4])
  have HSn : Hid (Own S ([.int .u32 1634760805, .int .u32 857760878, .int .u32 2036477234, .int .u32 1797285236, .int .u32 k0, .int .u32 k1, .int .u32 k2, .int .u32 k3, .int .u32 k4, .int .u32 0, .int .u32 0, .int .u32 0, .int .u32 c, .int .u32 0, .int .u32 0, .int .u32 0]) (w1.setCells S 8 [.int .u32 k4])) := Lib.hid (show Own S (over _ 8 [.int .u32 k4]) _ from Own.part HS.out (by simp))
  have HKn : Hid (Own K (nums .u8 kf 32) (w1.setCells S 8 [.int .u32 k4])) := Lib.hid (Own.far (o := 8) (vs := [.int .u32 k4]) HK.out nKS)
  have HMn : Hid (Own M (nums .u8 nf 12) (w1.setCells S 8 [.int .u32 k4])) := Lib.hid (Own.far (o := 8) (vs := [.int .u32 k4]) HM.out nMS)
  have HRn : Hid (Own R ([.int .u32 0, .int .u32 0, .int .u32 0, .int .u32 0, .int .u32 0, .int .u32 0, .int .u32 0, .int .u32 0, .int .u32 0, .int .u32 0, .int .u32 0, .int .u32 0, .int .u32 0, .int .u32 0, .int .u32 0, .int .u32 0]) (w1.setCells S 8 [.int .u32 k4])) := Lib.hid (Own.far (o := 8) (vs := [.int .u32 k4]) HR.out nRS)
  have hB0n : Below w.heap.size w (w1.setCells S 8 [.int .u32 k4]) := Below.setCells hB0 Sw [.int .u32 k4] 8
  clear HS HK HM HR hB0
  generalize (w1.setCells S 8 [.int .u32 k4]) = w2 at *
  have HS := HSn
  clear HSn
  have HK := HKn
  clear HKn
  have HM := HMn
  clear HMn
  have HR := HRn
  clear HRn
  have hB0 := hB0n
  clear hB0n
  rw [rounds_succ]
  go_wp2_with (fail)
  go_at_call 25
  refine (number_own K 20 _ _ 32 kf FK.out (by decide) (by decide) _ HK.out).mono ?_
  rintro e w1 ⟨rfl, hb⟩
  rw [ek5]
  have HSk := Lib.hid (HS.out.later hb)
  have HKk := Lib.hid (HK.out.later hb)
  have HMk := Lib.hid (HM.out.later hb)
  have HRk := Lib.hid (HR.out.later hb)
  clear HS HK HM HR
  have HS := HSk
  clear HSk
  have HK := HKk
  clear HKk
  have HM := HMk
  clear HMk
  have HR := HRk
  clear HRk
  have hB1 := Below.go hB0 hb
  clear hB0 hb
  have hB0 := hB1
  clear hB1
  have oS := HS.out
  have S9 := oS.at 9 _ rfl
  have Sf9 := oS.ok 9 (by simp)
  have Sl := oS.lt
  clear oS
  go_wp2_with (fail)
  clear S9 Sf9 Sl
  change Code.rounds _ _ _ _ _ (w1.setCells S 9 [.int .u32 k5])
  have HSn : Hid (Own S ([.int .u32 1634760805, .int .u32 857760878, .int .u32 2036477234, .int .u32 1797285236, .int .u32 k0, .int .u32 k1, .int .u32 k2, .int .u32 k3, .int .u32 k4, .int .u32 k5, .int .u32 0, .int .u32 0, .int .u32 c, .int .u32 0, .int .u32 0, .int .u32 0]) (w1.setCells S 9 [.int .u32 k5])) := Lib.hid (show Own S (over _ 9 [.int .u32 k5]) _ from Own.part HS.out (by simp))
  have HKn : Hid (Own K (nums .u8 kf 32) (w1.setCells S 9 [.int .u32 k5])) := Lib.hid (Own.far (o := 9) (vs := [.int .u32 k5]) HK.out nKS)
  have HMn : Hid (Own M (nums .u8 nf 12) (w1.setCells S 9 [.int .u32 k5])) := Lib.hid (Own.far (o := 9) (vs := [.int .u32 k5]) HM.out nMS)
  have HRn : Hid (Own R ([.int .u32 0, .int .u32 0, .int .u32 0, .int .u32 0, .int .u32 0, .int .u32 0, .int .u32 0, .int .u32 0, .int .u32 0, .int .u32 0, .int .u32 0, .int .u32 0, .int .u32 0, .int .u32 0, .int .u32 0, .int .u32 0]) (w1.setCells S 9 [.int .u32 k5])) := Lib.hid (Own.far (o := 9) (vs := [.int .u32 k5]) HR.out nRS)
  have hB0n : Below w.heap.size w (w1.setCells S 9 [.int .u32 k5]) := Below.setCells hB0 Sw [.int .u32 k5] 9
  clear HS HK HM HR hB0
  generalize (w1.setCells S 9 [.int .u32 k5]) = w2 at *
  have HS := HSn
  clear HSn
  have HK := HKn
  clear HKn
  have HM := HMn
  clear HMn
  have HR := HRn
  clear HRn
  have hB0 := hB0n
  clear hB0n
  rw [rounds_succ]
  go_wp2_with (fail)
  go_at_call 25
  refine (number_own K 24 _ _ 32 kf FK.out (by decide) (by decide) _ HK.out).mono ?_
  rintro e w1 ⟨rfl, hb⟩
  rw [ek6]
  have HSk := Lib.hid (HS.out.later hb)
  have HKk := Lib.hid (HK.out.later hb)
  have HMk := Lib.hid (HM.out.later hb)
  have HRk := Lib.hid (HR.out.later hb)
  clear HS HK HM HR
  have HS := HSk
  clear HSk
  have HK := HKk
  clear HKk
  have HM := HMk
  clear HMk
  have HR := HRk
  clear HRk
  have hB1 := Below.go hB0 hb
  clear hB0 hb
  have hB0 := hB1
  clear hB1
  have oS := HS.out
  have S10 := oS.at 10 _ rfl
  have Sf10 := oS.ok 10 (by simp)
  have Sl := oS.lt
  clear oS
  go_wp2_with (fail)
  clear S10 Sf10 Sl
  change Code.rounds _ _ _ _ _ (w1.setCells S 10 [.int .u32 k6])
  have HSn : Hid (Own S ([.int .u32 1634760805, .int .u32 857760878, .int .u32 2036477234, .int .u32 1797285236, .int .u32 k0, .int .u32 k1, .int .u32 k2, .int .u32 k3, .int .u32 k4, .int .u32 k5, .int .u32 k6, .int .u32 0, .int .u32 c, .int .u32 0, .int .u32 0, .int .u32 0]) (w1.setCells S 10 [.int .u32 k6])) := Lib.hid (show Own S (over _ 10 [.int .u32 k6]) _ from Own.part HS.out (by simp))
  have HKn : Hid (Own K (nums .u8 kf 32) (w1.setCells S 10 [.int .u32 k6])) := Lib.hid (Own.far (o := 10) (vs := [.int .u32 k6]) HK.out nKS)
  have HMn : Hid (Own M (nums .u8 nf 12) (w1.setCells S 10 [.int .u32 k6])) := Lib.hid (Own.far (o := 10) (vs := [.int .u32 k6]) HM.out nMS)
  have HRn : Hid (Own R ([.int .u32 0, .int .u32 0, .int .u32 0, .int .u32 0, .int .u32 0, .int .u32 0, .int .u32 0, .int .u32 0, .int .u32 0, .int .u32 0, .int .u32 0, .int .u32 0, .int .u32 0, .int .u32 0, .int .u32 0, .int .u32 0]) (w1.setCells S 10 [.int .u32 k6])) := Lib.hid (Own.far (o := 10) (vs := [.int .u32 k6]) HR.out nRS)
  have hB0n : Below w.heap.size w (w1.setCells S 10 [.int .u32 k6]) := Below.setCells hB0 Sw [.int .u32 k6] 10
  clear HS HK HM HR hB0
  generalize (w1.setCells S 10 [.int .u32 k6]) = w2 at *
  have HS := HSn
  clear HSn
  have HK := HKn
  clear HKn
  have HM := HMn
  clear HMn
  have HR := HRn
  clear HRn
  have hB0 := hB0n
  clear hB0n
  rw [rounds_succ]
  go_wp2_with (fail)
  go_at_call 25
  refine (number_own K 28 _ _ 32 kf FK.out (by decide) (by decide) _ HK.out).mono ?_
  rintro e w1 ⟨rfl, hb⟩
  rw [ek7]
  have HSk := Lib.hid (HS.out.later hb)
  have HKk := Lib.hid (HK.out.later hb)
  have HMk := Lib.hid (HM.out.later hb)
  have HRk := Lib.hid (HR.out.later hb)
  clear HS HK HM HR
  have HS := HSk
  clear HSk
  have HK := HKk
  clear HKk
  have HM := HMk
  clear HMk
  have HR := HRk
  clear HRk
  have hB1 := Below.go hB0 hb
  clear hB0 hb
  have hB0 := hB1
  clear hB1
  have oS := HS.out
  have S11 := oS.at 11 _ rfl
  have Sf11 := oS.ok 11 (by simp)
  have Sl := oS.lt
  clear oS
  go_wp2_with (fail)
  clear S11 Sf11 Sl
  change Code.rounds _ _ _ _ _ (w1.setCells S 11 [.int .u32 k7])
  have HSn : Hid (Own S ([.int .u32 1634760805, .int .u32 857760878, .int .u32 2036477234, .int .u32 1797285236, .int .u32 k0, .int .u32 k1, .int .u32 k2, .int .u32 k3, .int .u32 k4, .int .u32 k5, .int .u32 k6, .int .u32 k7, .int .u32 c, .int .u32 0, .int .u32 0, .int .u32 0]) (w1.setCells S 11 [.int .u32 k7])) := Lib.hid (show Own S (over _ 11 [.int .u32 k7]) _ from Own.part HS.out (by simp))
  have HKn : Hid (Own K (nums .u8 kf 32) (w1.setCells S 11 [.int .u32 k7])) := Lib.hid (Own.far (o := 11) (vs := [.int .u32 k7]) HK.out nKS)
  have HMn : Hid (Own M (nums .u8 nf 12) (w1.setCells S 11 [.int .u32 k7])) := Lib.hid (Own.far (o := 11) (vs := [.int .u32 k7]) HM.out nMS)
  have HRn : Hid (Own R ([.int .u32 0, .int .u32 0, .int .u32 0, .int .u32 0, .int .u32 0, .int .u32 0, .int .u32 0, .int .u32 0, .int .u32 0, .int .u32 0, .int .u32 0, .int .u32 0, .int .u32 0, .int .u32 0, .int .u32 0, .int .u32 0]) (w1.setCells S 11 [.int .u32 k7])) := Lib.hid (Own.far (o := 11) (vs := [.int .u32 k7]) HR.out nRS)
  have hB0n : Below w.heap.size w (w1.setCells S 11 [.int .u32 k7]) := Below.setCells hB0 Sw [.int .u32 k7] 11
  clear HS HK HM HR hB0
  generalize (w1.setCells S 11 [.int .u32 k7]) = w2 at *
  have HS := HSn
  clear HSn
  have HK := HKn
  clear HKn
  have HM := HMn
  clear HMn
  have HR := HRn
  clear HRn
  have hB0 := hB0n
  clear hB0n
  rw [rounds_succ]
  go_wp2_with (fail)
  refine wp_loop_rounds 4 ?_
  rw [rounds_succ]
  go_wp2_with (fail)
  go_at_call 25
  refine (number_own M 0 _ _ 12 nf FN.out (by decide) (by decide) _ HM.out).mono ?_
  rintro e w1 ⟨rfl, hb⟩
  rw [em0]
  have HSk := Lib.hid (HS.out.later hb)
  have HKk := Lib.hid (HK.out.later hb)
  have HMk := Lib.hid (HM.out.later hb)
  have HRk := Lib.hid (HR.out.later hb)
  clear HS HK HM HR
  have HS := HSk
  clear HSk
  have HK := HKk
  clear HKk
  have HM := HMk
  clear HMk
  have HR := HRk
  clear HRk
  have hB1 := Below.go hB0 hb
  clear hB0 hb
  have hB0 := hB1
  clear hB1
  have oS := HS.out
  have S13 := oS.at 13 _ rfl
  have Sf13 := oS.ok 13 (by simp)
  have Sl := oS.lt
  clear oS
  go_wp2_with (fail)
  clear S13 Sf13 Sl
  change Code.rounds _ _ _ _ _ (w1.setCells S 13 [.int .u32 m0])
  have HSn : Hid (Own S ([.int .u32 1634760805, .int .u32 857760878, .int .u32 2036477234, .int .u32 1797285236, .int .u32 k0, .int .u32 k1, .int .u32 k2, .int .u32 k3, .int .u32 k4, .int .u32 k5, .int .u32 k6, .int .u32 k7, .int .u32 c, .int .u32 m0, .int .u32 0, .int .u32 0]) (w1.setCells S 13 [.int .u32 m0])) := Lib.hid (show Own S (over _ 13 [.int .u32 m0]) _ from Own.part HS.out (by simp))
  have HKn : Hid (Own K (nums .u8 kf 32) (w1.setCells S 13 [.int .u32 m0])) := Lib.hid (Own.far (o := 13) (vs := [.int .u32 m0]) HK.out nKS)
  have HMn : Hid (Own M (nums .u8 nf 12) (w1.setCells S 13 [.int .u32 m0])) := Lib.hid (Own.far (o := 13) (vs := [.int .u32 m0]) HM.out nMS)
  have HRn : Hid (Own R ([.int .u32 0, .int .u32 0, .int .u32 0, .int .u32 0, .int .u32 0, .int .u32 0, .int .u32 0, .int .u32 0, .int .u32 0, .int .u32 0, .int .u32 0, .int .u32 0, .int .u32 0, .int .u32 0, .int .u32 0, .int .u32 0]) (w1.setCells S 13 [.int .u32 m0])) := Lib.hid (Own.far (o := 13) (vs := [.int .u32 m0]) HR.out nRS)
  have hB0n : Below w.heap.size w (w1.setCells S 13 [.int .u32 m0]) := Below.setCells hB0 Sw [.int .u32 m0] 13
  clear HS HK HM HR hB0
  generalize (w1.setCells S 13 [.int .u32 m0]) = w2 at *
  have HS := HSn
  clear HSn
  have HK := HKn
  clear HKn
  have HM := HMn
  clear HMn
  have HR := HRn
  clear HRn
  have hB0 := hB0n
  clear hB0n
  rw [rounds_succ]
  go_wp2_with (fail)
  go_at_call 25
  refine (number_own M 4 _ _ 12 nf FN.out (by decide) (by decide) _ HM.out).mono ?_
  rintro e w1 ⟨rfl, hb⟩
  rw [em1]
  have HSk := Lib.hid (HS.out.later hb)
  have HKk := Lib.hid (HK.out.later hb)
  have HMk := Lib.hid (HM.out.later hb)
  have HRk := Lib.hid (HR.out.later hb)
  clear HS HK HM HR
  have HS := HSk
  clear HSk
  have HK := HKk
  clear HKk
  have HM := HMk
  clear HMk
  have HR := HRk
  clear HRk
  have hB1 := Below.go hB0 hb
  clear hB0 hb
  have hB0 := hB1
  clear hB1
  have oS := HS.out
  have S14 := oS.at 14 _ rfl
  have Sf14 := oS.ok 14 (by simp)
  have Sl := oS.lt
  clear oS
  go_wp2_with (fail)
  clear S14 Sf14 Sl
  change Code.rounds _ _ _ _ _ (w1.setCells S 14 [.int .u32 m1])
  have HSn : Hid (Own S ([.int .u32 1634760805, .int .u32 857760878, .int .u32 2036477234, .int .u32 1797285236, .int .u32 k0, .int .u32 k1, .int .u32 k2, .int .u32 k3, .int .u32 k4, .int .u32 k5, .int .u32 k6, .int .u32 k7, .int .u32 c, .int .u32 m0, .int .u32 m1, .int .u32 0]) (w1.setCells S 14 [.int .u32 m1])) := Lib.hid (show Own S (over _ 14 [.int .u32 m1]) _ from Own.part HS.out (by simp))
  have HKn : Hid (Own K (nums .u8 kf 32) (w1.setCells S 14 [.int .u32 m1])) := Lib.hid (Own.far (o := 14) (vs := [.int .u32 m1]) HK.out nKS)
  have HMn : Hid (Own M (nums .u8 nf 12) (w1.setCells S 14 [.int .u32 m1])) := Lib.hid (Own.far (o := 14) (vs := [.int .u32 m1]) HM.out nMS)
  have HRn : Hid (Own R ([.int .u32 0, .int .u32 0, .int .u32 0, .int .u32 0, .int .u32 0, .int .u32 0, .int .u32 0, .int .u32 0, .int .u32 0, .int .u32 0, .int .u32 0, .int .u32 0, .int .u32 0, .int .u32 0, .int .u32 0, .int .u32 0]) (w1.setCells S 14 [.int .u32 m1])) := Lib.hid (Own.far (o := 14) (vs := [.int .u32 m1]) HR.out nRS)
  have hB0n : Below w.heap.size w (w1.setCells S 14 [.int .u32 m1]) := Below.setCells hB0 Sw [.int .u32 m1] 14
  clear HS HK HM HR hB0
  generalize (w1.setCells S 14 [.int .u32 m1]) = w2 at *
  have HS := HSn
  clear HSn
  have HK := HKn
  clear HKn
  have HM := HMn
  clear HMn
  have HR := HRn
  clear HRn
  have hB0 := hB0n
  clear hB0n
  rw [rounds_succ]
  go_wp2_with (fail)
  go_at_call 25
  refine (number_own M 8 _ _ 12 nf FN.out (by decide) (by decide) _ HM.out).mono ?_
  rintro e w1 ⟨rfl, hb⟩
  rw [em2]
  have HSk := Lib.hid (HS.out.later hb)
  have HKk := Lib.hid (HK.out.later hb)
  have HMk := Lib.hid (HM.out.later hb)
  have HRk := Lib.hid (HR.out.later hb)
  clear HS HK HM HR
  have HS := HSk
  clear HSk
  have HK := HKk
  clear HKk
  have HM := HMk
  clear HMk
  have HR := HRk
  clear HRk
  have hB1 := Below.go hB0 hb
  clear hB0 hb
  have hB0 := hB1
  clear hB1
  have oS := HS.out
  have S15 := oS.at 15 _ rfl
  have Sf15 := oS.ok 15 (by simp)
  have Sl := oS.lt
  clear oS
  go_wp2_with (fail)
  clear S15 Sf15 Sl
  change Code.rounds _ _ _ _ _ (w1.setCells S 15 [.int .u32 m2])
  have HSn : Hid (Own S ([.int .u32 1634760805, .int .u32 857760878, .int .u32 2036477234, .int .u32 1797285236, .int .u32 k0, .int .u32 k1, .int .u32 k2, .int .u32 k3, .int .u32 k4, .int .u32 k5, .int .u32 k6, .int .u32 k7, .int .u32 c, .int .u32 m0, .int .u32 m1, .int .u32 m2]) (w1.setCells S 15 [.int .u32 m2])) := Lib.hid (show Own S (over _ 15 [.int .u32 m2]) _ from Own.part HS.out (by simp))
  have HKn : Hid (Own K (nums .u8 kf 32) (w1.setCells S 15 [.int .u32 m2])) := Lib.hid (Own.far (o := 15) (vs := [.int .u32 m2]) HK.out nKS)
  have HMn : Hid (Own M (nums .u8 nf 12) (w1.setCells S 15 [.int .u32 m2])) := Lib.hid (Own.far (o := 15) (vs := [.int .u32 m2]) HM.out nMS)
  have HRn : Hid (Own R ([.int .u32 0, .int .u32 0, .int .u32 0, .int .u32 0, .int .u32 0, .int .u32 0, .int .u32 0, .int .u32 0, .int .u32 0, .int .u32 0, .int .u32 0, .int .u32 0, .int .u32 0, .int .u32 0, .int .u32 0, .int .u32 0]) (w1.setCells S 15 [.int .u32 m2])) := Lib.hid (Own.far (o := 15) (vs := [.int .u32 m2]) HR.out nRS)
  have hB0n : Below w.heap.size w (w1.setCells S 15 [.int .u32 m2]) := Below.setCells hB0 Sw [.int .u32 m2] 15
  clear HS HK HM HR hB0
  generalize (w1.setCells S 15 [.int .u32 m2]) = w2 at *
  have HS := HSn
  clear HSn
  have HK := HKn
  clear HKn
  have HM := HMn
  clear HMn
  have HR := HRn
  clear HRn
  have hB0 := hB0n
  clear hB0n
  rw [rounds_succ]
  go_upto_region 12 with fail
  refine wp_region_lit ?_
  refine wpList_load_mid rfl 56 _ rfl S 0 rfl ([.int .u32 1634760805, .int .u32 857760878, .int .u32 2036477234, .int .u32 1797285236, .int .u32 k0, .int .u32 k1, .int .u32 k2, .int .u32 k3, .int .u32 k4, .int .u32 k5, .int .u32 k6, .int .u32 k7, .int .u32 c, .int .u32 m0, .int .u32 m1, .int .u32 m2]) _ HS.out.cell Tryd.underlying56 rfl (by kernel_rfl) ?_
  refine wpList_store_mid rfl 56 _ _ rfl R 0 ([.int .u32 1634760805, .int .u32 857760878, .int .u32 2036477234, .int .u32 1797285236, .int .u32 k0, .int .u32 k1, .int .u32 k2, .int .u32 k3, .int .u32 k4, .int .u32 k5, .int .u32 k6, .int .u32 k7, .int .u32 c, .int .u32 m0, .int .u32 m1, .int .u32 m2]).toArray rfl rfl HR.out.free (by kernel_rfl) (by simp [Value.oneCell']) ?_
  change wpList _ _ _ [] _ (w2.setCells R 0 [.int .u32 1634760805, .int .u32 857760878, .int .u32 2036477234, .int .u32 1797285236, .int .u32 k0, .int .u32 k1, .int .u32 k2, .int .u32 k3, .int .u32 k4, .int .u32 k5, .int .u32 k6, .int .u32 k7, .int .u32 c, .int .u32 m0, .int .u32 m1, .int .u32 m2])
  have HRn : Hid (Own R ([.int .u32 1634760805, .int .u32 857760878, .int .u32 2036477234, .int .u32 1797285236, .int .u32 k0, .int .u32 k1, .int .u32 k2, .int .u32 k3, .int .u32 k4, .int .u32 k5, .int .u32 k6, .int .u32 k7, .int .u32 c, .int .u32 m0, .int .u32 m1, .int .u32 m2]) (w2.setCells R 0 [.int .u32 1634760805, .int .u32 857760878, .int .u32 2036477234, .int .u32 1797285236, .int .u32 k0, .int .u32 k1, .int .u32 k2, .int .u32 k3, .int .u32 k4, .int .u32 k5, .int .u32 k6, .int .u32 k7, .int .u32 c, .int .u32 m0, .int .u32 m1, .int .u32 m2])) := Lib.hid (Own.store HR.out rfl)
  have HSn : Hid (Own S ([.int .u32 1634760805, .int .u32 857760878, .int .u32 2036477234, .int .u32 1797285236, .int .u32 k0, .int .u32 k1, .int .u32 k2, .int .u32 k3, .int .u32 k4, .int .u32 k5, .int .u32 k6, .int .u32 k7, .int .u32 c, .int .u32 m0, .int .u32 m1, .int .u32 m2]) (w2.setCells R 0 [.int .u32 1634760805, .int .u32 857760878, .int .u32 2036477234, .int .u32 1797285236, .int .u32 k0, .int .u32 k1, .int .u32 k2, .int .u32 k3, .int .u32 k4, .int .u32 k5, .int .u32 k6, .int .u32 k7, .int .u32 c, .int .u32 m0, .int .u32 m1, .int .u32 m2])) := Lib.hid (Own.far (o := 0) (vs := [.int .u32 1634760805, .int .u32 857760878, .int .u32 2036477234, .int .u32 1797285236, .int .u32 k0, .int .u32 k1, .int .u32 k2, .int .u32 k3, .int .u32 k4, .int .u32 k5, .int .u32 k6, .int .u32 k7, .int .u32 c, .int .u32 m0, .int .u32 m1, .int .u32 m2]) HS.out nSR)
  have HKn : Hid (Own K (nums .u8 kf 32) (w2.setCells R 0 [.int .u32 1634760805, .int .u32 857760878, .int .u32 2036477234, .int .u32 1797285236, .int .u32 k0, .int .u32 k1, .int .u32 k2, .int .u32 k3, .int .u32 k4, .int .u32 k5, .int .u32 k6, .int .u32 k7, .int .u32 c, .int .u32 m0, .int .u32 m1, .int .u32 m2])) := Lib.hid (Own.far (o := 0) (vs := [.int .u32 1634760805, .int .u32 857760878, .int .u32 2036477234, .int .u32 1797285236, .int .u32 k0, .int .u32 k1, .int .u32 k2, .int .u32 k3, .int .u32 k4, .int .u32 k5, .int .u32 k6, .int .u32 k7, .int .u32 c, .int .u32 m0, .int .u32 m1, .int .u32 m2]) HK.out nKR)
  have HMn : Hid (Own M (nums .u8 nf 12) (w2.setCells R 0 [.int .u32 1634760805, .int .u32 857760878, .int .u32 2036477234, .int .u32 1797285236, .int .u32 k0, .int .u32 k1, .int .u32 k2, .int .u32 k3, .int .u32 k4, .int .u32 k5, .int .u32 k6, .int .u32 k7, .int .u32 c, .int .u32 m0, .int .u32 m1, .int .u32 m2])) := Lib.hid (Own.far (o := 0) (vs := [.int .u32 1634760805, .int .u32 857760878, .int .u32 2036477234, .int .u32 1797285236, .int .u32 k0, .int .u32 k1, .int .u32 k2, .int .u32 k3, .int .u32 k4, .int .u32 k5, .int .u32 k6, .int .u32 k7, .int .u32 c, .int .u32 m0, .int .u32 m1, .int .u32 m2]) HM.out nMR)
  have hB0n : Below w.heap.size w (w2.setCells R 0 [.int .u32 1634760805, .int .u32 857760878, .int .u32 2036477234, .int .u32 1797285236, .int .u32 k0, .int .u32 k1, .int .u32 k2, .int .u32 k3, .int .u32 k4, .int .u32 k5, .int .u32 k6, .int .u32 k7, .int .u32 c, .int .u32 m0, .int .u32 m1, .int .u32 m2]) := Below.setCells hB0 Rw [.int .u32 1634760805, .int .u32 857760878, .int .u32 2036477234, .int .u32 1797285236, .int .u32 k0, .int .u32 k1, .int .u32 k2, .int .u32 k3, .int .u32 k4, .int .u32 k5, .int .u32 k6, .int .u32 k7, .int .u32 c, .int .u32 m0, .int .u32 m1, .int .u32 m2] 0
  clear HR HS HK HM hB0
  generalize (w2.setCells R 0 [.int .u32 1634760805, .int .u32 857760878, .int .u32 2036477234, .int .u32 1797285236, .int .u32 k0, .int .u32 k1, .int .u32 k2, .int .u32 k3, .int .u32 k4, .int .u32 k5, .int .u32 k6, .int .u32 k7, .int .u32 c, .int .u32 m0, .int .u32 m1, .int .u32 m2]) = w3 at *
  have HR := HRn
  clear HRn
  have HS := HSn
  clear HSn
  have HK := HKn
  clear HKn
  have HM := HMn
  clear HMn
  have hB0 := hB0n
  clear hB0n
  go_wp2_with (fail)
  have hL := run_loadVar_mid (P := Tryd.prog) _ R 0 56 ([.int .u32 1634760805, .int .u32 857760878, .int .u32 2036477234, .int .u32 1797285236, .int .u32 k0, .int .u32 k1, .int .u32 k2, .int .u32 k3, .int .u32 k4, .int .u32 k5, .int .u32 k6, .int .u32 k7, .int .u32 c, .int .u32 m0, .int .u32 m1, .int .u32 m2]) _ HR.out.cell Tryd.underlying56 rfl (by kernel_rfl)
  exact bodyPost_ret (v := .agg ([.int .u32 1634760805, .int .u32 857760878, .int .u32 2036477234, .int .u32 1797285236, .int .u32 k0, .int .u32 k1, .int .u32 k2, .int .u32 k3, .int .u32 k4, .int .u32 k5, .int .u32 k6, .int .u32 k7, .int .u32 c, .int .u32 m0, .int .u32 m1, .int .u32 m2]).toArray) (res_cell Tryd.results21 rfl hL) rfl ⟨rfl, hB0⟩
end Go.Proofs.YtbepgbpmgiihbaaDoor
