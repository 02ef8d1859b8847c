/- asset: Light. -/
import Derived.Test.YtokfhhngnpbdkaaDoorIB
import Derived.Test.YtokfhhngnpbdkaaDoorIC
import Derived.Lib.Hide
import Derived.LoopN
import Derived.LoopTactic
import Derived.Deep.Onto
import Derived.Deep.RegionHeld3
import Derived.Deep.QuietTactic
import Derived.BigQuiet
import Derived.Great.BuildSlice
import Derived.StillTailTactics
import Derived.Lib.SliceRun
namespace Go.Proofs.YtokfhhngnpbdkaaDoor
set_option linter.unusedVariables false
set_option maxRecDepth 2000
set_option linter.unusedSimpArgs false
open Go.RowKit
theorem lgA_iff {l : Nat → Int} {b1 b2 : Bool} (e1 : decide (0 ≤ l 0 ∧ l 0 ≤ 2) = b1) (e2 : btw 0 1048576 (fun i => l (1 + i)) 3 = b2) : lgA l ↔ (b1 = true ∧ b2 = true) := by
  have h2 := @btw_3 0 1048576 (fun i => l (1 + i))
  rw [e2] at h2
  simp only [Nat.add_zero, Nat.reduceAdd] at h2
  rw [← e1, decide_eq_true_eq, h2]
  unfold lgA
  exact Iff.rfl
theorem btw_9 {lo hi : Int} {g : Nat → Int} : btw lo hi g 9 = true ↔ (lo ≤ g 0 ∧ g 0 ≤ hi) ∧ (lo ≤ g 1 ∧ g 1 ≤ hi) ∧ (lo ≤ g 2 ∧ g 2 ≤ hi) ∧ (lo ≤ g 3 ∧ g 3 ≤ hi) ∧ (lo ≤ g 4 ∧ g 4 ≤ hi) ∧ (lo ≤ g 5 ∧ g 5 ≤ hi) ∧ (lo ≤ g 6 ∧ g 6 ≤ hi) ∧ (lo ≤ g 7 ∧ g 7 ≤ hi) ∧ (lo ≤ g 8 ∧ g 8 ≤ hi) := by
  unfold btw
  rw [allB_iff]
  constructor
  · intro h; exact ⟨decide_eq_true_iff.1 (h 0 (by decide)), decide_eq_true_iff.1 (h 1 (by decide)), decide_eq_true_iff.1 (h 2 (by decide)), decide_eq_true_iff.1 (h 3 (by decide)), decide_eq_true_iff.1 (h 4 (by decide)), decide_eq_true_iff.1 (h 5 (by decide)), decide_eq_true_iff.1 (h 6 (by decide)), decide_eq_true_iff.1 (h 7 (by decide)), decide_eq_true_iff.1 (h 8 (by decide))⟩
  · rintro ⟨a0, a1, a2, a3, a4, a5, a6, a7, a8⟩ k hk
    match k, hk with
    | 0, _ => exact decide_eq_true a0
    | 1, _ => exact decide_eq_true a1
    | 2, _ => exact decide_eq_true a2
    | 3, _ => exact decide_eq_true a3
    | 4, _ => exact decide_eq_true a4
    | 5, _ => exact decide_eq_true a5
    | 6, _ => exact decide_eq_true a6
    | 7, _ => exact decide_eq_true a7
    | 8, _ => exact decide_eq_true a8
theorem lgB_iff {l : Nat → Int} {b : Bool} (e : btw (-4096) 4096 (fun i => l (4 + i)) (3 * 3) = b) : lgB l ↔ b = true := by
  have h2 := @btw_9 (-4096) 4096 (fun i => l (4 + i))
  rw [show btw (-4096) 4096 (fun i => l (4 + i)) 9 = b from e] at h2
  simp only [Nat.add_zero, Nat.reduceAdd] at h2
  rw [h2]
  unfold lgB on3
  simp only [and_assoc]
set_option maxHeartbeats 4000000 in
theorem Light_any (l : Nat → Int) (w : World) : Calls Tryd.prog 11 #[(.agg #[.int .i64 (l 0), .int .i64 (l 1), .int .i64 (l 2), .int .i64 (l 3), .int .i64 (l 4), .int .i64 (l 5), .int .i64 (l 6), .int .i64 (l 7), .int .i64 (l 8), .int .i64 (l 9), .int .i64 (l 10), .int .i64 (l 11), .int .i64 (l 12)])] w fun e w' => e = .returned (.int .i64 (chkLg l)) ∧ Below w.heap.size w w' := by
  have K1 := Lib.hid (@chkLg_1 l); have K2 := Lib.hid (@chkLg_2 l); have K3 := Lib.hid (@chkLg_3 l); have K4 := Lib.hid (@chkLg_4 l)
  generalize chkLg l = z at *
  obtain ⟨b1, e1⟩ : ∃ b, decide (0 ≤ l 0 ∧ l 0 ≤ 2) = b := ⟨_, rfl⟩
  obtain ⟨b2, e2⟩ : ∃ b, btw 0 1048576 (fun i => l (1 + i)) 3 = b := ⟨_, rfl⟩
  obtain ⟨b3, e3⟩ : ∃ b, btw (-4096) 4096 (fun i => l (4 + i)) (3 * 3) = b := ⟨_, rfl⟩
  obtain ⟨b4, e4⟩ : ∃ b, decide (lgC l) = b := ⟨_, rfl⟩
  have E1 := Lib.hid e1; have E2 := Lib.hid e2; have E3 := Lib.hid e3; have E4 := Lib.hid e4
  have IA_ := Lib.hid (lgA_iff e1 e2); have IB_ := Lib.hid (lgB_iff e3)
  clear e1 e2 e3 e4
  go_enter Tryd.func11, Tryd.ntmps11
  go_upto_region 1 with fail
  obtain ⟨W0, hW⟩ : ∃ W0, W0 = (w.alloc (.cells #[.int .i64 (l 0), .int .i64 (l 1), .int .i64 (l 2), .int .i64 (l 3), .int .i64 (l 4), .int .i64 (l 5), .int .i64 (l 6), .int .i64 (l 7), .int .i64 (l 8), .int .i64 (l 9), .int .i64 (l 10), .int .i64 (l 11), .int .i64 (l 12)] 35)) := ⟨_, rfl⟩
  have hB0 : Below w.heap.size w W0 := hW ▸ (Below.al (Below.refl _ _))
  have HA : Hid (Own w.heap.size ([.int .i64 (l 0), .int .i64 (l 1), .int .i64 (l 2), .int .i64 (l 3), .int .i64 (l 4), .int .i64 (l 5), .int .i64 (l 6), .int .i64 (l 7), .int .i64 (l 8), .int .i64 (l 9), .int .i64 (l 10), .int .i64 (l 11), .int .i64 (l 12)]) W0) := Lib.hid (hW ▸ (show Own w.heap.size ([.int .i64 (l 0), .int .i64 (l 1), .int .i64 (l 2), .int .i64 (l 3), .int .i64 (l 4), .int .i64 (l 5), .int .i64 (l 6), .int .i64 (l 7), .int .i64 (l 8), .int .i64 (l 9), .int .i64 (l 10), .int .i64 (l 11), .int .i64 (l 12)]) (w.alloc (.cells #[.int .i64 (l 0), .int .i64 (l 1), .int .i64 (l 2), .int .i64 (l 3), .int .i64 (l 4), .int .i64 (l 5), .int .i64 (l 6), .int .i64 (l 7), .int .i64 (l 8), .int .i64 (l 9), .int .i64 (l 10), .int .i64 (l 11), .int .i64 (l 12)] 35)) from Own.newAt (by simp)))
  rw [← hW]
  clear hW
  obtain ⟨A, eA⟩ : ∃ X, X = w.heap.size := ⟨_, rfl⟩
  rw [← eA] at HA ⊢
  have Aw : w.heap.size ≤ A := by omega
  clear eA
  have HB := Lib.hid hB0
  clear hB0
  have oA := HA.out
  have A0 := oA.at 0 _ rfl
  have Al := oA.lt
  clear oA
  go_wp2_with (fail)
  clear A0 Al
  go_at_call 25
  refine (within_any 0 2 _ 1 1 (fun _ => l 0) (by decide) (by decide) _ (nm_new rfl)).mono ?_
  rintro e w1 ⟨rfl, hw⟩
  rw [btw1 _ _ _ _ E1.out]
  have hb := show Below W0.heap.size W0 _ from hw ▸ (Below.al (Below.refl _ _))
  clear hw
  have HA_ := Lib.hid (HA.out.later hb)
  clear HA
  have HA := HA_
  clear HA_
  have HB_ := Lib.hid (Below.go HB.out hb)
  clear HB
  have HB := HB_
  clear HB_
  clear hb 
  cases b1 with
  | false =>
    have HZ : Hid (z = 5) := Lib.hid (K1.out (fun h => by simpa using IA_.out.1 h))
    go_wp2_with (fail)
    go_ret
    exact ⟨by rw [HZ.out]; rfl, HB.out⟩
  | true =>
    have oA := HA.out
    have A0 := oA.at 0 _ rfl
    have A1 := oA.at 1 _ rfl
    have A2 := oA.at 2 _ rfl
    have A3 := oA.at 3 _ rfl
    have A4 := oA.at 4 _ rfl
    have Al := oA.lt
    clear oA
    go_wp2_with (fail)
    clear A0 A1 A2 A3 A4 Al
    have NA : Nm w1 .i64 (some ⟨A, 1, none⟩) 3 (fun i => l (1 + i)) := .inr ⟨A, 1, rfl, has_sub 1 HA.out.has (fun j v h => by
      match j, h with
      | 0, h => exact h
      | 1, h => exact h
      | 2, h => exact h)⟩
    go_at_call 25
    refine (within_any 0 1048576 _ 3 3 (fun i => l (1 + i)) (by decide) (by decide) _ NA).mono ?_
    rintro e w2 ⟨rfl, hw⟩
    subst hw
    clear NA
    rw [E2.out]
    cases b2 with
    | false =>
      have HZ : Hid (z = 5) := Lib.hid (K1.out (fun h => by simpa using IA_.out.1 h))
      go_wp2_with (fail)
      go_ret
      exact ⟨by rw [HZ.out]; rfl, HB.out⟩
    | true =>
      have GA_ := Lib.hid (IA_.out.2 ⟨by simp, by simp⟩)
      have oA := HA.out
      have A0 := oA.at 0 _ rfl
      have A1 := oA.at 1 _ rfl
      have A2 := oA.at 2 _ rfl
      have A3 := oA.at 3 _ rfl
      have A4 := oA.at 4 _ rfl
      have A5 := oA.at 5 _ rfl
      have A6 := oA.at 6 _ rfl
      have A7 := oA.at 7 _ rfl
      have A8 := oA.at 8 _ rfl
      have A9 := oA.at 9 _ rfl
      have A10 := oA.at 10 _ rfl
      have A11 := oA.at 11 _ rfl
      have A12 := oA.at 12 _ rfl
      have Al := oA.lt
      clear oA
      go_wp2_with (fail)
      clear A0 A1 A2 A3 A4 A5 A6 A7 A8 A9 A10 A11 A12 Al
      go_at_call 26
      refine (coords_any _ 3 3 (fun i => l (4 + i)) (by decide) (by decide) (by decide) _ (.inr ⟨_, 0, rfl, (Own.new _ [.int .i64 (l 4), .int .i64 (l 5), .int .i64 (l 6), .int .i64 (l 7), .int .i64 (l 8), .int .i64 (l 9), .int .i64 (l 10), .int .i64 (l 11), .int .i64 (l 12)] _).has⟩)).mono ?_
      rintro e w3 ⟨⟨p, d, rfl, hN, hd1, hd2⟩, hb⟩
      have hbx := Below.go (Below.al (Below.refl _ _)) hb
      clear hb
      have HA_ := Lib.hid (HA.out.later hbx)
      clear HA
      have HA := HA_
      clear HA_
      have HB_ := Lib.hid (Below.go HB.out hbx)
      clear HB
      have HB := HB_
      clear HB_
      clear hbx 
      have HN := Lib.hid hN; have HD := Lib.hid (And.intro hd1 hd2)
      clear hN hd1 hd2
      go_wp2_with (fail)
      go_at_call 25
      refine (within_any (-4096) 4096 _ (3 * 3) _ (fun i => l (4 + i)) HD.out.1 HD.out.2 _ HN.out).mono ?_
      rintro e w4 ⟨rfl, hw⟩
      subst hw
      clear HN HD
      rw [E3.out]
      cases b3 with
      | false =>
        have HZ : Hid (z = 8) := Lib.hid (K2.out GA_.out (fun h => by simpa using IB_.out.1 h))
        go_wp2_with (fail)
        go_ret
        exact ⟨by rw [HZ.out]; rfl, HB.out⟩
      | true =>
        have GB_ := Lib.hid (IB_.out.2 (by simp))
        have oA := HA.out
        have A0 := oA.at 0 _ rfl
        have A1 := oA.at 1 _ rfl
        have A2 := oA.at 2 _ rfl
        have A3 := oA.at 3 _ rfl
        have A4 := oA.at 4 _ rfl
        have A5 := oA.at 5 _ rfl
        have A6 := oA.at 6 _ rfl
        have A7 := oA.at 7 _ rfl
        have A8 := oA.at 8 _ rfl
        have A9 := oA.at 9 _ rfl
        have A10 := oA.at 10 _ rfl
        have A11 := oA.at 11 _ rfl
        have A12 := oA.at 12 _ rfl
        have Al := oA.lt
        clear oA
        go_wp2_with (fail)
        clear A0 A1 A2 A3 A4 A5 A6 A7 A8 A9 A10 A11 A12 Al
        go_at_call 27
        refine (hasMore_any l GA_.out.1 _).mono ?_
        rintro e w5 ⟨rfl, hb⟩
        have HA_ := Lib.hid (HA.out.later hb)
        clear HA
        have HA := HA_
        clear HA_
        have HB_ := Lib.hid (Below.go HB.out hb)
        clear HB
        have HB := HB_
        clear HB_
        clear hb 
        rw [E4.out]
        cases b4 with
        | false =>
          have HZ : Hid (z = 5) := Lib.hid (K3.out GA_.out GB_.out (of_decide_eq_false E4.out))
          go_wp2_with (fail)
          go_ret
          exact ⟨by rw [HZ.out]; rfl, HB.out⟩
        | true =>
          have HZ : Hid (z = 0) := Lib.hid (K4.out GA_.out GB_.out (of_decide_eq_true E4.out))
          go_wp2_with (fail)
          go_ret
          exact ⟨by rw [HZ.out]; rfl, HB.out⟩
end Go.Proofs.YtokfhhngnpbdkaaDoor
