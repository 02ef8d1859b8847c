/- asset: materials and lights, what may be. -/
import Derived.Test.YtokfhhngnpbdkaaDoorMB1
import Derived.Lib.Hide
import Derived.LoopN
import Derived.LoopTactic
import Derived.Deep.Onto
import Derived.Deep.RegionHeld3
import Derived.Deep.QuietTactic
import Derived.BigQuiet
import Derived.Great.BuildSlice
namespace Go.Proofs.YtokfhhngnpbdkaaDoor
set_option linter.unusedVariables false
set_option maxRecDepth 2000
set_option linter.unusedSimpArgs false
open Go.RowKit
/-- a material may be -/
def okG (g : Nat → Int) : Bool := decide ((0 ≤ g 0 ∧ g 0 ≤ 4) ∧ (0 ≤ g 1 ∧ g 1 ≤ 65535) ∧ (0 ≤ g 2 ∧ g 2 ≤ 65535) ∧ (0 ≤ g 3 ∧ g 3 ≤ 65535) ∧ (0 ≤ g 4 ∧ g 4 ≤ 65535))
def chkG (g : Nat → Int) : Int := if okG g = true then 0 else 5
/-- a light's kind and colour, its places, and what it may not have -/
def lgA (l : Nat → Int) : Prop := (0 ≤ l 0 ∧ l 0 ≤ 2) ∧ (0 ≤ l 1 ∧ l 1 ≤ 1048576) ∧ (0 ≤ l 2 ∧ l 2 ≤ 1048576) ∧ (0 ≤ l 3 ∧ l 3 ≤ 1048576)
def on3 (x y z : Int) : Prop := (-4096 ≤ x ∧ x ≤ 4096) ∧ (-4096 ≤ y ∧ y ≤ 4096) ∧ (-4096 ≤ z ∧ z ≤ 4096)
def lgB (l : Nat → Int) : Prop := on3 (l 4) (l 5) (l 6) ∧ on3 (l 7) (l 8) (l 9) ∧ on3 (l 10) (l 11) (l 12)
def nil3 (x y z : Int) : Prop := x = 0 ∧ y = 0 ∧ z = 0
def lgC (l : Nat → Int) : Prop := (l 0 = 2 → nil3 (l 4) (l 5) (l 6)) ∧ (l 0 ≠ 1 → nil3 (l 7) (l 8) (l 9) ∧ nil3 (l 10) (l 11) (l 12))
instance (l : Nat → Int) : Decidable (lgA l) := by unfold lgA; infer_instance
instance (x y z : Int) : Decidable (on3 x y z) := by unfold on3; infer_instance
instance (x y z : Int) : Decidable (nil3 x y z) := by unfold nil3; infer_instance
instance (l : Nat → Int) : Decidable (lgB l) := by unfold lgB; infer_instance
instance (l : Nat → Int) : Decidable (lgC l) := by unfold lgC; infer_instance
def chkLg (l : Nat → Int) : Int := if ¬lgA l then 5 else if ¬lgB l then 8 else if ¬lgC l then 5 else 0
theorem okG_iff {g : Nat → Int} : okG g = true ↔ (0 ≤ g 0 ∧ g 0 ≤ 4) ∧ (0 ≤ g 1 ∧ g 1 ≤ 65535) ∧ (0 ≤ g 2 ∧ g 2 ≤ 65535) ∧ (0 ≤ g 3 ∧ g 3 ≤ 65535) ∧ (0 ≤ g 4 ∧ g 4 ≤ 65535) := decide_eq_true_iff
theorem chkG_yes {g : Nat → Int} (h : okG g = true) : chkG g = 0 := if_pos h
theorem chkG_no {g : Nat → Int} (h : ¬(okG g = true)) : chkG g = 5 := if_neg h
theorem chkG_zero {g : Nat → Int} (h : chkG g = 0) : okG g = true := by
  by_cases k : okG g = true
  · exact k
  · rw [chkG_no k] at h; cases h
theorem chkLg_1 {l : Nat → Int} (h : ¬lgA l) : chkLg l = 5 := if_pos h
theorem chkLg_2 {l : Nat → Int} (h : lgA l) (h2 : ¬lgB l) : chkLg l = 8 := by unfold chkLg; rw [if_neg (fun k => k h), if_pos h2]
theorem chkLg_3 {l : Nat → Int} (h : lgA l) (h2 : lgB l) (h3 : ¬lgC l) : chkLg l = 5 := by unfold chkLg; rw [if_neg (fun k => k h), if_neg (fun k => k h2), if_pos h3]
theorem chkLg_4 {l : Nat → Int} (h : lgA l) (h2 : lgB l) (h3 : lgC l) : chkLg l = 0 := by unfold chkLg; rw [if_neg (fun k => k h), if_neg (fun k => k h2), if_neg (fun k => k h3)]
theorem chkLg_zero {l : Nat → Int} (h : chkLg l = 0) : lgA l ∧ lgB l ∧ lgC l := by
  unfold chkLg at h
  by_cases a : lgA l
  · by_cases b : lgB l
    · by_cases c : lgC l
      · exact ⟨a, b, c⟩
      · rw [if_neg (fun k => k a), if_neg (fun k => k b), if_pos c] at h; cases h
    · rw [if_neg (fun k => k a), if_pos b] at h; cases h
  · rw [if_pos a] at h; cases h
theorem chkG_congr {f g : Nat → Int} (h : ∀ j, j < 5 → f j = g j) : chkG f = chkG g := by
  unfold chkG okG
  rw [h 0 (by decide), h 1 (by decide), h 2 (by decide), h 3 (by decide), h 4 (by decide)]
theorem chkLg_congr {f g : Nat → Int} (h : ∀ j, j < 13 → f j = g j) : chkLg f = chkLg g := by
  have e : ∀ j, j < 13 → f j = g j := h
  unfold chkLg lgA lgB lgC
  simp only [e 0 (by decide), e 1 (by decide), e 2 (by decide), e 3 (by decide), e 4 (by decide), e 5 (by decide), e 6 (by decide), e 7 (by decide), e 8 (by decide), e 9 (by decide), e 10 (by decide), e 11 (by decide), e 12 (by decide)]
/-- all of these numbers lie between lo and hi -/
def btw (lo hi : Int) (g : Nat → Int) (n : Nat) : Bool := allB (fun k => decide (lo ≤ g k ∧ g k ≤ hi)) n
theorem btw_1 {lo hi : Int} {g : Nat → Int} : btw lo hi g 1 = decide (lo ≤ g 0 ∧ g 0 ≤ hi) := by unfold btw allB allB; simp
theorem btw_3 {lo hi : Int} {g : Nat → Int} : btw lo hi g 3 = true ↔ (lo ≤ g 0 ∧ g 0 ≤ hi) ∧ (lo ≤ g 1 ∧ g 1 ≤ hi) ∧ (lo ≤ g 2 ∧ g 2 ≤ hi) := by
  unfold btw
  rw [allB_iff]
  constructor
  · intro h; exact ⟨decide_eq_true_iff.1 (h 0 (by decide)), decide_eq_true_iff.1 (h 1 (by decide)), decide_eq_true_iff.1 (h 2 (by decide))⟩
  · rintro ⟨a, b, c⟩ k hk
    match k, hk with
    | 0, _ => exact decide_eq_true a
    | 1, _ => exact decide_eq_true b
    | 2, _ => exact decide_eq_true c
set_option maxHeartbeats 4000000 in
theorem within_any (lo hi : Int) (q : Option Addr) (n c : Nat) (g : Nat → Int) (hnc : n ≤ c) (hc : c ≤ 9223372036854775807) (w : World) (hq : Nm w .i64 q n g) :
    Calls Tryd.prog 25 #[.int .i64 lo, .int .i64 hi, .slice q n c] w fun e w' => e = .returned (.bool (btw lo hi g n)) ∧ w' = w := by
  have HNC := Lib.hid hnc; have HC := Lib.hid hc; have HQ := Lib.hid hq
  clear hnc hc hq
  go_enter Tryd.func25, Tryd.ntmps25
  go_wp2_with (fail)
  go_loopw [8, 11] (fun _ iv wr => ∃ (k : Nat), k ≤ n ∧ iv = .int .i64 k ∧ Hid (∀ j, j < k → lo ≤ g j ∧ g j ≤ hi) ∧ Hid (wr = w)) (fun _ iv _ => (n - (intOf iv).toNat))
  case atStart => exact ⟨0, Nat.zero_le _, rfl, Lib.hid (fun j hj => absurd hj (Nat.not_lt_zero j)), Lib.hid rfl⟩
  case round =>
    obtain ⟨k, hk, rfl, ALL, HB⟩ := hrel
    by_cases hlt : k < n
    · obtain ⟨D, o, rfl, hD, c0⟩ := HQ.out.at hlt
      rw [← HB.out] at c0 hD
      have hki : (k : Int) < (n : Int) := by omega
      have k0 : (0 : Int) ≤ (k : Int) := by omega
      have wk : IntKind.i64.wrap ((k : Int) + 1) = (k : Int) + 1 := IntWalk.i64_in _ (by have := HNC.out; have := HC.out; omega)
      have HLT := Lib.hid hlt
      clear hk hlt
      by_cases e1 : g k < lo
      · have NO : Hid (btw lo hi g n = false) := Lib.hid (allB_not HLT.out (show decide (lo ≤ g k ∧ g k ≤ hi) = false from decide_eq_false (fun h => by have := h.1; have := h.2; omega)))
        clear ALL
        go_wp2_with (fail)
        go_ret
        exact ⟨by rw [NO.out]; rfl, HB.out⟩
      · have d1 : decide (g k < lo) = false := decide_eq_false e1
        by_cases e2 : hi < g k
        · have NO : Hid (btw lo hi g n = false) := Lib.hid (allB_not HLT.out (show decide (lo ≤ g k ∧ g k ≤ hi) = false from decide_eq_false (fun h => by have := h.1; have := h.2; omega)))
          clear ALL e1
          go_wp2_with (fail)
          go_ret
          exact ⟨by rw [NO.out]; rfl, HB.out⟩
        · have d2 : decide (hi < g k) = false := decide_eq_false e2
          have ALL2 : Hid (∀ j, j < k + 1 → lo ≤ g j ∧ g j ≤ hi) := Lib.hid fun j hj => (Nat.lt_succ_iff_lt_or_eq.1 hj).elim (ALL.out j) (fun e => by rw [e]; omega)
          clear e1 e2 ALL
          go_wp2_with (fail)
          go_roundw
          case rel => (first | exact ⟨k + 1, HLT.out, by go_num, ALL2, HB⟩ | ((repeat apply Exists.intro); exact ⟨⟨k + 1, HLT.out, by go_num, ALL2, HB⟩, rfl⟩))
          case measure => (have := HLT.out; simp [intOf]; omega)
    · obtain rfl : k = n := by omega
      have YES : Hid (btw lo hi g k = true) := Lib.hid (allB_iff.2 fun j hj => decide_eq_true (ALL.out j hj))
      clear hlt hk ALL
      go_wp2_with (fail)
      go_ret
      exact ⟨by rw [YES.out]; rfl, HB.out⟩
end Go.Proofs.YtokfhhngnpbdkaaDoor
