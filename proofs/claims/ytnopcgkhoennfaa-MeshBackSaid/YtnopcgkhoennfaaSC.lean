/- mesh: IndexFunc and ContainsFunc of the three lists. -/
import Derived.Test.YtnopcgkhoennfaaSB
import Derived.Lib.Hide
import Derived.LoopN
import Derived.LoopTactic
import Derived.Deep.Onto
import Derived.Deep.RegionHeld3
import Derived.Deep.QuietTactic
import Derived.BigQuiet
namespace Go.Proofs.Ytnopcgkhoennfaa
set_option linter.unusedVariables false
set_option maxRecDepth 2000
set_option linter.unusedSimpArgs false
open Go.RowKit
attribute [local go_sem] nums_length
set_option maxHeartbeats 2000000 in
theorem fault51_any (B nv cv : Nat) (qv : Option Addr) (x y z : Int) (w : World) (hB : w.cell? ⟨B, 0, none⟩ = some (.slice qv nv cv)) (Bl : B < w.heap.size) : Calls Try.prog 46 #[.agg #[.int .i64 x, .int .i64 y, .int .i64 z], .pointer (some ⟨B, 0, none⟩)] w fun e w' => e = .returned (.bool (!okT nv x y z)) ∧ Below w.heap.size w w' := by
  have F := Lib.hid (noTriangle_any nv x y z)
  go_enter Try.func46, Try.ntmps46
  go_wp2_with (fail)
  go_at_call 47
  refine (F.out _).mono ?_
  rintro e w1 ⟨rfl, hb⟩
  have hB2 := Below.go (Below.al (o := .cells #[.int .i64 x, .int .i64 y, .int .i64 z] 52) (Below.refl _ _)) hb
  clear hb F hB Bl
  go_wp2_with (fail)
  go_ret
  exact ⟨rfl, hB2⟩

set_option maxHeartbeats 4000000 in
theorem IndexP_any (q : Option Addr) (n c : Nat) (V : Nat → Int) (hnc : n ≤ c) (hc : c ≤ 9223372036854775807) (w : World) (hq : NmS w 3 q n V) :
    Calls Try.prog 57 #[.slice q n c, .func (.func 40) #[] #[]] w fun e w' => ∃ z : Int, e = .returned (.int .i64 z) ∧ (0 ≤ z ↔ allB (okPs V) n = false) ∧ Below w.heap.size w w' := by
  have HNC := Lib.hid hnc; have HC := Lib.hid hc; have HQ := Lib.hid hq
  clear hnc hc hq
  go_enter Try.func57, Try.ntmps57
  go_wp2_with (fail)
  go_loopw [5, 8] (fun _ iv wr => ∃ (k : Nat), k ≤ n ∧ iv = .int .i64 k ∧ Hid (∀ j, j < k → okPs V j = true) ∧ Hid (Below w.heap.size w wr)) (fun _ iv _ => (n - (intOf iv).toNat))
  case atStart => exact ⟨0, Nat.zero_le _, rfl, Lib.hid (fun j hj => absurd hj (Nat.not_lt_zero j)), Lib.hid (Below.refl _ _)⟩
  case round =>
    obtain ⟨k, hk, rfl, ALL, HB⟩ := hrel
    by_cases hlt : k < n
    · obtain ⟨D, o, rfl, hD, hh⟩ := (HQ.out.later HB.out).at hlt
      have hki : (k : Int) < (n : Int) := by omega
      have k0 : (0 : Int) ≤ (k : Int) := by omega
      have wk : IntKind.i64.wrap ((k : Int) + 1) = (k : Int) + 1 := IntWalk.i64_in _ (by have := HNC.out; have := HC.out; omega)
      have c0 := hh.at 0 _ rfl; have c1 := hh.at 1 _ rfl; have c2 := hh.at 2 _ rfl
      clear hh
      rw [Nat.add_zero] at c0
      have HLT := Lib.hid hlt
      clear hk hlt
      go_wp2_with (fail)
      go_at_call 40
      refine (offGrid_any _ _ _ _).mono ?_
      rintro e w1 ⟨rfl, hb⟩
      have HB1 := Lib.hid (Below.go HB.out hb)
      clear hb HB c0 c1 c2 hD
      obtain ⟨b, eb⟩ : ∃ b, okPs V k = b := ⟨_, rfl⟩
      rw [show okP (V (k * 3)) (V (k * 3 + 1)) (V (k * 3 + 2)) = b from eb]
      cases b with
      | true =>
        have ALL2 : Hid (∀ j, j < k + 1 → okPs V j = true) := Lib.hid fun j hj => (Nat.lt_succ_iff_lt_or_eq.1 hj).elim (ALL.out j) (fun e => by rw [e]; exact eb)
        clear eb ALL
        go_wp2_with (fail)
        go_roundw
        case rel => (first | exact ⟨k + 1, HLT.out, by go_num, ALL2, HB1⟩ | ((repeat apply Exists.intro); exact ⟨⟨k + 1, HLT.out, by go_num, ALL2, HB1⟩, rfl⟩))
        case measure => (have := HLT.out; simp [intOf]; omega)
      | false =>
        have NO : Hid ((0 : Int) ≤ (k : Int) ↔ allB (okPs V) n = false) := Lib.hid ⟨fun _ => allB_not HLT.out eb, fun _ => k0⟩
        clear eb ALL
        go_wp2_with (fail)
        go_ret
        exact ⟨k, rfl, NO.out, HB1.out⟩
    · obtain rfl : k = n := by omega
      have YES : Hid ((0 : Int) ≤ -1 ↔ allB (okPs V) k = false) := Lib.hid ⟨fun h => by omega, fun h => by rw [allB_iff.2 ALL.out] at h; cases h⟩
      clear hlt hk ALL
      go_wp2_with (fail)
      go_ret
      exact ⟨-1, rfl, YES.out, HB.out⟩

set_option maxHeartbeats 2000000 in
theorem ContP_any (q : Option Addr) (n c : Nat) (V : Nat → Int) (hnc : n ≤ c) (hc : c ≤ 9223372036854775807) (w : World) (hq : NmS w 3 q n V) :
    Calls Try.prog 39 #[.slice q n c, .func (.func 40) #[] #[]] w fun e w' => e = .returned (.bool (!allB (okPs V) n)) ∧ Below w.heap.size w w' := by
  have F := Lib.hid (IndexP_any q n c V hnc hc w hq)
  clear hnc hc hq
  go_enter Try.func39, Try.ntmps39
  go_wp2_with (fail)
  go_at_call 57
  refine F.out.mono ?_
  rintro e w1 ⟨z, rfl, hz, hb⟩
  clear F
  have R : Hid (decide (0 ≤ z) = !allB (okPs V) n) := Lib.hid (by
    cases h : allB (okPs V) n with
    | false => rw [h] at hz; simpa using hz
    | true => rw [h] at hz; simpa using hz)
  clear hz
  go_wp2_with (fail)
  go_ret
  exact ⟨by rw [← R.out]; rfl, hb⟩

set_option maxHeartbeats 4000000 in
theorem IndexU_any (q : Option Addr) (n c : Nat) (V : Nat → Int) (hnc : n ≤ c) (hc : c ≤ 9223372036854775807) (w : World) (hq : NmS w 2 q n V) :
    Calls Try.prog 58 #[.slice q n c, .func (.func 43) #[] #[]] w fun e w' => ∃ z : Int, e = .returned (.int .i64 z) ∧ (0 ≤ z ↔ allB (okUs V) n = false) ∧ Below w.heap.size w w' := by
  have HNC := Lib.hid hnc; have HC := Lib.hid hc; have HQ := Lib.hid hq
  clear hnc hc hq
  go_enter Try.func58, Try.ntmps58
  go_wp2_with (fail)
  go_loopw [5, 8] (fun _ iv wr => ∃ (k : Nat), k ≤ n ∧ iv = .int .i64 k ∧ Hid (∀ j, j < k → okUs V j = true) ∧ Hid (Below w.heap.size w wr)) (fun _ iv _ => (n - (intOf iv).toNat))
  case atStart => exact ⟨0, Nat.zero_le _, rfl, Lib.hid (fun j hj => absurd hj (Nat.not_lt_zero j)), Lib.hid (Below.refl _ _)⟩
  case round =>
    obtain ⟨k, hk, rfl, ALL, HB⟩ := hrel
    by_cases hlt : k < n
    · obtain ⟨D, o, rfl, hD, hh⟩ := (HQ.out.later HB.out).at hlt
      have hki : (k : Int) < (n : Int) := by omega
      have k0 : (0 : Int) ≤ (k : Int) := by omega
      have wk : IntKind.i64.wrap ((k : Int) + 1) = (k : Int) + 1 := IntWalk.i64_in _ (by have := HNC.out; have := HC.out; omega)
      have c0 := hh.at 0 _ rfl; have c1 := hh.at 1 _ rfl
      clear hh
      rw [Nat.add_zero] at c0
      have HLT := Lib.hid hlt
      clear hk hlt
      go_wp2_with (fail)
      go_at_call 43
      refine (offTexture_any _ _ _).mono ?_
      rintro e w1 ⟨rfl, hb⟩
      have HB1 := Lib.hid (Below.go HB.out hb)
      clear hb HB c0 c1 hD
      obtain ⟨b, eb⟩ : ∃ b, okUs V k = b := ⟨_, rfl⟩
      rw [show okU (V (k * 2)) (V (k * 2 + 1)) = b from eb]
      cases b with
      | true =>
        have ALL2 : Hid (∀ j, j < k + 1 → okUs V j = true) := Lib.hid fun j hj => (Nat.lt_succ_iff_lt_or_eq.1 hj).elim (ALL.out j) (fun e => by rw [e]; exact eb)
        clear eb ALL
        go_wp2_with (fail)
        go_roundw
        case rel => (first | exact ⟨k + 1, HLT.out, by go_num, ALL2, HB1⟩ | ((repeat apply Exists.intro); exact ⟨⟨k + 1, HLT.out, by go_num, ALL2, HB1⟩, rfl⟩))
        case measure => (have := HLT.out; simp [intOf]; omega)
      | false =>
        have NO : Hid ((0 : Int) ≤ (k : Int) ↔ allB (okUs V) n = false) := Lib.hid ⟨fun _ => allB_not HLT.out eb, fun _ => k0⟩
        clear eb ALL
        go_wp2_with (fail)
        go_ret
        exact ⟨k, rfl, NO.out, HB1.out⟩
    · obtain rfl : k = n := by omega
      have YES : Hid ((0 : Int) ≤ -1 ↔ allB (okUs V) k = false) := Lib.hid ⟨fun h => by omega, fun h => by rw [allB_iff.2 ALL.out] at h; cases h⟩
      clear hlt hk ALL
      go_wp2_with (fail)
      go_ret
      exact ⟨-1, rfl, YES.out, HB.out⟩

set_option maxHeartbeats 2000000 in
theorem ContU_any (q : Option Addr) (n c : Nat) (V : Nat → Int) (hnc : n ≤ c) (hc : c ≤ 9223372036854775807) (w : World) (hq : NmS w 2 q n V) :
    Calls Try.prog 42 #[.slice q n c, .func (.func 43) #[] #[]] w fun e w' => e = .returned (.bool (!allB (okUs V) n)) ∧ Below w.heap.size w w' := by
  have F := Lib.hid (IndexU_any q n c V hnc hc w hq)
  clear hnc hc hq
  go_enter Try.func42, Try.ntmps42
  go_wp2_with (fail)
  go_at_call 58
  refine F.out.mono ?_
  rintro e w1 ⟨z, rfl, hz, hb⟩
  clear F
  have R : Hid (decide (0 ≤ z) = !allB (okUs V) n) := Lib.hid (by
    cases h : allB (okUs V) n with
    | false => rw [h] at hz; simpa using hz
    | true => rw [h] at hz; simpa using hz)
  clear hz
  go_wp2_with (fail)
  go_ret
  exact ⟨by rw [← R.out]; rfl, hb⟩

set_option maxHeartbeats 4000000 in
theorem IndexT_any (q : Option Addr) (n c : Nat) (V : Nat → Int) (B nv cv : Nat) (qv : Option Addr) (hnc : n ≤ c) (hc : c ≤ 9223372036854775807) (w : World) (hq : NmS w 3 q n V) (hB : Has B 0 [.slice qv nv cv] w) :
    Calls Try.prog 59 #[.slice q n c, .func (.func 46) #[] #[.pointer (some ⟨B, 0, none⟩)]] w fun e w' => ∃ z : Int, e = .returned (.int .i64 z) ∧ (0 ≤ z ↔ allB (okTs nv V) n = false) ∧ Below w.heap.size w w' := by
  have HNC := Lib.hid hnc; have HC := Lib.hid hc; have HQ := Lib.hid hq; have HBB := Lib.hid hB
  clear hnc hc hq hB
  go_enter Try.func59, Try.ntmps59
  go_wp2_with (fail)
  go_loopw [5, 8] (fun _ iv wr => ∃ (k : Nat), k ≤ n ∧ iv = .int .i64 k ∧ Hid (∀ j, j < k → okTs nv V j = true) ∧ Hid (Below w.heap.size w wr)) (fun _ iv _ => (n - (intOf iv).toNat))
  case atStart => exact ⟨0, Nat.zero_le _, rfl, Lib.hid (fun j hj => absurd hj (Nat.not_lt_zero j)), Lib.hid (Below.refl _ _)⟩
  case round =>
    obtain ⟨k, hk, rfl, ALL, HB⟩ := hrel
    by_cases hlt : k < n
    · obtain ⟨D, o, rfl, hD, hh⟩ := (HQ.out.later HB.out).at hlt
      have hki : (k : Int) < (n : Int) := by omega
      have k0 : (0 : Int) ≤ (k : Int) := by omega
      have wk : IntKind.i64.wrap ((k : Int) + 1) = (k : Int) + 1 := IntWalk.i64_in _ (by have := HNC.out; have := HC.out; omega)
      have c0 := hh.at 0 _ rfl; have c1 := hh.at 1 _ rfl; have c2 := hh.at 2 _ rfl
      clear hh
      rw [Nat.add_zero] at c0
      have HLT := Lib.hid hlt
      clear hk hlt
      go_wp2_with (fail)
      go_at_call 46
      refine (fault51_any B nv cv qv _ _ _ _ ((HBB.out.later HB.out).at 0 _ rfl) (HBB.out.later HB.out).lt).mono ?_
      rintro e w1 ⟨rfl, hb⟩
      have HB1 := Lib.hid (Below.go HB.out hb)
      clear hb HB c0 c1 c2 hD
      obtain ⟨b, eb⟩ : ∃ b, okTs nv V k = b := ⟨_, rfl⟩
      rw [show okT nv (V (k * 3)) (V (k * 3 + 1)) (V (k * 3 + 2)) = b from eb]
      cases b with
      | true =>
        have ALL2 : Hid (∀ j, j < k + 1 → okTs nv V j = true) := Lib.hid fun j hj => (Nat.lt_succ_iff_lt_or_eq.1 hj).elim (ALL.out j) (fun e => by rw [e]; exact eb)
        clear eb ALL
        go_wp2_with (fail)
        go_roundw
        case rel => (first | exact ⟨k + 1, HLT.out, by go_num, ALL2, HB1⟩ | ((repeat apply Exists.intro); exact ⟨⟨k + 1, HLT.out, by go_num, ALL2, HB1⟩, rfl⟩))
        case measure => (have := HLT.out; simp [intOf]; omega)
      | false =>
        have NO : Hid ((0 : Int) ≤ (k : Int) ↔ allB (okTs nv V) n = false) := Lib.hid ⟨fun _ => allB_not HLT.out eb, fun _ => k0⟩
        clear eb ALL
        go_wp2_with (fail)
        go_ret
        exact ⟨k, rfl, NO.out, HB1.out⟩
    · obtain rfl : k = n := by omega
      have YES : Hid ((0 : Int) ≤ -1 ↔ allB (okTs nv V) k = false) := Lib.hid ⟨fun h => by omega, fun h => by rw [allB_iff.2 ALL.out] at h; cases h⟩
      clear hlt hk ALL
      go_wp2_with (fail)
      go_ret
      exact ⟨-1, rfl, YES.out, HB.out⟩

set_option maxHeartbeats 2000000 in
theorem ContT_any (q : Option Addr) (n c : Nat) (V : Nat → Int) (B nv cv : Nat) (qv : Option Addr) (hnc : n ≤ c) (hc : c ≤ 9223372036854775807) (w : World) (hq : NmS w 3 q n V) (hB : Has B 0 [.slice qv nv cv] w) :
    Calls Try.prog 45 #[.slice q n c, .func (.func 46) #[] #[.pointer (some ⟨B, 0, none⟩)]] w fun e w' => e = .returned (.bool (!allB (okTs nv V) n)) ∧ Below w.heap.size w w' := by
  have F := Lib.hid (IndexT_any q n c V B nv cv qv hnc hc w hq hB)
  clear hnc hc hq hB
  go_enter Try.func45, Try.ntmps45
  go_wp2_with (fail)
  go_at_call 59
  refine F.out.mono ?_
  rintro e w1 ⟨z, rfl, hz, hb⟩
  clear F
  have R : Hid (decide (0 ≤ z) = !allB (okTs nv V) n) := Lib.hid (by
    cases h : allB (okTs nv V) n with
    | false => rw [h] at hz; simpa using hz
    | true => rw [h] at hz; simpa using hz)
  clear hz
  go_wp2_with (fail)
  go_ret
  exact ⟨by rw [← R.out]; rfl, hb⟩
end Go.Proofs.Ytnopcgkhoennfaa
