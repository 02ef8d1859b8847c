/- asset: hasMore, coords. -/
import Derived.Test.YtokfhhngnpbdkaaDoorIA
import Derived.Test.YtokfhhngnpbdkaaDoorMS1
import Derived.Lib.Hide
import Derived.LoopN
import Derived.LoopTactic
import Derived.Deep.Onto
import Derived.Deep.RegionHeld3
import Derived.Deep.QuietTactic
import Derived.BigQuiet
import Derived.Great.BuildSlice
import Derived.StillTailTactics
import Derived.Lib.SliceRun
namespace Go.Proofs.YtokfhhngnpbdkaaDoor
set_option linter.unusedVariables false
set_option maxRecDepth 2000
set_option linter.unusedSimpArgs false
open Go.RowKit
theorem neqP0 (a b c : Int) (w : World) : (binOp .neq 33 (.agg #[.int .i64 a, .int .i64 b, .int .i64 c]) (.agg #[.int .i64 0, .int .i64 0, .int .i64 0])).run Tryd.prog w = .ok (.bool (!decide (nil3 a b c))) w := by
  unfold nil3
  by_cases x : a = 0 <;> by_cases y : b = 0 <;> by_cases z : c = 0 <;> simp [x, y, z, go_sem]
attribute [local go_sem ↓] neqP0
set_option maxHeartbeats 4000000 in
theorem hasMore_any (l : Nat → Int) (hk : 0 ≤ l 0 ∧ l 0 ≤ 2) (w : World) : Calls Tryd.prog 27 #[(.agg #[.int .i64 (l 0), .int .i64 (l 1), .int .i64 (l 2), .int .i64 (l 3), .int .i64 (l 4), .int .i64 (l 5), .int .i64 (l 6), .int .i64 (l 7), .int .i64 (l 8), .int .i64 (l 9), .int .i64 (l 10), .int .i64 (l 11), .int .i64 (l 12)])] w fun e w' => e = .returned (.bool (!decide (lgC l))) ∧ Below w.heap.size w w' := by
  have HC0 : Hid ((lgC l) = ((l 0 = 2 → nil3 (l 4) (l 5) (l 6)) ∧ (l 0 ≠ 1 → nil3 (l 7) (l 8) (l 9) ∧ nil3 (l 10) (l 11) (l 12)))) := Lib.hid rfl
  obtain ⟨b, eb⟩ : ∃ b, decide (lgC l) = b := ⟨_, rfl⟩
  rw [eb]
  have EB : Hid (b = decide ((l 0 = 2 → nil3 (l 4) (l 5) (l 6)) ∧ (l 0 ≠ 1 → nil3 (l 7) (l 8) (l 9) ∧ nil3 (l 10) (l 11) (l 12)))) := Lib.hid (by rw [← eb]; exact decide_eq_decide.2 (iff_of_eq HC0.out))
  clear eb HC0
  obtain ⟨b1, e1⟩ : ∃ b, decide (nil3 (l 4) (l 5) (l 6)) = b := ⟨_, rfl⟩
  obtain ⟨b2, e2⟩ : ∃ b, decide (nil3 (l 7) (l 8) (l 9)) = b := ⟨_, rfl⟩
  obtain ⟨b3, e3⟩ : ∃ b, decide (nil3 (l 10) (l 11) (l 12)) = b := ⟨_, rfl⟩
  have HK := Lib.hid hk
  clear hk
  go_enter Tryd.func27, Tryd.ntmps27
  go_upto_region 2 with fail
  obtain ⟨W0, hW⟩ : ∃ W0, W0 = ((w.alloc (.cells #[.int .i64 (l 0), .int .i64 (l 1), .int .i64 (l 2), .int .i64 (l 3), .int .i64 (l 4), .int .i64 (l 5), .int .i64 (l 6), .int .i64 (l 7), .int .i64 (l 8), .int .i64 (l 9), .int .i64 (l 10), .int .i64 (l 11), .int .i64 (l 12)] 35)).alloc (.cells #[.int .i64 0, .int .i64 0, .int .i64 0] 33)) := ⟨_, rfl⟩
  have hB0 : Below w.heap.size w W0 := hW ▸ (Below.al (Below.al (Below.refl _ _)))
  have HA : Hid (Own w.heap.size ([.int .i64 (l 0), .int .i64 (l 1), .int .i64 (l 2), .int .i64 (l 3), .int .i64 (l 4), .int .i64 (l 5), .int .i64 (l 6), .int .i64 (l 7), .int .i64 (l 8), .int .i64 (l 9), .int .i64 (l 10), .int .i64 (l 11), .int .i64 (l 12)]) W0) := Lib.hid (hW ▸ (show Own w.heap.size ([.int .i64 (l 0), .int .i64 (l 1), .int .i64 (l 2), .int .i64 (l 3), .int .i64 (l 4), .int .i64 (l 5), .int .i64 (l 6), .int .i64 (l 7), .int .i64 (l 8), .int .i64 (l 9), .int .i64 (l 10), .int .i64 (l 11), .int .i64 (l 12)]) (w.alloc (.cells #[.int .i64 (l 0), .int .i64 (l 1), .int .i64 (l 2), .int .i64 (l 3), .int .i64 (l 4), .int .i64 (l 5), .int .i64 (l 6), .int .i64 (l 7), .int .i64 (l 8), .int .i64 (l 9), .int .i64 (l 10), .int .i64 (l 11), .int .i64 (l 12)] 35)) from Own.newAt (by simp)).alloc)
  have HZ : Hid (Own (w.heap.size + 1) ([.int .i64 0, .int .i64 0, .int .i64 0]) W0) := Lib.hid (hW ▸ (show Own (w.heap.size + 1) ([.int .i64 0, .int .i64 0, .int .i64 0]) ((w.alloc (.cells #[.int .i64 (l 0), .int .i64 (l 1), .int .i64 (l 2), .int .i64 (l 3), .int .i64 (l 4), .int .i64 (l 5), .int .i64 (l 6), .int .i64 (l 7), .int .i64 (l 8), .int .i64 (l 9), .int .i64 (l 10), .int .i64 (l 11), .int .i64 (l 12)] 35)).alloc (.cells #[.int .i64 0, .int .i64 0, .int .i64 0] 33)) from Own.newAt (by simp)))
  rw [← hW]
  clear hW
  obtain ⟨Z, eZ⟩ : ∃ X, X = (w.heap.size + 1) := ⟨_, rfl⟩
  rw [← eZ] at HZ ⊢
  have Zw : w.heap.size ≤ Z := by omega
  obtain ⟨A, eA⟩ : ∃ X, X = w.heap.size := ⟨_, rfl⟩
  rw [← eA] at HA ⊢
  have Aw : w.heap.size ≤ A := by omega
  have nAZ : A ≠ Z := by omega
  have nZA : Z ≠ A := by omega
  clear eA eZ
  have HB := Lib.hid hB0
  clear hB0
  have oA := HA.out
  have A0 := oA.at 0 _ rfl
  have A1 := oA.at 1 _ rfl
  have A2 := oA.at 2 _ rfl
  have A3 := oA.at 3 _ rfl
  have A4 := oA.at 4 _ rfl
  have A5 := oA.at 5 _ rfl
  have A6 := oA.at 6 _ rfl
  have A7 := oA.at 7 _ rfl
  have A8 := oA.at 8 _ rfl
  have A9 := oA.at 9 _ rfl
  have A10 := oA.at 10 _ rfl
  have A11 := oA.at 11 _ rfl
  have A12 := oA.at 12 _ rfl
  have Al := oA.lt
  clear oA
  have oZ := HZ.out
  have Z0 := oZ.at 0 _ rfl
  have Z1 := oZ.at 1 _ rfl
  have Z2 := oZ.at 2 _ rfl
  have Zl := oZ.lt
  clear oZ
  by_cases k2 : l 0 = 2
  · have d0 : (l 0 == 2) = true := by rw [k2]; rfl
    cases b1 with
    | false =>
      have HC : Hid (b = false) := Lib.hid (by
        have := EB.out
        simp only [decide_eq_true_eq, decide_eq_false_iff_not] at e1
        rw [this]
        simp [k2, e1])
      go_wp2_with (fail)
      go_ret
      exact ⟨by rw [HC.out]; rfl, HB.out⟩
    | true =>
      cases b2 with
      | false =>
        have HC : Hid (b = false) := Lib.hid (by
          have := EB.out
          simp only [decide_eq_true_eq, decide_eq_false_iff_not] at e1 e2
          rw [this]
          simp [k2, e1, e2])
        go_wp2_with (fail)
        go_ret
        exact ⟨by rw [HC.out]; rfl, HB.out⟩
      | true =>
        cases b3 with
        | false =>
          have HC : Hid (b = false) := Lib.hid (by
            have := EB.out
            simp only [decide_eq_true_eq, decide_eq_false_iff_not] at e1 e2 e3
            rw [this]
            simp [k2, e1, e2, e3])
          go_wp2_with (fail)
          go_ret
          exact ⟨by rw [HC.out]; rfl, HB.out⟩
        | true =>
          have HC : Hid (b = true) := Lib.hid (by
            have := EB.out
            simp only [decide_eq_true_eq, decide_eq_false_iff_not] at e1 e2 e3
            rw [this]
            simp [k2, e1, e2, e3])
          go_wp2_with (fail)
          go_ret
          exact ⟨by rw [HC.out]; rfl, HB.out⟩
  · have d0 : (l 0 == 2) = false := by simpa using k2
    by_cases k0 : l 0 = 0
    · have d1 : (l 0 == 0) = true := by rw [k0]; rfl
      cases b2 with
      | false =>
        have HC : Hid (b = false) := Lib.hid (by
          have := EB.out
          simp only [decide_eq_true_eq, decide_eq_false_iff_not] at e2
          rw [this]
          simp [k0, e2])
        go_wp2_with (fail)
        go_ret
        exact ⟨by rw [HC.out]; rfl, HB.out⟩
      | true =>
        cases b3 with
        | false =>
          have HC : Hid (b = false) := Lib.hid (by
            have := EB.out
            simp only [decide_eq_true_eq, decide_eq_false_iff_not] at e2 e3
            rw [this]
            simp [k0, e2, e3])
          go_wp2_with (fail)
          go_ret
          exact ⟨by rw [HC.out]; rfl, HB.out⟩
        | true =>
          have HC : Hid (b = true) := Lib.hid (by
            have := EB.out
            simp only [decide_eq_true_eq, decide_eq_false_iff_not] at e2 e3
            rw [this]
            simp [k0, e2, e3])
          go_wp2_with (fail)
          go_ret
          exact ⟨by rw [HC.out]; rfl, HB.out⟩
    · have d1 : (l 0 == 0) = false := by simpa using k0
      have k1 : l 0 = 1 := by have := HK.out; omega
      have HC : Hid (b = true) := Lib.hid (by rw [EB.out]; simp [k1])
      go_wp2_with (fail)
      go_ret
      exact ⟨by rw [HC.out]; rfl, HB.out⟩
set_option maxHeartbeats 4000000 in
theorem coords_any (q : Option Addr) (n c : Nat) (V : Nat → Int) (hn : n ≤ 64) (hnc : n ≤ c) (hc : c ≤ 9223372036854775807) (w : World) (hq : NmS w 3 q n V) :
    Calls Tryd.prog 26 #[.slice q n c] w fun e w' => (∃ p d, e = .returned (.slice p (n * 3) d) ∧ Nm w' .i64 p (n * 3) V ∧ n * 3 ≤ d ∧ d ≤ 9223372036854775807) ∧ Below w.heap.size w w' := by
  have LX := Lib.hid (And.intro hn (And.intro hnc hc)); have HQ := Lib.hid hq
  obtain ⟨i0, hi, hz0, hz1, hz2⟩ := infoI_parts
  clear hn hnc hc hq
  go_enter Tryd.func26, Tryd.ntmps26
  go_wp2_with (fail)
  go_loopw [3, 8] (fun v iv wr => ∃ (k t : Nat) (p3 : Option Addr) (c3 : Nat), k ≤ n ∧ Hid (t = k * 3) ∧ v = .slice p3 t c3 ∧ iv = .int .i64 k ∧ Hid (wr.ownsRow w.heap.size 3 1 (.slice p3 t c3) t (nums .i64 V t)) ∧ Hid (Below w.heap.size w wr)) (fun _ iv _ => (n - (intOf iv).toNat))
  case atStart => exact ⟨0, 0, none, 0, Nat.zero_le _, Lib.hid (Nat.zero_mul _).symm, rfl, rfl, Lib.hid (World.ownsRow_nil _ _ _ _), Lib.hid (Below.refl _ _)⟩
  case round =>
    obtain ⟨k, t, p3, c3, hk, HT, rfl, rfl, ROW, HB⟩ := hrel
    by_cases hlt : k < n
    · obtain ⟨D, o, rfl, hD, c0, c1, c2⟩ := (HQ.out.later HB.out).at3 hlt
      have hki : (k : Int) < (n : Int) := by omega
      have k0 : (0 : Int) ≤ (k : Int) := by omega
      have wk : IntKind.i64.wrap ((k : Int) + 1) = (k : Int) + 1 := IntWalk.i64_in _ (by have := LX.out; omega)
      have HLT := Lib.hid hlt
      obtain ⟨x0, ex0⟩ : ∃ x, V (k * 3) = x := ⟨_, rfl⟩
      rw [ex0] at c0
      obtain ⟨x1, ex1⟩ : ∃ x, V (k * 3 + 1) = x := ⟨_, rfl⟩
      rw [ex1] at c1
      obtain ⟨x2, ex2⟩ : ∃ x, V (k * 3 + 2) = x := ⟨_, rfl⟩
      rw [ex2] at c2
      have XS : Hid (nums .i64 V t ++ [.int .i64 x0, .int .i64 x1, .int .i64 x2] = nums .i64 V (t + 3)) := Lib.hid (by
        refine nums_append .i64 V (fun i => [x0, x1, x2].getD i 0) t 3 (fun i hi => ?_)
        rw [HT.out]
        match i, hi with
        | 0, _ => exact ex0
        | 1, _ => exact ex1
        | 2, _ => exact ex2)
      have HT2 : Hid (t + 3 = (k + 1) * 3) := Lib.hid (by rw [HT.out, Nat.succ_mul])
      have T200 : t ≤ 200 := by rw [HT.out]; have := LX.out; omega
      have N63 := Lib.hid (show t + 3 ≤ maxLen by unfold maxLen; omega)
      have NBY := Lib.hid (show (t + 3) * 8 ≤ 140737488355328 by omega)
      clear hk hlt T200 ex0 ex1 ex2
      go_upto_region 5 with fail
      clear hD c0 c1 c2
      obtain ⟨y0, hW⟩ : ∃ y0, y0 = (wr.alloc (.cells #[.int .i64 x0, .int .i64 x1, .int .i64 x2] 33)) := ⟨_, rfl⟩
      have hBx : Below wr.heap.size wr y0 := hW ▸ (Below.al (Below.refl _ _))
      have HQ : Hid (Own wr.heap.size ([.int .i64 x0, .int .i64 x1, .int .i64 x2]) y0) := Lib.hid (hW ▸ (show Own wr.heap.size ([.int .i64 x0, .int .i64 x1, .int .i64 x2]) (wr.alloc (.cells #[.int .i64 x0, .int .i64 x1, .int .i64 x2] 33)) from Own.newAt (by simp)))
      rw [← hW]
      clear hW
      obtain ⟨Q, eQ⟩ : ∃ X, X = wr.heap.size := ⟨_, rfl⟩
      rw [← eQ] at HQ ⊢
      have Qw : wr.heap.size ≤ Q := by omega
      clear eQ
      have ROWy := Lib.hid (row_later ROW.out hBx)
      have HBy := Lib.hid (Below.go HB.out hBx)
      clear hBx ROW HB Qw
      have oQ := HQ.out
      have Q0 := oQ.at 0 _ rfl
      have Q1 := oQ.at 1 _ rfl
      have Q2 := oQ.at 2 _ rfl
      have Ql := oQ.lt
      clear oQ
      have HS2 : Hid (w.heap.size ≤ (y0.alloc (.cells #[.int .i64 x0, .int .i64 x1, .int .i64 x2] 3)).heap.size) := Lib.hid (Below.al HBy.out).size
      go_wp2_with (at_builtin; refine wpList_append_own _ rfl _ _ 64 rfl w.heap.size 3 i0 (.int .i64 0) 1 8 Tryd.underlying64 hi hz0 hz1 hz2 rfl (by decide) _ t _ rfl (row_later ROWy.out (Below.al (Below.refl _ _))) ⟨y0.heap.size, 0, none⟩ 3 3 [.int .i64 x0, .int .i64 x1, .int .i64 x2] rfl rfl (Own.newAt (by rfl)).news (by intro v hv; simp at hv; rcases hv with rfl | rfl | rfl <;> rfl) N63.out NBY.out HS2.out ?_; intro v' w6 hrow hgr _; obtain ⟨p', c', rfl, _⟩ := row_form hrow; rw [XS.out] at hrow; have o4 := Lib.hid ((Below.al HBy.out).grown hgr (Below.al HBy.out).size fun q hq => row_ge ROWy.out q hq); have o6 := Lib.hid hrow; clear hrow hgr)
      go_roundw
      case rel => (first | exact ⟨k + 1, t + 3, _, _, HLT.out, HT2, rfl, by go_num, o6, o4⟩ | ((repeat apply Exists.intro); exact ⟨⟨k + 1, t + 3, _, _, HLT.out, HT2, rfl, by go_num, o6, o4⟩, rfl⟩))
      case measure => (have := HLT.out; simp [intOf]; omega)
    · obtain rfl : n = k := by omega
      clear hlt hk
      go_wp2_with (fail)
      go_ret
      have h := nm_row ROW.out; have cap := row_cap_ ROW.out
      have e := HT.out
      exact ⟨⟨_, _, by rw [← e]; rfl, by rw [← e]; exact h.2, by rw [← e]; exact cap.1, cap.2⟩, HB.out⟩
end Go.Proofs.YtokfhhngnpbdkaaDoor
