/- asset: the document's Material. -/
import Derived.Test.YtokfhhngnpbdkaaDoorID
import Derived.Lib.Hide
import Derived.LoopN
import Derived.LoopTactic
import Derived.Deep.Onto
import Derived.Deep.RegionHeld3
import Derived.Deep.QuietTactic
import Derived.BigQuiet
import Derived.Great.BuildSlice
import Derived.StillTailTactics
import Derived.Lib.SliceRun
namespace Go.Proofs.YtokfhhngnpbdkaaDoor
set_option linter.unusedVariables false
set_option maxRecDepth 2000
set_option linter.unusedSimpArgs false
open Go.RowKit
set_option maxHeartbeats 4000000 in
theorem RMaterial_any (g : Nat → Int) (w : World) : Calls Tryd.prog 10 #[(.agg #[.int .i64 (g 0), .int .i64 (g 1), .int .i64 (g 2), .int .i64 (g 3), .int .i64 (g 4)])] w fun e w' => e = .returned (.int .i64 (chkG g)) ∧ Below w.heap.size w w' := by
  have KY := Lib.hid (@chkG_yes g); have KN := Lib.hid (@chkG_no g); have KI := Lib.hid (@okG_iff g)
  generalize chkG g = z at *
  generalize okG g = k at *
  go_enter Tryd.func10, Tryd.ntmps10
  go_upto_region 1 with fail
  obtain ⟨W0, hW⟩ : ∃ W0, W0 = (w.alloc (.cells #[.int .i64 (g 0), .int .i64 (g 1), .int .i64 (g 2), .int .i64 (g 3), .int .i64 (g 4)] 31)) := ⟨_, rfl⟩
  have hB0 : Below w.heap.size w W0 := hW ▸ (Below.al (Below.refl _ _))
  have HA : Hid (Own w.heap.size ([.int .i64 (g 0), .int .i64 (g 1), .int .i64 (g 2), .int .i64 (g 3), .int .i64 (g 4)]) W0) := Lib.hid (hW ▸ (show Own w.heap.size ([.int .i64 (g 0), .int .i64 (g 1), .int .i64 (g 2), .int .i64 (g 3), .int .i64 (g 4)]) (w.alloc (.cells #[.int .i64 (g 0), .int .i64 (g 1), .int .i64 (g 2), .int .i64 (g 3), .int .i64 (g 4)] 31)) from Own.newAt (by simp)))
  rw [← hW]
  clear hW
  obtain ⟨A, eA⟩ : ∃ X, X = w.heap.size := ⟨_, rfl⟩
  rw [← eA] at HA ⊢
  have Aw : w.heap.size ≤ A := by omega
  clear eA
  have HB := Lib.hid hB0
  clear hB0
  have oA := HA.out
  have A0 := oA.at 0 _ rfl
  have A1 := oA.at 1 _ rfl
  have A2 := oA.at 2 _ rfl
  have A3 := oA.at 3 _ rfl
  have A4 := oA.at 4 _ rfl
  have Al := oA.lt
  clear oA
  by_cases c1 : g 0 < 0
  · have dc1 : decide (g 0 < 0) = true := decide_eq_true c1
    have HZ : Hid (z = 5) := Lib.hid (KN.out (fun h => by have := KI.out.1 h; omega))
    clear c1
    go_wp2_with (fail)
    go_ret
    exact ⟨by rw [HZ.out]; rfl, HB.out⟩
  · have dc1 : decide (g 0 < 0) = false := decide_eq_false c1
    have Hc1 := Lib.hid c1
    clear c1
    by_cases c2 : 4 < g 0
    · have dc2 : decide (4 < g 0) = true := decide_eq_true c2
      have HZ : Hid (z = 5) := Lib.hid (KN.out (fun h => by have := KI.out.1 h; omega))
      clear c2
      go_wp2_with (fail)
      go_ret
      exact ⟨by rw [HZ.out]; rfl, HB.out⟩
    · have dc2 : decide (4 < g 0) = false := decide_eq_false c2
      have Hc2 := Lib.hid c2
      clear c2
      by_cases c3 : g 4 < 0
      · have dc3 : decide (g 4 < 0) = true := decide_eq_true c3
        have HZ : Hid (z = 5) := Lib.hid (KN.out (fun h => by have := KI.out.1 h; omega))
        clear c3
        go_wp2_with (fail)
        go_ret
        exact ⟨by rw [HZ.out]; rfl, HB.out⟩
      · have dc3 : decide (g 4 < 0) = false := decide_eq_false c3
        have Hc3 := Lib.hid c3
        clear c3
        by_cases c4 : 65535 < g 4
        · have dc4 : decide (65535 < g 4) = true := decide_eq_true c4
          have HZ : Hid (z = 5) := Lib.hid (KN.out (fun h => by have := KI.out.1 h; omega))
          clear c4
          go_wp2_with (fail)
          go_ret
          exact ⟨by rw [HZ.out]; rfl, HB.out⟩
        · have dc4 : decide (65535 < g 4) = false := decide_eq_false c4
          have Hc4 := Lib.hid c4
          clear c4
          go_wp2_with (fail)
          refine wp_loop_rounds 4 ?_
          rw [rounds_succ]
          by_cases x1 : g 1 < 0
          · have dx1 : decide (g 1 < 0) = true := decide_eq_true x1
            have HZ : Hid (z = 5) := Lib.hid (KN.out (fun h => by have := KI.out.1 h; omega))
            clear x1
            go_wp2_with (fail)
            go_ret
            exact ⟨by rw [HZ.out]; rfl, HB.out⟩
          · have dx1 : decide (g 1 < 0) = false := decide_eq_false x1
            have Hx1 := Lib.hid x1
            clear x1
            by_cases y1 : 65535 < g 1
            · have dy1 : decide (65535 < g 1) = true := decide_eq_true y1
              have HZ : Hid (z = 5) := Lib.hid (KN.out (fun h => by have := KI.out.1 h; omega))
              clear y1
              go_wp2_with (fail)
              go_ret
              exact ⟨by rw [HZ.out]; rfl, HB.out⟩
            · have dy1 : decide (65535 < g 1) = false := decide_eq_false y1
              have Hy1 := Lib.hid y1
              clear y1
              go_wp2_with (fail)
              rw [rounds_succ]
              by_cases x2 : g 2 < 0
              · have dx2 : decide (g 2 < 0) = true := decide_eq_true x2
                have HZ : Hid (z = 5) := Lib.hid (KN.out (fun h => by have := KI.out.1 h; omega))
                clear x2
                go_wp2_with (fail)
                go_ret
                exact ⟨by rw [HZ.out]; rfl, HB.out⟩
              · have dx2 : decide (g 2 < 0) = false := decide_eq_false x2
                have Hx2 := Lib.hid x2
                clear x2
                by_cases y2 : 65535 < g 2
                · have dy2 : decide (65535 < g 2) = true := decide_eq_true y2
                  have HZ : Hid (z = 5) := Lib.hid (KN.out (fun h => by have := KI.out.1 h; omega))
                  clear y2
                  go_wp2_with (fail)
                  go_ret
                  exact ⟨by rw [HZ.out]; rfl, HB.out⟩
                · have dy2 : decide (65535 < g 2) = false := decide_eq_false y2
                  have Hy2 := Lib.hid y2
                  clear y2
                  go_wp2_with (fail)
                  rw [rounds_succ]
                  by_cases x3 : g 3 < 0
                  · have dx3 : decide (g 3 < 0) = true := decide_eq_true x3
                    have HZ : Hid (z = 5) := Lib.hid (KN.out (fun h => by have := KI.out.1 h; omega))
                    clear x3
                    go_wp2_with (fail)
                    go_ret
                    exact ⟨by rw [HZ.out]; rfl, HB.out⟩
                  · have dx3 : decide (g 3 < 0) = false := decide_eq_false x3
                    have Hx3 := Lib.hid x3
                    clear x3
                    by_cases y3 : 65535 < g 3
                    · have dy3 : decide (65535 < g 3) = true := decide_eq_true y3
                      have HZ : Hid (z = 5) := Lib.hid (KN.out (fun h => by have := KI.out.1 h; omega))
                      clear y3
                      go_wp2_with (fail)
                      go_ret
                      exact ⟨by rw [HZ.out]; rfl, HB.out⟩
                    · have dy3 : decide (65535 < g 3) = false := decide_eq_false y3
                      have Hy3 := Lib.hid y3
                      clear y3
                      go_wp2_with (fail)
                      rw [rounds_succ]
                      have HZ : Hid (z = 0) := Lib.hid (KY.out (KI.out.2 (by have := Hc1.out; have := Hc2.out; have := Hc3.out; have := Hc4.out; have := Hx1.out; have := Hx2.out; have := Hx3.out; have := Hy1.out; have := Hy2.out; have := Hy3.out; omega)))
                      go_wp2_with (fail)
                      go_ret
                      exact ⟨by rw [HZ.out]; rfl, HB.out⟩
end Go.Proofs.YtokfhhngnpbdkaaDoor
