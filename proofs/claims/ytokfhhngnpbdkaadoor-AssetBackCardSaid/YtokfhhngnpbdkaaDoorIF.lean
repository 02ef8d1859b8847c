/- asset: the document's Light. -/
import Derived.Test.YtokfhhngnpbdkaaDoorIE
import Derived.Lib.Hide
import Derived.LoopN
import Derived.LoopTactic
import Derived.Deep.Onto
import Derived.Deep.RegionHeld3
import Derived.Deep.QuietTactic
import Derived.BigQuiet
import Derived.Great.BuildSlice
import Derived.StillTailTactics
import Derived.Lib.SliceRun
namespace Go.Proofs.YtokfhhngnpbdkaaDoor
set_option linter.unusedVariables false
set_option maxRecDepth 2000
set_option linter.unusedSimpArgs false
open Go.RowKit
attribute [local go_sem ↓] neqP0
theorem lgB_ok {l : Nat → Int} {b1 b2 b3 : Bool} (e1 : okP (l 4) (l 5) (l 6) = b1) (e2 : okP (l 7) (l 8) (l 9) = b2) (e3 : okP (l 10) (l 11) (l 12) = b3) : lgB l ↔ (b1 = true ∧ b2 = true ∧ b3 = true) := by
  rw [← e1, ← e2, ← e3, okP_iff, okP_iff, okP_iff]
  exact Iff.rfl
set_option maxHeartbeats 8000000 in
theorem RLight_any (l : Nat → Int) (w : World) : Calls Tryd.prog 12 #[(.agg #[.int .i64 (l 0), .int .i64 (l 1), .int .i64 (l 2), .int .i64 (l 3), .int .i64 (l 4), .int .i64 (l 5), .int .i64 (l 6), .int .i64 (l 7), .int .i64 (l 8), .int .i64 (l 9), .int .i64 (l 10), .int .i64 (l 11), .int .i64 (l 12)])] w fun e w' => e = .returned (.int .i64 (chkLg l)) ∧ Below w.heap.size w w' := by
  have K1 := Lib.hid (@chkLg_1 l); have K2 := Lib.hid (@chkLg_2 l); have K3 := Lib.hid (@chkLg_3 l); have K4 := Lib.hid (@chkLg_4 l)
  generalize chkLg l = z at *
  obtain ⟨b1, e1⟩ : ∃ b, okP (l 4) (l 5) (l 6) = b := ⟨_, rfl⟩
  obtain ⟨b2, e2⟩ : ∃ b, okP (l 7) (l 8) (l 9) = b := ⟨_, rfl⟩
  obtain ⟨b3, e3⟩ : ∃ b, okP (l 10) (l 11) (l 12) = b := ⟨_, rfl⟩
  have B1 := Lib.hid e1; have B2 := Lib.hid e2; have B3 := Lib.hid e3; have LB := Lib.hid (lgB_ok e1 e2 e3)
  obtain ⟨p1, e4⟩ : ∃ b, decide (nil3 (l 4) (l 5) (l 6)) = b := ⟨_, rfl⟩
  obtain ⟨p2, e5⟩ : ∃ b, decide (nil3 (l 7) (l 8) (l 9)) = b := ⟨_, rfl⟩
  obtain ⟨p3, e6⟩ : ∃ b, decide (nil3 (l 10) (l 11) (l 12)) = b := ⟨_, rfl⟩
  have P1 := Lib.hid e4; have P2 := Lib.hid e5; have P3 := Lib.hid e6
  clear e1 e2 e3 e4 e5 e6
  go_enter Tryd.func12, Tryd.ntmps12
  go_upto_region 1 with fail
  obtain ⟨W0, hW⟩ : ∃ W0, W0 = (w.alloc (.cells #[.int .i64 (l 0), .int .i64 (l 1), .int .i64 (l 2), .int .i64 (l 3), .int .i64 (l 4), .int .i64 (l 5), .int .i64 (l 6), .int .i64 (l 7), .int .i64 (l 8), .int .i64 (l 9), .int .i64 (l 10), .int .i64 (l 11), .int .i64 (l 12)] 35)) := ⟨_, rfl⟩
  have hB0 : Below w.heap.size w W0 := hW ▸ (Below.al (Below.refl _ _))
  have HA : Hid (Own w.heap.size ([.int .i64 (l 0), .int .i64 (l 1), .int .i64 (l 2), .int .i64 (l 3), .int .i64 (l 4), .int .i64 (l 5), .int .i64 (l 6), .int .i64 (l 7), .int .i64 (l 8), .int .i64 (l 9), .int .i64 (l 10), .int .i64 (l 11), .int .i64 (l 12)]) W0) := Lib.hid (hW ▸ (show Own w.heap.size ([.int .i64 (l 0), .int .i64 (l 1), .int .i64 (l 2), .int .i64 (l 3), .int .i64 (l 4), .int .i64 (l 5), .int .i64 (l 6), .int .i64 (l 7), .int .i64 (l 8), .int .i64 (l 9), .int .i64 (l 10), .int .i64 (l 11), .int .i64 (l 12)]) (w.alloc (.cells #[.int .i64 (l 0), .int .i64 (l 1), .int .i64 (l 2), .int .i64 (l 3), .int .i64 (l 4), .int .i64 (l 5), .int .i64 (l 6), .int .i64 (l 7), .int .i64 (l 8), .int .i64 (l 9), .int .i64 (l 10), .int .i64 (l 11), .int .i64 (l 12)] 35)) from Own.newAt (by simp)))
  rw [← hW]
  clear hW
  obtain ⟨A, eA⟩ : ∃ X, X = w.heap.size := ⟨_, rfl⟩
  rw [← eA] at HA ⊢
  have Aw : w.heap.size ≤ A := by omega
  clear eA
  have HB := Lib.hid hB0
  clear hB0
  have oA := HA.out
  have A0 := oA.at 0 _ rfl
  have A1 := oA.at 1 _ rfl
  have A2 := oA.at 2 _ rfl
  have A3 := oA.at 3 _ rfl
  have A4 := oA.at 4 _ rfl
  have A5 := oA.at 5 _ rfl
  have A6 := oA.at 6 _ rfl
  have A7 := oA.at 7 _ rfl
  have A8 := oA.at 8 _ rfl
  have A9 := oA.at 9 _ rfl
  have A10 := oA.at 10 _ rfl
  have A11 := oA.at 11 _ rfl
  have A12 := oA.at 12 _ rfl
  have Al := oA.lt
  clear oA
  by_cases c1 : l 0 < 0
  · have dc1 : decide (l 0 < 0) = true := decide_eq_true c1
    have HZ : Hid (z = 5) := Lib.hid (K1.out (fun h => by have := h.1; have := h.2.1; have := h.2.2.1; have := h.2.2.2; omega))
    clear c1
    go_wp2_with (fail)
    go_ret
    exact ⟨by rw [HZ.out]; rfl, HB.out⟩
  · have dc1 : decide (l 0 < 0) = false := decide_eq_false c1
    have Hc1 := Lib.hid c1
    clear c1
    by_cases c2 : 2 < l 0
    · have dc2 : decide (2 < l 0) = true := decide_eq_true c2
      have HZ : Hid (z = 5) := Lib.hid (K1.out (fun h => by have := h.1; have := h.2.1; have := h.2.2.1; have := h.2.2.2; omega))
      clear c2
      go_wp2_with (fail)
      go_ret
      exact ⟨by rw [HZ.out]; rfl, HB.out⟩
    · have dc2 : decide (2 < l 0) = false := decide_eq_false c2
      have Hc2 := Lib.hid c2
      clear c2
      go_wp2_with (fail)
      refine wp_loop_rounds 4 ?_
      rw [rounds_succ]
      by_cases x1 : l 1 < 0
      · have dx1 : decide (l 1 < 0) = true := decide_eq_true x1
        have HZ : Hid (z = 5) := Lib.hid (K1.out (fun h => by have := h.1; have := h.2.1; have := h.2.2.1; have := h.2.2.2; omega))
        clear x1
        go_wp2_with (fail)
        go_ret
        exact ⟨by rw [HZ.out]; rfl, HB.out⟩
      · have dx1 : decide (l 1 < 0) = false := decide_eq_false x1
        have Hx1 := Lib.hid x1
        clear x1
        by_cases y1 : 1048576 < l 1
        · have dy1 : decide (1048576 < l 1) = true := decide_eq_true y1
          have HZ : Hid (z = 5) := Lib.hid (K1.out (fun h => by have := h.1; have := h.2.1; have := h.2.2.1; have := h.2.2.2; omega))
          clear y1
          go_wp2_with (fail)
          go_ret
          exact ⟨by rw [HZ.out]; rfl, HB.out⟩
        · have dy1 : decide (1048576 < l 1) = false := decide_eq_false y1
          have Hy1 := Lib.hid y1
          clear y1
          go_wp2_with (fail)
          rw [rounds_succ]
          by_cases x2 : l 2 < 0
          · have dx2 : decide (l 2 < 0) = true := decide_eq_true x2
            have HZ : Hid (z = 5) := Lib.hid (K1.out (fun h => by have := h.1; have := h.2.1; have := h.2.2.1; have := h.2.2.2; omega))
            clear x2
            go_wp2_with (fail)
            go_ret
            exact ⟨by rw [HZ.out]; rfl, HB.out⟩
          · have dx2 : decide (l 2 < 0) = false := decide_eq_false x2
            have Hx2 := Lib.hid x2
            clear x2
            by_cases y2 : 1048576 < l 2
            · have dy2 : decide (1048576 < l 2) = true := decide_eq_true y2
              have HZ : Hid (z = 5) := Lib.hid (K1.out (fun h => by have := h.1; have := h.2.1; have := h.2.2.1; have := h.2.2.2; omega))
              clear y2
              go_wp2_with (fail)
              go_ret
              exact ⟨by rw [HZ.out]; rfl, HB.out⟩
            · have dy2 : decide (1048576 < l 2) = false := decide_eq_false y2
              have Hy2 := Lib.hid y2
              clear y2
              go_wp2_with (fail)
              rw [rounds_succ]
              by_cases x3 : l 3 < 0
              · have dx3 : decide (l 3 < 0) = true := decide_eq_true x3
                have HZ : Hid (z = 5) := Lib.hid (K1.out (fun h => by have := h.1; have := h.2.1; have := h.2.2.1; have := h.2.2.2; omega))
                clear x3
                go_wp2_with (fail)
                go_ret
                exact ⟨by rw [HZ.out]; rfl, HB.out⟩
              · have dx3 : decide (l 3 < 0) = false := decide_eq_false x3
                have Hx3 := Lib.hid x3
                clear x3
                by_cases y3 : 1048576 < l 3
                · have dy3 : decide (1048576 < l 3) = true := decide_eq_true y3
                  have HZ : Hid (z = 5) := Lib.hid (K1.out (fun h => by have := h.1; have := h.2.1; have := h.2.2.1; have := h.2.2.2; omega))
                  clear y3
                  go_wp2_with (fail)
                  go_ret
                  exact ⟨by rw [HZ.out]; rfl, HB.out⟩
                · have dy3 : decide (1048576 < l 3) = false := decide_eq_false y3
                  have Hy3 := Lib.hid y3
                  clear y3
                  go_wp2_with (fail)
                  rw [rounds_succ]
                  have GA_ : Hid (lgA l) := Lib.hid ⟨by have := Hc1.out; have := Hc2.out; omega, by have := Hx1.out; have := Hy1.out; omega, by have := Hx2.out; have := Hy2.out; omega, by have := Hx3.out; have := Hy3.out; omega⟩
                  have HK := Lib.hid (show 0 ≤ l 0 ∧ l 0 ≤ 2 from GA_.out.1)
                  clear Hc1 Hc2 Hx1 Hx2 Hx3 Hy1 Hy2 Hy3 dc1 dc2 dx1 dx2 dx3 dy1 dy2 dy3
                  go_wp2_with (fail)
                  clear A0 A1 A2 A3 A4 A5 A6 A7 A8 A9 A10 A11 A12 Al
                  go_at_call 28
                  refine (Off_any _ _ _ _).mono ?_
                  rintro e v1 ⟨rfl, hb⟩
                  have HA_ := Lib.hid (HA.out.later hb)
                  clear HA
                  have HA := HA_
                  clear HA_
                  have HB_ := Lib.hid (Below.go HB.out hb)
                  clear HB
                  have HB := HB_
                  clear HB_
                  clear hb 
                  rw [B1.out]
                  cases b1 with
                  | false =>
                    have HZ : Hid (z = 8) := Lib.hid (K2.out GA_.out (fun h => by have := LB.out.1 h; simp at this))
                    go_wp2_with (fail)
                    go_ret
                    exact ⟨by rw [HZ.out]; rfl, HB.out⟩
                  | true =>
                    have oA := HA.out
                    have A0 := oA.at 0 _ rfl
                    have A1 := oA.at 1 _ rfl
                    have A2 := oA.at 2 _ rfl
                    have A3 := oA.at 3 _ rfl
                    have A4 := oA.at 4 _ rfl
                    have A5 := oA.at 5 _ rfl
                    have A6 := oA.at 6 _ rfl
                    have A7 := oA.at 7 _ rfl
                    have A8 := oA.at 8 _ rfl
                    have A9 := oA.at 9 _ rfl
                    have A10 := oA.at 10 _ rfl
                    have A11 := oA.at 11 _ rfl
                    have A12 := oA.at 12 _ rfl
                    have Al := oA.lt
                    clear oA
                    go_wp2_with (fail)
                    clear A0 A1 A2 A3 A4 A5 A6 A7 A8 A9 A10 A11 A12 Al
                    go_at_call 28
                    refine (Off_any _ _ _ _).mono ?_
                    rintro e v2 ⟨rfl, hb⟩
                    have HA_ := Lib.hid (HA.out.later hb)
                    clear HA
                    have HA := HA_
                    clear HA_
                    have HB_ := Lib.hid (Below.go HB.out hb)
                    clear HB
                    have HB := HB_
                    clear HB_
                    clear hb 
                    rw [B2.out]
                    cases b2 with
                    | false =>
                      have HZ : Hid (z = 8) := Lib.hid (K2.out GA_.out (fun h => by have := LB.out.1 h; simp at this))
                      go_wp2_with (fail)
                      go_ret
                      exact ⟨by rw [HZ.out]; rfl, HB.out⟩
                    | true =>
                      have oA := HA.out
                      have A0 := oA.at 0 _ rfl
                      have A1 := oA.at 1 _ rfl
                      have A2 := oA.at 2 _ rfl
                      have A3 := oA.at 3 _ rfl
                      have A4 := oA.at 4 _ rfl
                      have A5 := oA.at 5 _ rfl
                      have A6 := oA.at 6 _ rfl
                      have A7 := oA.at 7 _ rfl
                      have A8 := oA.at 8 _ rfl
                      have A9 := oA.at 9 _ rfl
                      have A10 := oA.at 10 _ rfl
                      have A11 := oA.at 11 _ rfl
                      have A12 := oA.at 12 _ rfl
                      have Al := oA.lt
                      clear oA
                      go_wp2_with (fail)
                      clear A0 A1 A2 A3 A4 A5 A6 A7 A8 A9 A10 A11 A12 Al
                      go_at_call 28
                      refine (Off_any _ _ _ _).mono ?_
                      rintro e v3 ⟨rfl, hb⟩
                      have HA_ := Lib.hid (HA.out.later hb)
                      clear HA
                      have HA := HA_
                      clear HA_
                      have HB_ := Lib.hid (Below.go HB.out hb)
                      clear HB
                      have HB := HB_
                      clear HB_
                      clear hb 
                      rw [B3.out]
                      cases b3 with
                      | false =>
                        have HZ : Hid (z = 8) := Lib.hid (K2.out GA_.out (fun h => by have := LB.out.1 h; simp at this))
                        go_wp2_with (fail)
                        go_ret
                        exact ⟨by rw [HZ.out]; rfl, HB.out⟩
                      | true =>
                        have oA := HA.out
                        have A0 := oA.at 0 _ rfl
                        have A1 := oA.at 1 _ rfl
                        have A2 := oA.at 2 _ rfl
                        have A3 := oA.at 3 _ rfl
                        have A4 := oA.at 4 _ rfl
                        have A5 := oA.at 5 _ rfl
                        have A6 := oA.at 6 _ rfl
                        have A7 := oA.at 7 _ rfl
                        have A8 := oA.at 8 _ rfl
                        have A9 := oA.at 9 _ rfl
                        have A10 := oA.at 10 _ rfl
                        have A11 := oA.at 11 _ rfl
                        have A12 := oA.at 12 _ rfl
                        have Al := oA.lt
                        clear oA
                        have GB_ := Lib.hid (LB.out.2 (by simp))
                        clear B1 B2 B3 LB
                        go_upto_region 11 with fail
                        clear A0 A1 A2 A3 A4 A5 A6 A7 A8 A9 A10 A11 A12 Al
                        obtain ⟨W1, hW⟩ : ∃ W1, W1 = (v3.alloc (.cells #[.int .i64 0, .int .i64 0, .int .i64 0] 33)) := ⟨_, rfl⟩
                        have hBx : Below v3.heap.size v3 W1 := hW ▸ (Below.al (Below.refl _ _))
                        have HZ0 : Hid (Own v3.heap.size ([.int .i64 0, .int .i64 0, .int .i64 0]) W1) := Lib.hid (hW ▸ (show Own v3.heap.size ([.int .i64 0, .int .i64 0, .int .i64 0]) (v3.alloc (.cells #[.int .i64 0, .int .i64 0, .int .i64 0] 33)) from Own.newAt (by simp)))
                        rw [← hW]
                        clear hW
                        obtain ⟨Z, eZ⟩ : ∃ X, X = v3.heap.size := ⟨_, rfl⟩
                        rw [← eZ] at HZ0 ⊢
                        have Zw : v3.heap.size ≤ Z := by omega
                        clear eZ
                        have nZA : Z ≠ A := by have := HA.out.lt; omega
                        have nAZ : A ≠ Z := Ne.symm nZA
                        have Zw2 : w.heap.size ≤ Z := by have := HB.out.size; omega
                        clear Zw
                        have Zw := Zw2
                        clear Zw2
                        have HAk := Lib.hid (HA.out.later hBx)
                        clear HA
                        have HA := HAk
                        clear HAk
                        have HBn := Lib.hid (Below.go HB.out hBx)
                        clear HB hBx
                        have HB := HBn
                        clear HBn
                        have oA := HA.out
                        have A0 := oA.at 0 _ rfl
                        have A1 := oA.at 1 _ rfl
                        have A2 := oA.at 2 _ rfl
                        have A3 := oA.at 3 _ rfl
                        have A4 := oA.at 4 _ rfl
                        have A5 := oA.at 5 _ rfl
                        have A6 := oA.at 6 _ rfl
                        have A7 := oA.at 7 _ rfl
                        have A8 := oA.at 8 _ rfl
                        have A9 := oA.at 9 _ rfl
                        have A10 := oA.at 10 _ rfl
                        have A11 := oA.at 11 _ rfl
                        have A12 := oA.at 12 _ rfl
                        have Al := oA.lt
                        clear oA
                        have oZ := HZ0.out
                        have Z0 := oZ.at 0 _ rfl
                        have Z1 := oZ.at 1 _ rfl
                        have Z2 := oZ.at 2 _ rfl
                        have Zl := oZ.lt
                        clear oZ
                        have N1 : decide (nil3 (l 4) (l 5) (l 6)) = p1 := P1.out
                        have N2 : decide (nil3 (l 7) (l 8) (l 9)) = p2 := P2.out
                        have N3 : decide (nil3 (l 10) (l 11) (l 12)) = p3 := P3.out
                        clear P1 P2 P3
                        by_cases k2 : l 0 = 2
                        · have d0 : (l 0 == 2) = true := by rw [k2]; rfl
                          have d9 : (l 0 != 1) = true := by rw [k2]; rfl
                          cases p1 with
                          | false =>
                            have HZ : Hid (z = 5) := Lib.hid (K3.out GA_.out GB_.out (fun h => by have h1 := h.1; have h2 := h.2; simp_all))
                            go_wp2_with (fail)
                            go_ret
                            exact ⟨by rw [HZ.out]; rfl, HB.out⟩
                          | true =>
                            cases p2 with
                            | false =>
                              have HZ : Hid (z = 5) := Lib.hid (K3.out GA_.out GB_.out (fun h => by have h1 := h.1; have h2 := h.2; simp_all))
                              go_wp2_with (fail)
                              go_ret
                              exact ⟨by rw [HZ.out]; rfl, HB.out⟩
                            | true =>
                              cases p3 with
                              | false =>
                                have HZ : Hid (z = 5) := Lib.hid (K3.out GA_.out GB_.out (fun h => by have h1 := h.1; have h2 := h.2; simp_all))
                                go_wp2_with (fail)
                                go_ret
                                exact ⟨by rw [HZ.out]; rfl, HB.out⟩
                              | true =>
                                have HZ : Hid (z = 0) := Lib.hid (K4.out GA_.out GB_.out (by unfold lgC; simp_all))
                                go_wp2_with (fail)
                                go_ret
                                exact ⟨by rw [HZ.out]; rfl, HB.out⟩
                        · have d0 : (l 0 == 2) = false := by simpa using k2
                          by_cases k1 : l 0 = 1
                          · have d1 : (l 0 != 1) = false := by rw [k1]; rfl
                            have HZ : Hid (z = 0) := Lib.hid (K4.out GA_.out GB_.out (by unfold lgC; simp_all))
                            go_wp2_with (fail)
                            go_ret
                            exact ⟨by rw [HZ.out]; rfl, HB.out⟩
                          · have d1 : (l 0 != 1) = true := by simpa using k1
                            cases p2 with
                            | false =>
                              have HZ : Hid (z = 5) := Lib.hid (K3.out GA_.out GB_.out (fun h => by have h1 := h.1; have h2 := h.2; simp_all))
                              go_wp2_with (fail)
                              go_ret
                              exact ⟨by rw [HZ.out]; rfl, HB.out⟩
                            | true =>
                              cases p3 with
                              | false =>
                                have HZ : Hid (z = 5) := Lib.hid (K3.out GA_.out GB_.out (fun h => by have h1 := h.1; have h2 := h.2; simp_all))
                                go_wp2_with (fail)
                                go_ret
                                exact ⟨by rw [HZ.out]; rfl, HB.out⟩
                              | true =>
                                have HZ : Hid (z = 0) := Lib.hid (K4.out GA_.out GB_.out (by unfold lgC; simp_all))
                                go_wp2_with (fail)
                                go_ret
                                exact ⟨by rw [HZ.out]; rfl, HB.out⟩
end Go.Proofs.YtokfhhngnpbdkaaDoor
