/- affine.Size, whatever the numbers are. -/
import Derived.Test.YtgggngcgcpmkbaaAE
import Derived.LoopN
import Derived.LoopTactic
import Derived.Deep.DeepCutAuto
namespace Go.Proofs.Ytgggngcgcpmkbaa
set_option linter.unusedVariables false
set_option maxRecDepth 2000
set_option linter.unusedSimpArgs false
open Go.RowKit
attribute [local go_sem] setCell_twice setCell_pair

set_option maxHeartbeats 4000000 in
theorem Size_none (p : Option Addr) (cap : Nat) (w : World) :
    Calls Try.prog 51 #[.slice p 0 cap] w fun e w' => e = .returned (.agg #[.int .i64 4294967296, .int .i64 0, .int .i64 0, .int .i64 0, .int .i64 4294967296, .int .i64 0, .int .i64 0, .int .i64 0, .int .i64 4294967296, .int .i64 0, .int .i64 0, .int .i64 0]) ∧ Below w.heap.size w w' := by
  have sm := Lib.hid Same_any
  go_enter Try.func51, Try.ntmps51
  go_upto_region 1 with fail
  obtain ⟨W0, hW⟩ : ∃ W0, W0 = (w.alloc (.cells #[.int .i64 0, .int .i64 0, .int .i64 0, .int .i64 0, .int .i64 0, .int .i64 0, .int .i64 0, .int .i64 0, .int .i64 0, .int .i64 0, .int .i64 0, .int .i64 0] 80)) := ⟨_, rfl⟩
  have hB0 : Below w.heap.size w W0 := hW ▸ (Below.al (Below.refl _ _))
  have HR : Hid (Own w.heap.size [.int .i64 0, .int .i64 0, .int .i64 0, .int .i64 0, .int .i64 0, .int .i64 0, .int .i64 0, .int .i64 0, .int .i64 0, .int .i64 0, .int .i64 0, .int .i64 0] W0) := Lib.hid (hW ▸ (Own.newAt (by simp)))
  rw [← hW]
  clear hW
  obtain ⟨R, eR⟩ : ∃ X, X = w.heap.size := ⟨_, rfl⟩
  rw [← eR] at HR ⊢
  have Rw : w.heap.size ≤ R := by omega
  clear eR
  go_upto_region 2 with (go_at_call 47; refine (sm.out _).mono ?_; rintro e w1 ⟨rfl, hb⟩)
  have HR1 := Lib.hid (HR.out.later hb)
  clear HR sm
  obtain ⟨W1, hW⟩ : ∃ W1, W1 = (w1.alloc (.cells #[.int .i64 4294967296, .int .i64 0, .int .i64 0, .int .i64 0, .int .i64 4294967296, .int .i64 0, .int .i64 0, .int .i64 0, .int .i64 4294967296, .int .i64 0, .int .i64 0, .int .i64 0] 80)) := ⟨_, rfl⟩
  have hB1 : Below w1.heap.size w1 W1 := hW ▸ (Below.al (Below.refl _ _))
  have HD : Hid (Own w1.heap.size [.int .i64 4294967296, .int .i64 0, .int .i64 0, .int .i64 0, .int .i64 4294967296, .int .i64 0, .int .i64 0, .int .i64 0, .int .i64 4294967296, .int .i64 0, .int .i64 0, .int .i64 0] W1) := Lib.hid (hW ▸ (Own.newAt (by simp)))
  rw [← hW]
  clear hW
  obtain ⟨D, eD⟩ : ∃ X, X = w1.heap.size := ⟨_, rfl⟩
  rw [← eD] at HD ⊢
  have Dw : w1.heap.size ≤ D := by omega
  clear eD
  have HR := Lib.hid (HR1.out.later hB1)
  have hB2 : Below w.heap.size w W1 := Below.go (Below.go hB0 hb) hB1
  have nRD : R ≠ D := by have := HR1.out.lt; omega
  have nDR : D ≠ R := nRD.symm
  have Dww : w.heap.size ≤ D := by have := hB0.size; have := hb.size; omega
  replace Dw := Dww
  clear HR1 hB1 hb hB0 Dww
  go_wp2_with (fail)
  refine wp_loop_rounds 4 ?_
  rw [rounds_succ]
  go_wp2_with (fail)
  rw [rounds_succ]
  go_wp2_with (fail)
  rw [rounds_succ]
  go_wp2_with (fail)
  rw [rounds_succ]
  have oD := HD.out
  have D0 := oD.at 0 _ rfl
  have D1 := oD.at 1 _ rfl
  have D2 := oD.at 2 _ rfl
  have D3 := oD.at 3 _ rfl
  have D4 := oD.at 4 _ rfl
  have D5 := oD.at 5 _ rfl
  have D6 := oD.at 6 _ rfl
  have D7 := oD.at 7 _ rfl
  have D8 := oD.at 8 _ rfl
  have D9 := oD.at 9 _ rfl
  have D10 := oD.at 10 _ rfl
  have D11 := oD.at 11 _ rfl
  have Dl := oD.lt
  clear oD
  have oR := HR.out
  have R0 := oR.at 0 _ rfl
  have Rf0 := oR.ok 0 (by simp)
  have R1 := oR.at 1 _ rfl
  have Rf1 := oR.ok 1 (by simp)
  have R2 := oR.at 2 _ rfl
  have Rf2 := oR.ok 2 (by simp)
  have R3 := oR.at 3 _ rfl
  have Rf3 := oR.ok 3 (by simp)
  have R4 := oR.at 4 _ rfl
  have Rf4 := oR.ok 4 (by simp)
  have R5 := oR.at 5 _ rfl
  have Rf5 := oR.ok 5 (by simp)
  have R6 := oR.at 6 _ rfl
  have Rf6 := oR.ok 6 (by simp)
  have R7 := oR.at 7 _ rfl
  have Rf7 := oR.ok 7 (by simp)
  have R8 := oR.at 8 _ rfl
  have Rf8 := oR.ok 8 (by simp)
  have R9 := oR.at 9 _ rfl
  have Rf9 := oR.ok 9 (by simp)
  have R10 := oR.at 10 _ rfl
  have Rf10 := oR.ok 10 (by simp)
  have R11 := oR.at 11 _ rfl
  have Rf11 := oR.ok 11 (by simp)
  have Rl := oR.lt
  clear oR
  clear HD HR
  go_wp2_with (fail)
  exact bodyPost_ret (v := (.agg #[.int .i64 4294967296, .int .i64 0, .int .i64 0, .int .i64 0, .int .i64 4294967296, .int .i64 0, .int .i64 0, .int .i64 0, .int .i64 4294967296, .int .i64 0, .int .i64 0, .int .i64 0])) (by simp [results, Try.results51, go_sem, R0, R1, R2, R3, R4, R5, R6, R7, R8, R9, R10, R11]) rfl ⟨rfl, by repeat (first | (with_reducible assumption) | (with_reducible refine Below.setCell ?_ (by first | assumption | (simp; omega)) _))⟩

set_option maxHeartbeats 4000000 in
theorem Size_few (blk off n cap : Nat) (k : Int) (hn : 0 < n ∧ n < 3) (w : World) (hbk : blk < w.heap.size) (k0 : w.cell? ⟨blk, off, none⟩ = some (.int .i64 k)) :
    Calls Try.prog 51 #[.slice (some ⟨blk, off, none⟩) n cap] w fun e w' => e = .returned (.agg #[.int .i64 k, .int .i64 0, .int .i64 0, .int .i64 0, .int .i64 k, .int .i64 0, .int .i64 0, .int .i64 0, .int .i64 k, .int .i64 0, .int .i64 0, .int .i64 0]) ∧ Below w.heap.size w w' := by
  have sm := Lib.hid Same_any
  have t1 : decide ((3 : Int) ≤ n) = false := by simp; omega
  have t2 : decide ((0 : Int) < n) = true := by simp; omega
  have t3 : (0 : Int) < n := by omega
  have t4 : ¬ ((3 : Int) ≤ n) := by omega
  clear hn
  go_enter Try.func51, Try.ntmps51
  go_upto_region 1 with fail
  obtain ⟨W0, hW⟩ : ∃ W0, W0 = (w.alloc (.cells #[.int .i64 0, .int .i64 0, .int .i64 0, .int .i64 0, .int .i64 0, .int .i64 0, .int .i64 0, .int .i64 0, .int .i64 0, .int .i64 0, .int .i64 0, .int .i64 0] 80)) := ⟨_, rfl⟩
  have hB0 : Below w.heap.size w W0 := hW ▸ (Below.al (Below.refl _ _))
  have HR : Hid (Own w.heap.size [.int .i64 0, .int .i64 0, .int .i64 0, .int .i64 0, .int .i64 0, .int .i64 0, .int .i64 0, .int .i64 0, .int .i64 0, .int .i64 0, .int .i64 0, .int .i64 0] W0) := Lib.hid (hW ▸ (Own.newAt (by simp)))
  rw [← hW]
  clear hW
  obtain ⟨R, eR⟩ : ∃ X, X = w.heap.size := ⟨_, rfl⟩
  rw [← eR] at HR ⊢
  have Rw : w.heap.size ≤ R := by omega
  clear eR
  go_upto_region 2 with (go_at_call 47; refine (sm.out _).mono ?_; rintro e w1 ⟨rfl, hb⟩)
  have HR1 := Lib.hid (HR.out.later hb)
  clear HR sm
  obtain ⟨W1, hW⟩ : ∃ W1, W1 = (w1.alloc (.cells #[.int .i64 4294967296, .int .i64 0, .int .i64 0, .int .i64 0, .int .i64 4294967296, .int .i64 0, .int .i64 0, .int .i64 0, .int .i64 4294967296, .int .i64 0, .int .i64 0, .int .i64 0] 80)) := ⟨_, rfl⟩
  have hB1 : Below w1.heap.size w1 W1 := hW ▸ (Below.al (Below.refl _ _))
  have HD : Hid (Own w1.heap.size [.int .i64 4294967296, .int .i64 0, .int .i64 0, .int .i64 0, .int .i64 4294967296, .int .i64 0, .int .i64 0, .int .i64 0, .int .i64 4294967296, .int .i64 0, .int .i64 0, .int .i64 0] W1) := Lib.hid (hW ▸ (Own.newAt (by simp)))
  rw [← hW]
  clear hW
  obtain ⟨D, eD⟩ : ∃ X, X = w1.heap.size := ⟨_, rfl⟩
  rw [← eD] at HD ⊢
  have Dw : w1.heap.size ≤ D := by omega
  clear eD
  have HR := Lib.hid (HR1.out.later hB1)
  have hB2 : Below w.heap.size w W1 := Below.go (Below.go hB0 hb) hB1
  have nRD : R ≠ D := by have := HR1.out.lt; omega
  have nDR : D ≠ R := nRD.symm
  have Dww : w.heap.size ≤ D := by have := hB0.size; have := hb.size; omega
  replace Dw := Dww
  clear HR1 hB1 hb hB0 Dww
  go_wp2_with (fail)
  refine wp_loop_rounds 4 ?_
  rw [rounds_succ]
  have oD := HD.out
  have D0 := oD.at 0 _ rfl
  have Df0 := oD.ok 0 (by simp)
  have D1 := oD.at 1 _ rfl
  have Df1 := oD.ok 1 (by simp)
  have D2 := oD.at 2 _ rfl
  have Df2 := oD.ok 2 (by simp)
  have D3 := oD.at 3 _ rfl
  have Df3 := oD.ok 3 (by simp)
  have D4 := oD.at 4 _ rfl
  have Df4 := oD.ok 4 (by simp)
  have D5 := oD.at 5 _ rfl
  have Df5 := oD.ok 5 (by simp)
  have D6 := oD.at 6 _ rfl
  have Df6 := oD.ok 6 (by simp)
  have D7 := oD.at 7 _ rfl
  have Df7 := oD.ok 7 (by simp)
  have D8 := oD.at 8 _ rfl
  have Df8 := oD.ok 8 (by simp)
  have D9 := oD.at 9 _ rfl
  have Df9 := oD.ok 9 (by simp)
  have D10 := oD.at 10 _ rfl
  have Df10 := oD.ok 10 (by simp)
  have D11 := oD.at 11 _ rfl
  have Df11 := oD.ok 11 (by simp)
  have Dl := oD.lt
  clear oD
  have k0w := (hB2.cell (p := ⟨blk, off, none⟩) hbk).trans k0
  have nbD : blk ≠ D := by omega
  go_wp2_with (fail)
  rw [show (W1.setCell ⟨D, 0, none⟩ (.int .i64 k)) = W1.setCells D 0 [.int .i64 k] from rfl]
  have HDn : Hid (Own D [.int .i64 k, .int .i64 0, .int .i64 0, .int .i64 0, .int .i64 4294967296, .int .i64 0, .int .i64 0, .int .i64 0, .int .i64 4294967296, .int .i64 0, .int .i64 0, .int .i64 0] (W1.setCells D 0 [.int .i64 k])) := Lib.hid (show Own D (over _ 0 [.int .i64 k]) _ from Own.part HD.out (by simp))
  have HRn : Hid (Own R [.int .i64 0, .int .i64 0, .int .i64 0, .int .i64 0, .int .i64 0, .int .i64 0, .int .i64 0, .int .i64 0, .int .i64 0, .int .i64 0, .int .i64 0, .int .i64 0] (W1.setCells D 0 [.int .i64 k])) := Lib.hid (Own.far (o := 0) (vs := [.int .i64 k]) HR.out nRD)
  have hBn0 : Below w.heap.size w (W1.setCells D 0 [.int .i64 k]) := Below.setCells hB2 Dw _ _
  clear D0 Df0 D1 Df1 D2 Df2 D3 Df3 D4 Df4 D5 Df5 D6 Df6 D7 Df7 D8 Df8 D9 Df9 D10 Df10 D11 Df11 Dl k0w HD HR nbD hB2
  generalize W1.setCells D 0 [.int .i64 k] = Y0 at *
  have HD := HDn; have HR := HRn; clear HDn HRn
  rw [rounds_succ]
  have oD := HD.out
  have D0 := oD.at 0 _ rfl
  have Df0 := oD.ok 0 (by simp)
  have D1 := oD.at 1 _ rfl
  have Df1 := oD.ok 1 (by simp)
  have D2 := oD.at 2 _ rfl
  have Df2 := oD.ok 2 (by simp)
  have D3 := oD.at 3 _ rfl
  have Df3 := oD.ok 3 (by simp)
  have D4 := oD.at 4 _ rfl
  have Df4 := oD.ok 4 (by simp)
  have D5 := oD.at 5 _ rfl
  have Df5 := oD.ok 5 (by simp)
  have D6 := oD.at 6 _ rfl
  have Df6 := oD.ok 6 (by simp)
  have D7 := oD.at 7 _ rfl
  have Df7 := oD.ok 7 (by simp)
  have D8 := oD.at 8 _ rfl
  have Df8 := oD.ok 8 (by simp)
  have D9 := oD.at 9 _ rfl
  have Df9 := oD.ok 9 (by simp)
  have D10 := oD.at 10 _ rfl
  have Df10 := oD.ok 10 (by simp)
  have D11 := oD.at 11 _ rfl
  have Df11 := oD.ok 11 (by simp)
  have Dl := oD.lt
  clear oD
  have k0w := (hBn0.cell (p := ⟨blk, off, none⟩) hbk).trans k0
  have nbD : blk ≠ D := by omega
  go_wp2_with (fail)
  rw [show (Y0.setCell ⟨D, 4, none⟩ (.int .i64 k)) = Y0.setCells D 4 [.int .i64 k] from rfl]
  have HDn : Hid (Own D [.int .i64 k, .int .i64 0, .int .i64 0, .int .i64 0, .int .i64 k, .int .i64 0, .int .i64 0, .int .i64 0, .int .i64 4294967296, .int .i64 0, .int .i64 0, .int .i64 0] (Y0.setCells D 4 [.int .i64 k])) := Lib.hid (show Own D (over _ 4 [.int .i64 k]) _ from Own.part HD.out (by simp))
  have HRn : Hid (Own R [.int .i64 0, .int .i64 0, .int .i64 0, .int .i64 0, .int .i64 0, .int .i64 0, .int .i64 0, .int .i64 0, .int .i64 0, .int .i64 0, .int .i64 0, .int .i64 0] (Y0.setCells D 4 [.int .i64 k])) := Lib.hid (Own.far (o := 4) (vs := [.int .i64 k]) HR.out nRD)
  have hBn1 : Below w.heap.size w (Y0.setCells D 4 [.int .i64 k]) := Below.setCells hBn0 Dw _ _
  clear D0 Df0 D1 Df1 D2 Df2 D3 Df3 D4 Df4 D5 Df5 D6 Df6 D7 Df7 D8 Df8 D9 Df9 D10 Df10 D11 Df11 Dl k0w HD HR nbD hBn0
  generalize Y0.setCells D 4 [.int .i64 k] = Y1 at *
  have HD := HDn; have HR := HRn; clear HDn HRn
  rw [rounds_succ]
  have oD := HD.out
  have D0 := oD.at 0 _ rfl
  have Df0 := oD.ok 0 (by simp)
  have D1 := oD.at 1 _ rfl
  have Df1 := oD.ok 1 (by simp)
  have D2 := oD.at 2 _ rfl
  have Df2 := oD.ok 2 (by simp)
  have D3 := oD.at 3 _ rfl
  have Df3 := oD.ok 3 (by simp)
  have D4 := oD.at 4 _ rfl
  have Df4 := oD.ok 4 (by simp)
  have D5 := oD.at 5 _ rfl
  have Df5 := oD.ok 5 (by simp)
  have D6 := oD.at 6 _ rfl
  have Df6 := oD.ok 6 (by simp)
  have D7 := oD.at 7 _ rfl
  have Df7 := oD.ok 7 (by simp)
  have D8 := oD.at 8 _ rfl
  have Df8 := oD.ok 8 (by simp)
  have D9 := oD.at 9 _ rfl
  have Df9 := oD.ok 9 (by simp)
  have D10 := oD.at 10 _ rfl
  have Df10 := oD.ok 10 (by simp)
  have D11 := oD.at 11 _ rfl
  have Df11 := oD.ok 11 (by simp)
  have Dl := oD.lt
  clear oD
  have k0w := (hBn1.cell (p := ⟨blk, off, none⟩) hbk).trans k0
  have nbD : blk ≠ D := by omega
  go_wp2_with (fail)
  rw [show (Y1.setCell ⟨D, 8, none⟩ (.int .i64 k)) = Y1.setCells D 8 [.int .i64 k] from rfl]
  have HDn : Hid (Own D [.int .i64 k, .int .i64 0, .int .i64 0, .int .i64 0, .int .i64 k, .int .i64 0, .int .i64 0, .int .i64 0, .int .i64 k, .int .i64 0, .int .i64 0, .int .i64 0] (Y1.setCells D 8 [.int .i64 k])) := Lib.hid (show Own D (over _ 8 [.int .i64 k]) _ from Own.part HD.out (by simp))
  have HRn : Hid (Own R [.int .i64 0, .int .i64 0, .int .i64 0, .int .i64 0, .int .i64 0, .int .i64 0, .int .i64 0, .int .i64 0, .int .i64 0, .int .i64 0, .int .i64 0, .int .i64 0] (Y1.setCells D 8 [.int .i64 k])) := Lib.hid (Own.far (o := 8) (vs := [.int .i64 k]) HR.out nRD)
  have hBn2 : Below w.heap.size w (Y1.setCells D 8 [.int .i64 k]) := Below.setCells hBn1 Dw _ _
  clear D0 Df0 D1 Df1 D2 Df2 D3 Df3 D4 Df4 D5 Df5 D6 Df6 D7 Df7 D8 Df8 D9 Df9 D10 Df10 D11 Df11 Dl k0w HD HR nbD hBn1
  generalize Y1.setCells D 8 [.int .i64 k] = Y2 at *
  have HD := HDn; have HR := HRn; clear HDn HRn
  rw [rounds_succ]
  have oD := HD.out
  have D0 := oD.at 0 _ rfl
  have D1 := oD.at 1 _ rfl
  have D2 := oD.at 2 _ rfl
  have D3 := oD.at 3 _ rfl
  have D4 := oD.at 4 _ rfl
  have D5 := oD.at 5 _ rfl
  have D6 := oD.at 6 _ rfl
  have D7 := oD.at 7 _ rfl
  have D8 := oD.at 8 _ rfl
  have D9 := oD.at 9 _ rfl
  have D10 := oD.at 10 _ rfl
  have D11 := oD.at 11 _ rfl
  have Dl := oD.lt
  clear oD
  have oR := HR.out
  have R0 := oR.at 0 _ rfl
  have Rf0 := oR.ok 0 (by simp)
  have R1 := oR.at 1 _ rfl
  have Rf1 := oR.ok 1 (by simp)
  have R2 := oR.at 2 _ rfl
  have Rf2 := oR.ok 2 (by simp)
  have R3 := oR.at 3 _ rfl
  have Rf3 := oR.ok 3 (by simp)
  have R4 := oR.at 4 _ rfl
  have Rf4 := oR.ok 4 (by simp)
  have R5 := oR.at 5 _ rfl
  have Rf5 := oR.ok 5 (by simp)
  have R6 := oR.at 6 _ rfl
  have Rf6 := oR.ok 6 (by simp)
  have R7 := oR.at 7 _ rfl
  have Rf7 := oR.ok 7 (by simp)
  have R8 := oR.at 8 _ rfl
  have Rf8 := oR.ok 8 (by simp)
  have R9 := oR.at 9 _ rfl
  have Rf9 := oR.ok 9 (by simp)
  have R10 := oR.at 10 _ rfl
  have Rf10 := oR.ok 10 (by simp)
  have R11 := oR.at 11 _ rfl
  have Rf11 := oR.ok 11 (by simp)
  have Rl := oR.lt
  clear oR
  clear HD HR
  go_wp2_with (fail)
  exact bodyPost_ret (v := (.agg #[.int .i64 k, .int .i64 0, .int .i64 0, .int .i64 0, .int .i64 k, .int .i64 0, .int .i64 0, .int .i64 0, .int .i64 k, .int .i64 0, .int .i64 0, .int .i64 0])) (by simp [results, Try.results51, go_sem, R0, R1, R2, R3, R4, R5, R6, R7, R8, R9, R10, R11]) rfl ⟨rfl, by repeat (first | (with_reducible assumption) | (with_reducible refine Below.setCell ?_ (by first | assumption | (simp; omega)) _))⟩

set_option maxHeartbeats 4000000 in
theorem Size_many (blk off n cap : Nat) (k l m : Int) (hn : 3 ≤ n) (w : World) (hbk : blk < w.heap.size) (k0 : w.cell? ⟨blk, off, none⟩ = some (.int .i64 k)) (k1 : w.cell? ⟨blk, off + 1, none⟩ = some (.int .i64 l)) (k2 : w.cell? ⟨blk, off + 2, none⟩ = some (.int .i64 m)) :
    Calls Try.prog 51 #[.slice (some ⟨blk, off, none⟩) n cap] w fun e w' => e = .returned (.agg #[.int .i64 k, .int .i64 0, .int .i64 0, .int .i64 0, .int .i64 l, .int .i64 0, .int .i64 0, .int .i64 0, .int .i64 m, .int .i64 0, .int .i64 0, .int .i64 0]) ∧ Below w.heap.size w w' := by
  have sm := Lib.hid Same_any
  have t1 : decide ((3 : Int) ≤ n) = true := by simp; omega
  have t2 : (3 : Int) ≤ n := by omega
  have t3 : (0 : Int) < n := by omega
  have t4 : (1 : Int) < n := by omega
  have t5 : (2 : Int) < n := by omega
  clear hn
  go_enter Try.func51, Try.ntmps51
  go_upto_region 1 with fail
  obtain ⟨W0, hW⟩ : ∃ W0, W0 = (w.alloc (.cells #[.int .i64 0, .int .i64 0, .int .i64 0, .int .i64 0, .int .i64 0, .int .i64 0, .int .i64 0, .int .i64 0, .int .i64 0, .int .i64 0, .int .i64 0, .int .i64 0] 80)) := ⟨_, rfl⟩
  have hB0 : Below w.heap.size w W0 := hW ▸ (Below.al (Below.refl _ _))
  have HR : Hid (Own w.heap.size [.int .i64 0, .int .i64 0, .int .i64 0, .int .i64 0, .int .i64 0, .int .i64 0, .int .i64 0, .int .i64 0, .int .i64 0, .int .i64 0, .int .i64 0, .int .i64 0] W0) := Lib.hid (hW ▸ (Own.newAt (by simp)))
  rw [← hW]
  clear hW
  obtain ⟨R, eR⟩ : ∃ X, X = w.heap.size := ⟨_, rfl⟩
  rw [← eR] at HR ⊢
  have Rw : w.heap.size ≤ R := by omega
  clear eR
  go_upto_region 2 with (go_at_call 47; refine (sm.out _).mono ?_; rintro e w1 ⟨rfl, hb⟩)
  have HR1 := Lib.hid (HR.out.later hb)
  clear HR sm
  obtain ⟨W1, hW⟩ : ∃ W1, W1 = (w1.alloc (.cells #[.int .i64 4294967296, .int .i64 0, .int .i64 0, .int .i64 0, .int .i64 4294967296, .int .i64 0, .int .i64 0, .int .i64 0, .int .i64 4294967296, .int .i64 0, .int .i64 0, .int .i64 0] 80)) := ⟨_, rfl⟩
  have hB1 : Below w1.heap.size w1 W1 := hW ▸ (Below.al (Below.refl _ _))
  have HD : Hid (Own w1.heap.size [.int .i64 4294967296, .int .i64 0, .int .i64 0, .int .i64 0, .int .i64 4294967296, .int .i64 0, .int .i64 0, .int .i64 0, .int .i64 4294967296, .int .i64 0, .int .i64 0, .int .i64 0] W1) := Lib.hid (hW ▸ (Own.newAt (by simp)))
  rw [← hW]
  clear hW
  obtain ⟨D, eD⟩ : ∃ X, X = w1.heap.size := ⟨_, rfl⟩
  rw [← eD] at HD ⊢
  have Dw : w1.heap.size ≤ D := by omega
  clear eD
  have HR := Lib.hid (HR1.out.later hB1)
  have hB2 : Below w.heap.size w W1 := Below.go (Below.go hB0 hb) hB1
  have nRD : R ≠ D := by have := HR1.out.lt; omega
  have nDR : D ≠ R := nRD.symm
  have Dww : w.heap.size ≤ D := by have := hB0.size; have := hb.size; omega
  replace Dw := Dww
  clear HR1 hB1 hb hB0 Dww
  go_wp2_with (fail)
  refine wp_loop_rounds 4 ?_
  rw [rounds_succ]
  have oD := HD.out
  have D0 := oD.at 0 _ rfl
  have Df0 := oD.ok 0 (by simp)
  have D1 := oD.at 1 _ rfl
  have Df1 := oD.ok 1 (by simp)
  have D2 := oD.at 2 _ rfl
  have Df2 := oD.ok 2 (by simp)
  have D3 := oD.at 3 _ rfl
  have Df3 := oD.ok 3 (by simp)
  have D4 := oD.at 4 _ rfl
  have Df4 := oD.ok 4 (by simp)
  have D5 := oD.at 5 _ rfl
  have Df5 := oD.ok 5 (by simp)
  have D6 := oD.at 6 _ rfl
  have Df6 := oD.ok 6 (by simp)
  have D7 := oD.at 7 _ rfl
  have Df7 := oD.ok 7 (by simp)
  have D8 := oD.at 8 _ rfl
  have Df8 := oD.ok 8 (by simp)
  have D9 := oD.at 9 _ rfl
  have Df9 := oD.ok 9 (by simp)
  have D10 := oD.at 10 _ rfl
  have Df10 := oD.ok 10 (by simp)
  have D11 := oD.at 11 _ rfl
  have Df11 := oD.ok 11 (by simp)
  have Dl := oD.lt
  clear oD
  have k0w := (hB2.cell (p := ⟨blk, off, none⟩) hbk).trans k0
  have k1w := (hB2.cell (p := ⟨blk, off + 1, none⟩) hbk).trans k1
  have k2w := (hB2.cell (p := ⟨blk, off + 2, none⟩) hbk).trans k2
  have nbD : blk ≠ D := by omega
  go_wp2_with (fail)
  rw [show (W1.setCell ⟨D, 0, none⟩ (.int .i64 k)) = W1.setCells D 0 [.int .i64 k] from rfl]
  have HDn : Hid (Own D [.int .i64 k, .int .i64 0, .int .i64 0, .int .i64 0, .int .i64 4294967296, .int .i64 0, .int .i64 0, .int .i64 0, .int .i64 4294967296, .int .i64 0, .int .i64 0, .int .i64 0] (W1.setCells D 0 [.int .i64 k])) := Lib.hid (show Own D (over _ 0 [.int .i64 k]) _ from Own.part HD.out (by simp))
  have HRn : Hid (Own R [.int .i64 0, .int .i64 0, .int .i64 0, .int .i64 0, .int .i64 0, .int .i64 0, .int .i64 0, .int .i64 0, .int .i64 0, .int .i64 0, .int .i64 0, .int .i64 0] (W1.setCells D 0 [.int .i64 k])) := Lib.hid (Own.far (o := 0) (vs := [.int .i64 k]) HR.out nRD)
  have hBn0 : Below w.heap.size w (W1.setCells D 0 [.int .i64 k]) := Below.setCells hB2 Dw _ _
  clear D0 Df0 D1 Df1 D2 Df2 D3 Df3 D4 Df4 D5 Df5 D6 Df6 D7 Df7 D8 Df8 D9 Df9 D10 Df10 D11 Df11 Dl k0w k1w k2w HD HR nbD hB2
  generalize W1.setCells D 0 [.int .i64 k] = Y0 at *
  have HD := HDn; have HR := HRn; clear HDn HRn
  rw [rounds_succ]
  have oD := HD.out
  have D0 := oD.at 0 _ rfl
  have Df0 := oD.ok 0 (by simp)
  have D1 := oD.at 1 _ rfl
  have Df1 := oD.ok 1 (by simp)
  have D2 := oD.at 2 _ rfl
  have Df2 := oD.ok 2 (by simp)
  have D3 := oD.at 3 _ rfl
  have Df3 := oD.ok 3 (by simp)
  have D4 := oD.at 4 _ rfl
  have Df4 := oD.ok 4 (by simp)
  have D5 := oD.at 5 _ rfl
  have Df5 := oD.ok 5 (by simp)
  have D6 := oD.at 6 _ rfl
  have Df6 := oD.ok 6 (by simp)
  have D7 := oD.at 7 _ rfl
  have Df7 := oD.ok 7 (by simp)
  have D8 := oD.at 8 _ rfl
  have Df8 := oD.ok 8 (by simp)
  have D9 := oD.at 9 _ rfl
  have Df9 := oD.ok 9 (by simp)
  have D10 := oD.at 10 _ rfl
  have Df10 := oD.ok 10 (by simp)
  have D11 := oD.at 11 _ rfl
  have Df11 := oD.ok 11 (by simp)
  have Dl := oD.lt
  clear oD
  have k0w := (hBn0.cell (p := ⟨blk, off, none⟩) hbk).trans k0
  have k1w := (hBn0.cell (p := ⟨blk, off + 1, none⟩) hbk).trans k1
  have k2w := (hBn0.cell (p := ⟨blk, off + 2, none⟩) hbk).trans k2
  have nbD : blk ≠ D := by omega
  go_wp2_with (fail)
  rw [show (Y0.setCell ⟨D, 4, none⟩ (.int .i64 l)) = Y0.setCells D 4 [.int .i64 l] from rfl]
  have HDn : Hid (Own D [.int .i64 k, .int .i64 0, .int .i64 0, .int .i64 0, .int .i64 l, .int .i64 0, .int .i64 0, .int .i64 0, .int .i64 4294967296, .int .i64 0, .int .i64 0, .int .i64 0] (Y0.setCells D 4 [.int .i64 l])) := Lib.hid (show Own D (over _ 4 [.int .i64 l]) _ from Own.part HD.out (by simp))
  have HRn : Hid (Own R [.int .i64 0, .int .i64 0, .int .i64 0, .int .i64 0, .int .i64 0, .int .i64 0, .int .i64 0, .int .i64 0, .int .i64 0, .int .i64 0, .int .i64 0, .int .i64 0] (Y0.setCells D 4 [.int .i64 l])) := Lib.hid (Own.far (o := 4) (vs := [.int .i64 l]) HR.out nRD)
  have hBn1 : Below w.heap.size w (Y0.setCells D 4 [.int .i64 l]) := Below.setCells hBn0 Dw _ _
  clear D0 Df0 D1 Df1 D2 Df2 D3 Df3 D4 Df4 D5 Df5 D6 Df6 D7 Df7 D8 Df8 D9 Df9 D10 Df10 D11 Df11 Dl k0w k1w k2w HD HR nbD hBn0
  generalize Y0.setCells D 4 [.int .i64 l] = Y1 at *
  have HD := HDn; have HR := HRn; clear HDn HRn
  rw [rounds_succ]
  have oD := HD.out
  have D0 := oD.at 0 _ rfl
  have Df0 := oD.ok 0 (by simp)
  have D1 := oD.at 1 _ rfl
  have Df1 := oD.ok 1 (by simp)
  have D2 := oD.at 2 _ rfl
  have Df2 := oD.ok 2 (by simp)
  have D3 := oD.at 3 _ rfl
  have Df3 := oD.ok 3 (by simp)
  have D4 := oD.at 4 _ rfl
  have Df4 := oD.ok 4 (by simp)
  have D5 := oD.at 5 _ rfl
  have Df5 := oD.ok 5 (by simp)
  have D6 := oD.at 6 _ rfl
  have Df6 := oD.ok 6 (by simp)
  have D7 := oD.at 7 _ rfl
  have Df7 := oD.ok 7 (by simp)
  have D8 := oD.at 8 _ rfl
  have Df8 := oD.ok 8 (by simp)
  have D9 := oD.at 9 _ rfl
  have Df9 := oD.ok 9 (by simp)
  have D10 := oD.at 10 _ rfl
  have Df10 := oD.ok 10 (by simp)
  have D11 := oD.at 11 _ rfl
  have Df11 := oD.ok 11 (by simp)
  have Dl := oD.lt
  clear oD
  have k0w := (hBn1.cell (p := ⟨blk, off, none⟩) hbk).trans k0
  have k1w := (hBn1.cell (p := ⟨blk, off + 1, none⟩) hbk).trans k1
  have k2w := (hBn1.cell (p := ⟨blk, off + 2, none⟩) hbk).trans k2
  have nbD : blk ≠ D := by omega
  go_wp2_with (fail)
  rw [show (Y1.setCell ⟨D, 8, none⟩ (.int .i64 m)) = Y1.setCells D 8 [.int .i64 m] from rfl]
  have HDn : Hid (Own D [.int .i64 k, .int .i64 0, .int .i64 0, .int .i64 0, .int .i64 l, .int .i64 0, .int .i64 0, .int .i64 0, .int .i64 m, .int .i64 0, .int .i64 0, .int .i64 0] (Y1.setCells D 8 [.int .i64 m])) := Lib.hid (show Own D (over _ 8 [.int .i64 m]) _ from Own.part HD.out (by simp))
  have HRn : Hid (Own R [.int .i64 0, .int .i64 0, .int .i64 0, .int .i64 0, .int .i64 0, .int .i64 0, .int .i64 0, .int .i64 0, .int .i64 0, .int .i64 0, .int .i64 0, .int .i64 0] (Y1.setCells D 8 [.int .i64 m])) := Lib.hid (Own.far (o := 8) (vs := [.int .i64 m]) HR.out nRD)
  have hBn2 : Below w.heap.size w (Y1.setCells D 8 [.int .i64 m]) := Below.setCells hBn1 Dw _ _
  clear D0 Df0 D1 Df1 D2 Df2 D3 Df3 D4 Df4 D5 Df5 D6 Df6 D7 Df7 D8 Df8 D9 Df9 D10 Df10 D11 Df11 Dl k0w k1w k2w HD HR nbD hBn1
  generalize Y1.setCells D 8 [.int .i64 m] = Y2 at *
  have HD := HDn; have HR := HRn; clear HDn HRn
  rw [rounds_succ]
  have oD := HD.out
  have D0 := oD.at 0 _ rfl
  have D1 := oD.at 1 _ rfl
  have D2 := oD.at 2 _ rfl
  have D3 := oD.at 3 _ rfl
  have D4 := oD.at 4 _ rfl
  have D5 := oD.at 5 _ rfl
  have D6 := oD.at 6 _ rfl
  have D7 := oD.at 7 _ rfl
  have D8 := oD.at 8 _ rfl
  have D9 := oD.at 9 _ rfl
  have D10 := oD.at 10 _ rfl
  have D11 := oD.at 11 _ rfl
  have Dl := oD.lt
  clear oD
  have oR := HR.out
  have R0 := oR.at 0 _ rfl
  have Rf0 := oR.ok 0 (by simp)
  have R1 := oR.at 1 _ rfl
  have Rf1 := oR.ok 1 (by simp)
  have R2 := oR.at 2 _ rfl
  have Rf2 := oR.ok 2 (by simp)
  have R3 := oR.at 3 _ rfl
  have Rf3 := oR.ok 3 (by simp)
  have R4 := oR.at 4 _ rfl
  have Rf4 := oR.ok 4 (by simp)
  have R5 := oR.at 5 _ rfl
  have Rf5 := oR.ok 5 (by simp)
  have R6 := oR.at 6 _ rfl
  have Rf6 := oR.ok 6 (by simp)
  have R7 := oR.at 7 _ rfl
  have Rf7 := oR.ok 7 (by simp)
  have R8 := oR.at 8 _ rfl
  have Rf8 := oR.ok 8 (by simp)
  have R9 := oR.at 9 _ rfl
  have Rf9 := oR.ok 9 (by simp)
  have R10 := oR.at 10 _ rfl
  have Rf10 := oR.ok 10 (by simp)
  have R11 := oR.at 11 _ rfl
  have Rf11 := oR.ok 11 (by simp)
  have Rl := oR.lt
  clear oR
  clear HD HR
  go_wp2_with (fail)
  exact bodyPost_ret (v := (.agg #[.int .i64 k, .int .i64 0, .int .i64 0, .int .i64 0, .int .i64 l, .int .i64 0, .int .i64 0, .int .i64 0, .int .i64 m, .int .i64 0, .int .i64 0, .int .i64 0])) (by simp [results, Try.results51, go_sem, R0, R1, R2, R3, R4, R5, R6, R7, R8, R9, R10, R11]) rfl ⟨rfl, by repeat (first | (with_reducible assumption) | (with_reducible refine Below.setCell ?_ (by first | assumption | (simp; omega)) _))⟩
end Go.Proofs.Ytgggngcgcpmkbaa
