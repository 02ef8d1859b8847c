/- umbralaw01.works: the chapter's example holds. -/
import Derived.Test.YtlfchlholabijaaWI
import Derived.Test.YtlfchlholabijaaWS
namespace Go.Proofs.Ytlfchlholabijaa
set_option linter.unusedVariables false
set_option maxRecDepth 2000
open Go.RowKit
attribute [local go_sem] setCell_twice setCell_pair
attribute [local go_sem ↓] eqW neqW

theorem of_m7 (w : World) : Calls Try.prog 25 #[.int .i64 (-7)] w fun e w' => e = .returned (.agg #[.int .i64 (-1), .int .u64 18446744073709551609]) ∧ Below w.heap.size w w' := by
  have h := Of_any (-7) (by omega) (by omega) w
  rwa [show hi (-7) = -1 by decide, show lo (-7) = 18446744073709551609 by decide] at h
theorem of_m4 (w : World) : Calls Try.prog 25 #[.int .i64 (-4)] w fun e w' => e = .returned (.agg #[.int .i64 (-1), .int .u64 18446744073709551612]) ∧ Below w.heap.size w w' := by
  have h := Of_any (-4) (by omega) (by omega) w
  rwa [show hi (-4) = -1 by decide, show lo (-4) = 18446744073709551612 by decide] at h
theorem of_17 (w : World) : Calls Try.prog 25 #[.int .i64 17] w fun e w' => e = .returned (.agg #[.int .i64 0, .int .u64 17]) ∧ Below w.heap.size w w' := by
  have h := Of_any 17 (by omega) (by omega) w
  rwa [show hi 17 = 0 by decide, show lo 17 = 17 by decide] at h
theorem div_72 (w : World) : Calls Try.prog 22 #[.agg #[.int .i64 (-1), .int .u64 18446744073709551609], .int .i64 2] w fun e w' => e = .returned (.tuple #[.agg #[.int .i64 (-1), .int .u64 18446744073709551612], .int .i64 1, .bool true]) ∧ Below w.heap.size w w' := by
  have h := Div_yes (-7) 2 (-4) 1 (by omega) (by omega) (by omega) (by omega) (by omega) (by omega) (by omega) (by omega) (by omega) (by omega) w
  rwa [show hi (-4) = -1 by decide, show lo (-4) = 18446744073709551612 by decide, show hi (-7) = -1 by decide, show lo (-7) = 18446744073709551609 by decide] at h
theorem mul_40 (w : World) : Calls Try.prog 8 #[.int .i64 1099511627776, .int .i64 1099511627776] w fun e w' => e = .returned (.agg #[.int .i64 65536, .int .u64 0]) ∧ Below w.heap.size w w' := by
  have h := Mul_any 1099511627776 1099511627776 (by omega) (by omega) (by omega) (by omega) w
  rwa [show hi (1099511627776 * 1099511627776) = 65536 by decide, show lo (1099511627776 * 1099511627776) = 0 by decide] at h
theorem sqrt_17 (w : World) : Calls Try.prog 14 #[.agg #[.int .i64 0, .int .u64 17]] w fun e w' => e = .returned (.int .u64 4) ∧ Below w.heap.size w w' := by
  have h := Sqrt_any 17 4 (by omega) (by omega) (by omega) (by omega) w
  rwa [show hi 17 = 0 by decide, show lo 17 = 17 by decide] at h

set_option maxHeartbeats 1000000 in
theorem works_any (w : World) :
    Calls Try.prog 11 #[] w fun e w' => e = .returned (.bool true) ∧ Below w.heap.size w w' := by
  have e1 : eqB 65536 0 65536 0 = true := by decide
  have e2 : eqB (-1) 18446744073709551612 (-1) 18446744073709551612 = true := by decide
  go_enter Try.func11, Try.ntmps11
  go_wp2_with (first | (go_at_call 25; refine (of_m7 _).mono ?_; rintro e w1 ⟨rfl, hb⟩) | (go_at_call 22; refine (div_72 _).mono ?_; rintro e w2 ⟨rfl, hc⟩))
  have hB : Below w.heap.size w w2 := (hb.trans (hc.mono hb.size))
  have hBs := hB.size
  clear hb hc
  go_region_with (first | (go_at_call 8; refine (mul_40 _).mono ?_; rintro e w3 ⟨rfl, hd⟩; have hz : w2.heap.size < w3.heap.size := (by have := hd.size; (try simp at this); omega); have c00 := hd.cell (p := ⟨w2.heap.size, 0, none⟩) (by first | omega | (simp; done) | (simp; omega)); have c01 := hd.cell (p := ⟨w2.heap.size, 1, none⟩) (by first | omega | (simp; done) | (simp; omega)); simp [go_sem] at c00 c01) | (go_at_call 25; (with_reducible refine (of_m4 _).mono ?_); rintro e w4 ⟨rfl, he⟩; have hzs : w2.heap.size < w4.heap.size := (by have := he.size; (try simp at this); omega); have c00s := he.cell (p := ⟨w2.heap.size, 0, none⟩) (by first | omega | (simp; done) | (simp; omega)); have c01s := he.cell (p := ⟨w2.heap.size, 1, none⟩) (by first | omega | (simp; done) | (simp; omega)); simp [go_sem, c00, c01] at c00s c01s) | (go_at_call 25; (with_reducible refine (of_17 _).mono ?_); rintro e w5 ⟨rfl, hf⟩) | (go_at_call 14; refine (sqrt_17 _).mono ?_; rintro e w6 ⟨rfl, hg⟩))
  all_goals go_wp2
  all_goals
    have h3 : Below w.heap.size w w3 := below_step (by repeat (first | exact Below.refl _ _ | assumption | refine below_drewN ?_ _ | refine Below.drew ?_ | refine Below.alloc ?_ (by first | omega | (simp; done) | (simp; omega)) _ | refine Below.setCell ?_ (by first | (simp; done) | (simp; omega)) _)) hd
    have h6 : Below w.heap.size w w6 := below_step (below_step (below_step h3 he) hf) hg
    exact bodyPost_ret (v := .bool true) (by simp [results, Try.results11, go_sem]) rfl ⟨rfl, (by repeat (first | exact Below.refl _ _ | assumption | refine below_drewN ?_ _ | refine Below.drew ?_ | refine Below.alloc ?_ (by first | omega | (simp; done) | (simp; omega)) _ | refine Below.setCell ?_ (by first | (simp; done) | (simp; omega)) _))⟩
end Go.Proofs.Ytlfchlholabijaa
