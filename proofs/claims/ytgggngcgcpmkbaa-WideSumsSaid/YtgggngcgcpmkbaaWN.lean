/- wide.Neg. -/
import Derived.Test.YtgggngcgcpmkbaaWJ
namespace Go.Proofs.Ytgggngcgcpmkbaa
set_option linter.unusedVariables false
set_option maxRecDepth 2000
open Go.RowKit
attribute [local go_sem] setCell_twice setCell_pair
attribute [local go_sem ↓] eqW neqW

theorem Neg_core (h l fh fl : Int) (w : World) (hn : h ≠ -9223372036854775808 ∨ l ≠ 0)
    (fp : Hid (∀ w, Calls Try.prog 83 #[.agg #[.int .i64 h, .int .u64 l]] w fun e w' => e = .returned (.agg #[.int .i64 fh, .int .u64 fl]) ∧ Below w.heap.size w w')) :
    Calls Try.prog 40 #[.agg #[.int .i64 h, .int .u64 l]] w fun e w' => e = .returned (.tuple #[.agg #[.int .i64 fh, .int .u64 fl], .bool true]) ∧ Below w.heap.size w w' := by
  by_cases hh : h = -9223372036854775808
  · have hb : (h == -9223372036854775808) = true := by simpa using hh
    have lb : (l == 0) = false := by simp; omega
    clear hn hh
    go_enter Try.func40, Try.ntmps40
    go_wp2_with (go_at_call 83; refine (fp.out _).mono ?_; rintro e w1 ⟨rfl, hc⟩; have hz : w.heap.size + 1 < w1.heap.size := (by have := hc.size; (try simp at this); omega); have c00 := hc.cell (p := ⟨w.heap.size, 0, none⟩) (by first | omega | (simp; done) | (simp; omega)); have f00 := hc.frozen (p := ⟨w.heap.size, 0, none⟩) (by first | omega | (simp; done) | (simp; omega)); have c01 := hc.cell (p := ⟨w.heap.size, 1, none⟩) (by first | omega | (simp; done) | (simp; omega)); have f01 := hc.frozen (p := ⟨w.heap.size, 1, none⟩) (by first | omega | (simp; done) | (simp; omega)); have c10 := hc.cell (p := ⟨w.heap.size + 1, 0, none⟩) (by first | omega | (simp; done) | (simp; omega)); have f10 := hc.frozen (p := ⟨w.heap.size + 1, 0, none⟩) (by first | omega | (simp; done) | (simp; omega)); have c11 := hc.cell (p := ⟨w.heap.size + 1, 1, none⟩) (by first | omega | (simp; done) | (simp; omega)); have f11 := hc.frozen (p := ⟨w.heap.size + 1, 1, none⟩) (by first | omega | (simp; done) | (simp; omega)); simp [go_sem] at c00 f00 c01 f01 c10 f10 c11 f11; have hb' : Below w.heap.size w w1 := below_step (by repeat (first | exact Below.refl _ _ | assumption | refine below_drewN ?_ _ | refine Below.drew ?_ | refine Below.alloc ?_ (by first | omega | (simp; done) | (simp; omega)) _ | refine Below.setCell ?_ (by first | (simp; done) | (simp; omega)) _)) hc)
    exact bodyPost_ret (v := .tuple #[.agg #[.int .i64 fh, .int .u64 fl], .bool true]) (by simp [results, Try.results40, go_sem, c10, c11]) rfl ⟨rfl, (by repeat (first | exact Below.refl _ _ | assumption | refine below_drewN ?_ _ | refine Below.drew ?_ | refine Below.alloc ?_ (by first | omega | (simp; done) | (simp; omega)) _ | refine Below.setCell ?_ (by first | (simp; done) | (simp; omega)) _))⟩
  · have hb : (h == -9223372036854775808) = false := by simpa using hh
    clear hn hh
    go_enter Try.func40, Try.ntmps40
    go_wp2_with (go_at_call 83; refine (fp.out _).mono ?_; rintro e w1 ⟨rfl, hc⟩; have hz : w.heap.size + 1 < w1.heap.size := (by have := hc.size; (try simp at this); omega); have c00 := hc.cell (p := ⟨w.heap.size, 0, none⟩) (by first | omega | (simp; done) | (simp; omega)); have f00 := hc.frozen (p := ⟨w.heap.size, 0, none⟩) (by first | omega | (simp; done) | (simp; omega)); have c01 := hc.cell (p := ⟨w.heap.size, 1, none⟩) (by first | omega | (simp; done) | (simp; omega)); have f01 := hc.frozen (p := ⟨w.heap.size, 1, none⟩) (by first | omega | (simp; done) | (simp; omega)); have c10 := hc.cell (p := ⟨w.heap.size + 1, 0, none⟩) (by first | omega | (simp; done) | (simp; omega)); have f10 := hc.frozen (p := ⟨w.heap.size + 1, 0, none⟩) (by first | omega | (simp; done) | (simp; omega)); have c11 := hc.cell (p := ⟨w.heap.size + 1, 1, none⟩) (by first | omega | (simp; done) | (simp; omega)); have f11 := hc.frozen (p := ⟨w.heap.size + 1, 1, none⟩) (by first | omega | (simp; done) | (simp; omega)); simp [go_sem] at c00 f00 c01 f01 c10 f10 c11 f11; have hb' : Below w.heap.size w w1 := below_step (by repeat (first | exact Below.refl _ _ | assumption | refine below_drewN ?_ _ | refine Below.drew ?_ | refine Below.alloc ?_ (by first | omega | (simp; done) | (simp; omega)) _ | refine Below.setCell ?_ (by first | (simp; done) | (simp; omega)) _)) hc)
    exact bodyPost_ret (v := .tuple #[.agg #[.int .i64 fh, .int .u64 fl], .bool true]) (by simp [results, Try.results40, go_sem, c10, c11]) rfl ⟨rfl, (by repeat (first | exact Below.refl _ _ | assumption | refine below_drewN ?_ _ | refine Below.drew ?_ | refine Below.alloc ?_ (by first | omega | (simp; done) | (simp; omega)) _ | refine Below.setCell ?_ (by first | (simp; done) | (simp; omega)) _))⟩

theorem Neg_yes (z : Int) (z0 : -170141183460469231731687303715884105728 < z) (z1 : z < 170141183460469231731687303715884105728) (w : World) :
    Calls Try.prog 40 #[(.agg #[.int .i64 (hi (z)), .int .u64 (lo (z))])] w fun e w' => e = .returned (.tuple #[(.agg #[.int .i64 (hi (-z)), .int .u64 (lo (-z))]), .bool true]) ∧ Below w.heap.size w w' := by
  have fp := fun w => flip_any z w
  rw [wrap_hi (-z) (by omega) (by omega)] at fp
  exact Neg_core (hi z) (lo z) _ _ w (by unfold hi lo; omega) fp

theorem Neg_no (w : World) :
    Calls Try.prog 40 #[.agg #[.int .i64 (-9223372036854775808), .int .u64 0]] w fun e w' => e = .returned (.tuple #[.agg #[.int .i64 0, .int .u64 0], .bool false]) ∧ Below w.heap.size w w' := by
  go_enter Try.func40, Try.ntmps40
  go_wp2
  exact bodyPost_ret (v := .tuple #[.agg #[.int .i64 0, .int .u64 0], .bool false]) (by simp [results, Try.results40, go_sem]) rfl ⟨rfl, (by repeat (first | exact Below.refl _ _ | assumption | refine below_drewN ?_ _ | refine Below.drew ?_ | refine Below.alloc ?_ (by first | omega | (simp; done) | (simp; omega)) _ | refine Below.setCell ?_ (by first | (simp; done) | (simp; omega)) _))⟩
end Go.Proofs.Ytgggngcgcpmkbaa
