/- The document's sums and products of any vectors; of no vectors. -/
import Derived.Test.YtgggngcgcpmkbaaVE
import Derived.LoopTactic
import Derived.Deep.RegionHeld3
namespace Go.Proofs.Ytgggngcgcpmkbaa
set_option linter.unusedVariables false
set_option maxRecDepth 2000
set_option linter.unusedSimpArgs false
open Go.RowKit
attribute [local go_sem] setCell_twice setCell_pair

theorem RVTwo_any (x1 y1 z1 x2 y2 z2 : Int) (hx1 : in64 x1) (hy1 : in64 y1) (hz1 : in64 z1) (hx2 : in64 x2) (hy2 : in64 y2) (hz2 : in64 z2) (w : World) :
    Calls Try.prog 109 #[(.agg #[.int .i64 x1, .int .i64 y1, .int .i64 z1]), (.agg #[.int .i64 x2, .int .i64 y2, .int .i64 z2])] w fun e w' => e = .returned (.agg #[.int .i64 (sat (x1 + x2)), .int .i64 (sat (y1 + y2)), .int .i64 (sat (z1 + z2))]) ∧ Below w.heap.size w w' :=
  RVTwo_core x1 y1 z1 x2 y2 z2 _ _ _ w (fun w => Two_any x1 x2 hx1.1 hx1.2 hx2.1 hx2.2 w) (fun w => Two_any y1 y2 hy1.1 hy1.2 hy2.1 hy2.2 w) (fun w => Two_any z1 z2 hz1.1 hz1.2 hz2.1 hz2.2 w)

theorem VAdd_nil (p : Option Addr) (cap : Nat) (w : World) :
    Calls Try.prog 113 #[.slice p 0 cap] w fun e w' => e = .returned (.agg #[.int .i64 0, .int .i64 0, .int .i64 0]) ∧ Below w.heap.size w w' := by
  go_enter Try.func113, Try.ntmps113
  go_wp2
  go_loopw [8] (fun i wr => i = .int .i64 0 ∧ Below w.heap.size w wr ∧ VecAt w.heap.size 0 0 0 wr ∧ VecAt (w.heap.size + 1) 0 0 0 wr) (fun _ _ => 0)
  case atStart => exact ⟨rfl, (by repeat (first | exact Below.refl _ _ | assumption | refine below_drewN ?_ _ | refine Below.drew ?_ | refine Below.alloc ?_ (by first | omega | (simp; done) | (simp; omega)) _ | refine Below.setCell ?_ (by first | (simp; done) | (simp; omega)) _)), ⟨by simp; omega, by simp [go_sem], by simp [go_sem], by simp [go_sem], by simp [go_sem], by simp [go_sem], by simp [go_sem]⟩, ⟨by simp, by simp [go_sem], by simp [go_sem], by simp [go_sem], by simp [go_sem], by simp [go_sem], by simp [go_sem]⟩⟩
  case round =>
    obtain ⟨rfl, hB, v0, v1⟩ := hrel
    obtain ⟨a0, a1, a2, a3, g0, g1, g2⟩ := v1
    obtain ⟨b0, b1, b2, b3, e0, e1, e2⟩ := v0
    go_wp2
    exact bodyPost_ret (v := (.agg #[.int .i64 0, .int .i64 0, .int .i64 0])) (by simp [results, Try.results113, go_sem, b0, b1, b2, b3]) rfl ⟨rfl, (by repeat (first | exact Below.refl _ _ | assumption | refine below_drewN ?_ _ | refine Below.drew ?_ | refine Below.alloc ?_ (by first | omega | (simp; done) | (simp; omega)) _ | refine Below.setCell ?_ (by first | (simp; done) | (simp; omega)) _))⟩

theorem VTimes_nil (p : Option Addr) (cap : Nat) (w : World) :
    Calls Try.prog 126 #[.slice p 0 cap] w fun e w' => e = .returned (.agg #[.int .i64 4294967296, .int .i64 4294967296, .int .i64 4294967296]) ∧ Below w.heap.size w w' := by
  go_enter Try.func126, Try.ntmps126
  go_wp2
  go_loopw [9] (fun i wr => i = .int .i64 0 ∧ Below w.heap.size w wr ∧ VecAt w.heap.size 0 0 0 wr ∧ VecAt (w.heap.size + 1) 4294967296 4294967296 4294967296 wr) (fun _ _ => 0)
  case atStart => exact ⟨rfl, (by repeat (first | exact Below.refl _ _ | assumption | refine below_drewN ?_ _ | refine Below.drew ?_ | refine Below.alloc ?_ (by first | omega | (simp; done) | (simp; omega)) _ | refine Below.setCell ?_ (by first | (simp; done) | (simp; omega)) _)), ⟨by simp; omega, by simp [go_sem], by simp [go_sem], by simp [go_sem], by simp [go_sem], by simp [go_sem], by simp [go_sem]⟩, ⟨by simp, by simp [go_sem], by simp [go_sem], by simp [go_sem], by simp [go_sem], by simp [go_sem], by simp [go_sem]⟩⟩
  case round =>
    obtain ⟨rfl, hB, v0, v1⟩ := hrel
    obtain ⟨a0, a1, a2, a3, g0, g1, g2⟩ := v1
    obtain ⟨b0, b1, b2, b3, e0, e1, e2⟩ := v0
    go_wp2
    exact bodyPost_ret (v := (.agg #[.int .i64 4294967296, .int .i64 4294967296, .int .i64 4294967296])) (by simp [results, Try.results126, go_sem, b0, b1, b2, b3]) rfl ⟨rfl, (by repeat (first | exact Below.refl _ _ | assumption | refine below_drewN ?_ _ | refine Below.drew ?_ | refine Below.alloc ?_ (by first | omega | (simp; done) | (simp; omega)) _ | refine Below.setCell ?_ (by first | (simp; done) | (simp; omega)) _))⟩

end Go.Proofs.Ytgggngcgcpmkbaa
