/- Package vec: what its function values give; the document's answers (umbraref03), part by part. -/
import Derived.Test.YtgggngcgcpmkbaaVB
import Derived.Test.YtgggngcgcpmkbaaFX
import Derived.StillTailTactics
namespace Go.Proofs.Ytgggngcgcpmkbaa
set_option linter.unusedVariables false
set_option maxRecDepth 2000
open Go.RowKit
attribute [local go_sem] setCell_twice setCell_pair

theorem cAdd_any (x y : Int) (hx : in64 x) (hy : in64 y) (w : World) :
    Calls Try.prog 122 #[.int .i64 x, .int .i64 y] w fun e w' => e = .returned (.int .i64 (sat (x + y))) ∧ Below w.heap.size w w' := by
  generalize hr : sat (x + y) = r
  have er := Lib.hid hr
  clear hr
  have HX := Lib.hid hx; have HY := Lib.hid hy
  clear hx hy
  go_enter Try.func122, Try.ntmps122
  go_wp2_with (fail); go_at_call 123; refine (FAdd_two _ x y r _ HX.out HY.out (by simp [go_sem]) (by simp [go_sem]) er.out).mono ?_; rintro e w1 ⟨rfl, rfl⟩
  go_wp2
  go_ret
  exact ⟨rfl, (by repeat (first | exact Below.refl _ _ | assumption | refine below_drewN ?_ _ | refine Below.drew ?_ | refine Below.alloc ?_ (by first | omega | (simp; done) | (simp; omega)) _ | refine Below.setCell ?_ (by first | (simp; done) | (simp; omega)) _))⟩

theorem cTimes_any (x y : Int) (hx : in64 x) (hy : in64 y) (w : World) :
    Calls Try.prog 131 #[.int .i64 x, .int .i64 y] w fun e w' => e = .returned (.int .i64 (mulF x y)) ∧ Below w.heap.size w w' := by
  generalize hr : mulF x y = r
  have er := Lib.hid hr
  clear hr
  have HX := Lib.hid hx; have HY := Lib.hid hy
  clear hx hy
  go_enter Try.func131, Try.ntmps131
  go_wp2_with (fail); go_at_call 132; refine (FMul_two _ x y r _ (by simp) HX.out HY.out (by simp [go_sem]) (by simp [go_sem]) er.out).mono ?_; rintro e w1 ⟨rfl, hb⟩
  have hB : Below w.heap.size w w1 := below_step (by repeat (first | exact Below.refl _ _ | assumption | refine below_drewN ?_ _ | refine Below.drew ?_ | refine Below.alloc ?_ (by first | omega | (simp; done) | (simp; omega)) _ | refine Below.setCell ?_ (by first | (simp; done) | (simp; omega)) _)) hb
  go_wp2
  go_ret
  exact ⟨rfl, hB⟩

theorem RVTwo_core (x1 y1 z1 x2 y2 z2 X Y Z : Int) (w : World)
    (fx : Hid (∀ w, Calls Try.prog 118 #[.int .i64 x1, .int .i64 x2] w fun e w' => e = .returned (.int .i64 X) ∧ w = w'))
    (fy : Hid (∀ w, Calls Try.prog 118 #[.int .i64 y1, .int .i64 y2] w fun e w' => e = .returned (.int .i64 Y) ∧ w = w'))
    (fz : Hid (∀ w, Calls Try.prog 118 #[.int .i64 z1, .int .i64 z2] w fun e w' => e = .returned (.int .i64 Z) ∧ w = w')) :
    Calls Try.prog 109 #[(.agg #[.int .i64 x1, .int .i64 y1, .int .i64 z1]), (.agg #[.int .i64 x2, .int .i64 y2, .int .i64 z2])] w fun e w' => e = .returned (.agg #[.int .i64 X, .int .i64 Y, .int .i64 Z]) ∧ Below w.heap.size w w' := by
  go_enter Try.func109, Try.ntmps109
  go_wp2_with (fail)
  refine wp_region_still_tail 16 (by kernel_rfl) (by kernel_rfl) ?_; simp only [List.take_succ_cons, List.take_zero, List.drop_succ_cons, List.drop_zero]; change wpStill _ _ (World.drew _) (fun a1 => wpList _ _ _ _ a1 (World.drew _)) _ _; repeat still_step
  refine wpStill_step (fun K hK => ?_); go_simp; refine ⟨_, (fx.out _).mono (fun _ _ h => ⟨h.1, h.2.symm⟩), hK _ ?_⟩; clear hK K; repeat still_step
  refine wpStill_step (fun K hK => ?_); go_simp; refine ⟨_, (fy.out _).mono (fun _ _ h => ⟨h.1, h.2.symm⟩), hK _ ?_⟩; clear hK K; repeat still_step
  refine wpStill_step (fun K hK => ?_); go_simp; refine ⟨_, (fz.out _).mono (fun _ _ h => ⟨h.1, h.2.symm⟩), hK _ ?_⟩; clear hK K; repeat still_step
  refine wpStill_nil ?_
  go_wp2
  exact bodyPost_ret (v := (.agg #[.int .i64 X, .int .i64 Y, .int .i64 Z])) (by simp [results, Try.results109, go_sem]) rfl ⟨rfl, (by repeat (first | exact Below.refl _ _ | assumption | refine below_drewN ?_ _ | refine Below.drew ?_ | refine Below.alloc ?_ (by first | omega | (simp; done) | (simp; omega)) _ | refine Below.setCell ?_ (by first | (simp; done) | (simp; omega)) _))⟩

end Go.Proofs.Ytgggngcgcpmkbaa
