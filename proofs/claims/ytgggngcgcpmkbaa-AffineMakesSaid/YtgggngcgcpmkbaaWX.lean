/- wide.Cmp, Sign: the walks. -/
import Derived.Test.YtgggngcgcpmkbaaWJ
import Derived.LoopTactic
import Derived.StillTailTactics
namespace Go.Proofs.Ytgggngcgcpmkbaa
set_option linter.unusedVariables false
set_option maxRecDepth 2000
open Go.RowKit
attribute [local go_sem] setCell_twice setCell_pair

def cmpI (a b : Int) : Int := if a < b then -1 else if b < a then 1 else 0
theorem cmpI_bd (a b : Int) : -1 ≤ cmpI a b ∧ cmpI a b ≤ 1 := by unfold cmpI; split <;> (try split) <;> omega

theorem cmp_i64 (a b : Int) (w : World) : Calls Try.prog 128 #[.int .i64 a, .int .i64 b] w fun e w' => e = .returned (.int .i64 (cmpI a b)) ∧ w = w' := by
  unfold cmpI
  go_enter Try.func128, Try.ntmps128
  go_wp2
  all_goals go_ret
  all_goals exact ⟨rfl, rfl⟩
theorem cmp_u64 (a b : Int) (w : World) : Calls Try.prog 129 #[.int .u64 a, .int .u64 b] w fun e w' => e = .returned (.int .i64 (cmpI a b)) ∧ w = w' := by
  unfold cmpI
  go_enter Try.func129, Try.ntmps129
  go_wp2
  all_goals go_ret
  all_goals exact ⟨rfl, rfl⟩

theorem or_two (blk : Nat) (a b r : Int) (w : World) (hr : Hid ((if a = 0 then b else a) = r)) (c0 : w.cell? ⟨blk, 0, none⟩ = some (.int .i64 a)) (c1 : w.cell? ⟨blk, 1, none⟩ = some (.int .i64 b)) :
    Calls Try.prog 127 #[.slice (some ⟨blk, 0, none⟩) 2 2] w fun e w' => e = .returned (.int .i64 r) ∧ w = w' := by
  go_enter Try.func127, Try.ntmps127
  go_wp2
  go_loop [8] (fun i => ∃ k : Nat, k ≤ 2 ∧ i = .int .i64 k ∧ (1 ≤ k → a = 0) ∧ (2 ≤ k → b = 0)) (fun i => (2 - (intOf i).toNat))
  case atStart => exact ⟨0, by omega, rfl, by omega, by omega⟩
  case round =>
    obtain ⟨k, hk, rfl, h1, h2⟩ := hrel
    obtain rfl | rfl | rfl : k = 0 ∨ k = 1 ∨ k = 2 := by omega
    · clear h1 h2 hk c1
      by_cases ha : a = 0
      · have hb : (a != 0) = false := by simpa using ha
        have HA := Lib.hid ha
        clear ha
        go_wp2
        go_round
        case rel => exact ⟨1, by omega, rfl, fun _ => HA.out, by omega⟩
        case measure => simp [intOf]
      · have hb : (a != 0) = true := by simpa using ha
        have HA := Lib.hid ha
        clear ha
        go_wp2
        go_ret
        exact ⟨ret_int (by rw [← hr.out, if_neg HA.out]), rfl⟩
    · have HA := Lib.hid (h1 (by omega))
      clear h1 h2 hk c0
      by_cases hb : b = 0
      · have hb' : (b != 0) = false := by simpa using hb
        have HB := Lib.hid hb
        clear hb
        go_wp2
        go_round
        case rel => exact ⟨2, by omega, rfl, fun _ => HA.out, fun _ => HB.out⟩
        case measure => simp [intOf]
      · have hb' : (b != 0) = true := by simpa using hb
        clear hb
        go_wp2
        go_ret
        exact ⟨ret_int (by rw [← hr.out, if_pos HA.out]), rfl⟩
    · have HA := Lib.hid (h1 (by omega))
      have HB := Lib.hid (h2 (by omega))
      clear h1 h2 hk c0 c1
      go_wp2
      go_ret
      exact ⟨ret_int (by rw [← hr.out, if_pos HA.out, HB.out]), rfl⟩

theorem Cmp_core (h l h' l' a b r : Int) (w : World) (hr : Hid ((if a = 0 then b else a) = r))
    (c1 : Hid (∀ w, Calls Try.prog 128 #[.int .i64 h, .int .i64 h'] w fun e w' => e = .returned (.int .i64 a) ∧ w = w'))
    (c2 : Hid (∀ w, Calls Try.prog 129 #[.int .u64 l, .int .u64 l'] w fun e w' => e = .returned (.int .i64 b) ∧ w = w')) :
    Calls Try.prog 120 #[.agg #[.int .i64 h, .int .u64 l], .agg #[.int .i64 h', .int .u64 l']] w fun e w' => e = .returned (.int .i64 r) ∧ Below w.heap.size w w' := by
  go_enter Try.func120, Try.ntmps120
  go_wp2
  refine wp_region_still_tail 10 (by kernel_rfl) (by kernel_rfl) ?_; simp only [List.take_succ_cons, List.take_zero, List.drop_succ_cons, List.drop_zero]; change wpStill _ _ (World.drew _) (fun a1 => wpList _ _ _ _ a1 (World.drew _)) _ _; repeat still_step
  refine wpStill_step (fun K hK => ?_); go_simp; refine ⟨_, (c1.out _).mono (fun _ _ h => ⟨h.1, h.2.symm⟩), hK _ ?_⟩; clear hK K; repeat still_step
  refine wpStill_step (fun K hK => ?_); go_simp; refine ⟨_, (c2.out _).mono (fun _ _ h => ⟨h.1, h.2.symm⟩), hK _ ?_⟩; clear hK K; repeat still_step
  refine wpStill_nil ?_
  go_wp2_with (go_at_call 127; refine (or_two _ a b r _ hr (by simp [go_sem]) (by simp [go_sem])).mono ?_; rintro e w1 ⟨rfl, rfl⟩)
  exact bodyPost_ret (v := .int .i64 r) (by simp [results, Try.results120, go_sem]) rfl ⟨rfl, (by repeat (first | exact Below.refl _ _ | assumption | refine below_drewN ?_ _ | refine Below.drew ?_ | refine Below.alloc ?_ (by first | omega | (simp; done) | (simp; omega)) _ | refine Below.setCell ?_ (by first | (simp; done) | (simp; omega)) _))⟩

theorem cmpI_wide (x y : Int) : (if cmpI (hi x) (hi y) = 0 then cmpI (lo x) (lo y) else cmpI (hi x) (hi y)) = cmpI x y := by
  have hx := hl x; have hy := hl y
  have lx := lo_bd x; have ly := lo_bd y
  generalize hi x = a at *; generalize hi y = b at *; generalize lo x = c at *; generalize lo y = d at *
  have e : ∀ u v : Int, (u < v ∧ cmpI u v = -1) ∨ (u = v ∧ cmpI u v = 0) ∨ (v < u ∧ cmpI u v = 1) := by
    intro u v; unfold cmpI; split <;> (try split) <;> omega
  have e1 := e a b; have e2 := e c d; have e3 := e x y
  split <;> omega

theorem Cmp_any (x y : Int) (w : World) : Calls Try.prog 120 #[(.agg #[.int .i64 (hi (x)), .int .u64 (lo (x))]), (.agg #[.int .i64 (hi (y)), .int .u64 (lo (y))])] w fun e w' => e = .returned (.int .i64 (cmpI x y)) ∧ Below w.heap.size w w' :=
  Cmp_core _ _ _ _ _ _ _ w (cmpI_wide x y) (fun w => cmp_i64 _ _ w) (fun w => cmp_u64 _ _ w)

theorem Sign_any (x : Int) (w : World) : Calls Try.prog 111 #[(.agg #[.int .i64 (hi (x)), .int .u64 (lo (x))])] w fun e w' => e = .returned (.int .i64 (cmpI x 0)) ∧ Below w.heap.size w w' := by
  have c := fun w => Cmp_any x 0 w
  rw [show hi 0 = 0 by decide, show lo 0 = 0 by decide] at c
  have C := Lib.hid c
  clear c
  go_enter Try.func111, Try.ntmps111
  go_wp2_with (go_at_call 120; refine (C.out _).mono ?_; rintro e w1 ⟨rfl, hb⟩)
  go_ret
  exact ⟨rfl, below_step (by repeat (first | exact Below.refl _ _ | assumption | refine below_drewN ?_ _ | refine Below.drew ?_ | refine Below.alloc ?_ (by first | omega | (simp; done) | (simp; omega)) _ | refine Below.setCell ?_ (by first | (simp; done) | (simp; omega)) _)) hb⟩
end Go.Proofs.Ytgggngcgcpmkbaa
