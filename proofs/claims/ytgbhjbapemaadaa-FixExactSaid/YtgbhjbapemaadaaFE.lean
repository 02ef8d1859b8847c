/- umbralaw02.FixExact: the walk. -/
import Derived.Test.YtgbhjbapemaadaaFW
namespace Go.Proofs.Ytgbhjbapemaadaa
set_option linter.unusedVariables false
open Go.RowKit
attribute [local go_sem] setCell_twice setCell_pair

set_option maxHeartbeats 2000000 in
theorem Exact_core (a b x y R S p M : Int) (w : World) (a0 : -2147483648 ≤ a) (a1 : a ≤ 2147483647) (b0 : -32768 ≤ b) (b1 : b ≤ 32767)
    (hx : Hid (in64 x)) (hy : Hid (in64 y)) (hab : a * b = p) (p0 : -70368744177664 ≤ p) (p1 : p ≤ 70368744177664) (hS : wrap64 (x + y) = S)
    (cs : -2147483648 ≤ a + b ∧ a + b < 2147483648 ∧ (R != S) = false ∨ ¬ a + b < 2147483648 ∧ (R != S) = true ∨ a + b < 2147483648 ∧ ¬ -2147483648 ≤ a + b ∧ (R != S) = true)
    (cp : -2147483648 ≤ p ∧ p < 2147483648 ∨ ¬ p < 2147483648 ∨ p < 2147483648 ∧ ¬ -2147483648 ≤ p)
    (ofa : Hid (∀ w, Calls Try.prog 10 #[.int .i64 a] w fun e w' => e = .returned (.int .i64 x) ∧ Below w.heap.size w w'))
    (ofb : Hid (∀ w, Calls Try.prog 10 #[.int .i64 b] w fun e w' => e = .returned (.int .i64 y) ∧ Below w.heap.size w w'))
    (fl : Hid (∀ w, Calls Try.prog 12 #[.int .i64 x] w fun e w' => e = .returned (.int .i64 a) ∧ w = w'))
    (ro : Hid (∀ w, Calls Try.prog 14 #[.int .i64 x] w fun e w' => e = .returned (.int .i64 a) ∧ w = w'))
    (hR : Hid (sat (x + y) = R)) (hM : Hid (mulF x y = M))
    (ofp : Hid (-2147483648 ≤ p ∧ p < 2147483648 → ∀ w, Calls Try.prog 10 #[.int .i64 p] w fun e w' => e = .returned (.int .i64 M) ∧ Below w.heap.size w w')) :
    Calls Try.prog 8 #[.int .i32 a, .int .i16 b] w fun e w' => e = .returned (.bool true) ∧ Below w.heap.size w w' := by
  rcases cs with ⟨h1, h2, h3⟩ | ⟨h1, h3⟩ | ⟨h1, h2, h3⟩ <;> rcases cp with ⟨k1, k2⟩ | k1 | ⟨k1, k2⟩
  case inl.inl | inr.inl.inl | inr.inr.inl =>
    have OP := Lib.hid (ofp.out ⟨k1, k2⟩)
    clear ofp
    go_enter Try.func8, Try.ntmps8
    go_wp2_with (fail); go_at_call 10; refine (ofa.out _).mono ?_; rintro e w1 ⟨rfl, hc⟩
    have hB : Below w.heap.size w _ := below_step (by repeat (first | exact Below.refl _ _ | assumption | refine below_drewN ?_ _ | refine Below.drew ?_ | refine Below.alloc ?_ (by first | omega | (simp; done) | (simp; omega)) _ | refine Below.setCell ?_ (by first | (simp; done) | (simp; omega)) _)) hc; have hS := hB.size
    go_wp2_with (fail); go_at_call 10; refine (ofb.out _).mono ?_; rintro e w2 ⟨rfl, hc⟩
    have hB : Below w.heap.size w _ := below_step (by repeat (first | exact Below.refl _ _ | assumption | refine below_drewN ?_ _ | refine Below.drew ?_ | refine Below.alloc ?_ (by first | omega | (simp; done) | (simp; omega)) _ | refine Below.setCell ?_ (by first | (simp; done) | (simp; omega)) _)) hc; have hS := hB.size
    go_wp2_with (fail); go_at_call 12; refine (fl.out _).mono ?_; rintro e w5 ⟨rfl, rfl⟩
    go_wp2_with (fail); go_at_call 14; refine (ro.out _).mono ?_; rintro e w5 ⟨rfl, rfl⟩
    go_wp2_with (fail); go_at_call 18; refine (FAdd_two _ x y R _ hx.out hy.out (by simp [go_sem]) (by simp [go_sem]) hR.out).mono ?_; rintro e w5 ⟨rfl, rfl⟩
    go_wp2_with (fail); go_at_call 23; refine (FMul_two _ x y M _ (by simp) hx.out hy.out (by simp [go_sem]) (by simp [go_sem]) hM.out).mono ?_; rintro e w3 ⟨rfl, hc⟩
    have hB : Below w.heap.size w _ := below_step (by repeat (first | exact Below.refl _ _ | assumption | refine below_drewN ?_ _ | refine Below.drew ?_ | refine Below.alloc ?_ (by first | omega | (simp; done) | (simp; omega)) _ | refine Below.setCell ?_ (by first | (simp; done) | (simp; omega)) _)) hc; have hS := hB.size
    go_wp2_with (fail); go_at_call 10; refine (OP.out _).mono ?_; rintro e w4 ⟨rfl, hc⟩
    have hB : Below w.heap.size w _ := below_step (by repeat (first | exact Below.refl _ _ | assumption | refine below_drewN ?_ _ | refine Below.drew ?_ | refine Below.alloc ?_ (by first | omega | (simp; done) | (simp; omega)) _ | refine Below.setCell ?_ (by first | (simp; done) | (simp; omega)) _)) hc; have hS := hB.size
    go_wp2_with (fail); go_at_call 16; refine (fworks_any _).mono ?_; rintro e w6 ⟨rfl, hc⟩
    have hB : Below w.heap.size w _ := below_step (by repeat (first | exact Below.refl _ _ | assumption | refine below_drewN ?_ _ | refine Below.drew ?_ | refine Below.alloc ?_ (by first | omega | (simp; done) | (simp; omega)) _ | refine Below.setCell ?_ (by first | (simp; done) | (simp; omega)) _)) hc; have hS := hB.size
    go_wp2
    go_ret
    exact ⟨rfl, hB⟩
  all_goals
    clear ofp
    go_enter Try.func8, Try.ntmps8
    go_wp2_with (fail); go_at_call 10; refine (ofa.out _).mono ?_; rintro e w1 ⟨rfl, hc⟩
    have hB : Below w.heap.size w _ := below_step (by repeat (first | exact Below.refl _ _ | assumption | refine below_drewN ?_ _ | refine Below.drew ?_ | refine Below.alloc ?_ (by first | omega | (simp; done) | (simp; omega)) _ | refine Below.setCell ?_ (by first | (simp; done) | (simp; omega)) _)) hc; have hS := hB.size
    go_wp2_with (fail); go_at_call 10; refine (ofb.out _).mono ?_; rintro e w2 ⟨rfl, hc⟩
    have hB : Below w.heap.size w _ := below_step (by repeat (first | exact Below.refl _ _ | assumption | refine below_drewN ?_ _ | refine Below.drew ?_ | refine Below.alloc ?_ (by first | omega | (simp; done) | (simp; omega)) _ | refine Below.setCell ?_ (by first | (simp; done) | (simp; omega)) _)) hc; have hS := hB.size
    go_wp2_with (fail); go_at_call 12; refine (fl.out _).mono ?_; rintro e w5 ⟨rfl, rfl⟩
    go_wp2_with (fail); go_at_call 14; refine (ro.out _).mono ?_; rintro e w5 ⟨rfl, rfl⟩
    go_wp2_with (fail); go_at_call 18; refine (FAdd_two _ x y R _ hx.out hy.out (by simp [go_sem]) (by simp [go_sem]) hR.out).mono ?_; rintro e w5 ⟨rfl, rfl⟩
    go_wp2_with (fail); go_at_call 16; refine (fworks_any _).mono ?_; rintro e w6 ⟨rfl, hc⟩
    have hB : Below w.heap.size w _ := below_step (by repeat (first | exact Below.refl _ _ | assumption | refine below_drewN ?_ _ | refine Below.drew ?_ | refine Below.alloc ?_ (by first | omega | (simp; done) | (simp; omega)) _ | refine Below.setCell ?_ (by first | (simp; done) | (simp; omega)) _)) hc; have hS := hB.size
    go_wp2
    go_ret
    exact ⟨rfl, hB⟩

theorem Exact_walk (a b : Int) (w : World) (a0 : -2147483648 ≤ a) (a1 : a ≤ 2147483647) (b0 : -32768 ≤ b) (b1 : b ≤ 32767) :
    Calls Try.prog 8 #[.int .i32 a, .int .i16 b] w fun e w' => e = .returned (.bool true) ∧ Below w.heap.size w w' := by
  have ofa := fun w => fof a (a * 4294967296) (by omega) (by omega) rfl (by omega) (by omega) w
  have ofb := fun w => fof b (b * 4294967296) (by omega) (by omega) rfl (by omega) (by omega) w
  have fl := fun w => FFloor_any (a * 4294967296) (by omega) (by omega) w
  rw [show a * 4294967296 / 4294967296 = a by omega] at fl
  have ro := fun w => FRound_any (a * 4294967296) (by omega) (by omega) w
  rw [show (a * 4294967296 / 2147483648 + 1) / 2 = a by omega] at ro
  have pb : -70368744177664 ≤ a * b ∧ a * b ≤ 70368744177664 := by
    have h1 : 0 ≤ (2147483648 - a) * (32768 - b) := Int.mul_nonneg (by omega) (by omega)
    have h2 : 0 ≤ (2147483648 + a) * (32768 + b) := Int.mul_nonneg (by omega) (by omega)
    have h3 : 0 ≤ (2147483648 - a) * (32768 + b) := Int.mul_nonneg (by omega) (by omega)
    have h4 : 0 ≤ (2147483648 + a) * (32768 - b) := Int.mul_nonneg (by omega) (by omega)
    constructor <;> grind
  have em : a * 4294967296 * (b * 4294967296) / 4294967296 = a * b * 4294967296 := by
    rw [show a * 4294967296 * (b * 4294967296) = a * b * 4294967296 * 4294967296 by grind]; omega
  have hM : mulF (a * 4294967296) (b * 4294967296) = sat (a * b * 4294967296) := by unfold mulF; rw [em]
  refine Exact_core a b (a * 4294967296) (b * 4294967296) _ _ (a * b) _ w a0 a1 b0 b1 (by show in64 _; unfold in64; omega) (by show in64 _; unfold in64; omega) rfl pb.1 pb.2 rfl ?_ ?_ ofa ofb fl ro rfl hM ?_
  · have nb : ∀ u v : Int, u ≠ v → (u != v) = true := fun u v h => by simpa using h
    by_cases h1 : a + b < 2147483648
    · by_cases h2 : -2147483648 ≤ a + b
      · refine .inl ⟨h2, h1, ?_⟩
        rw [sat_in _ (by omega) (by omega), wrap64_in _ (by omega) (by omega)]; simp
      · refine .inr (.inr ⟨h1, h2, nb _ _ ?_⟩)
        rw [sat_lo _ (by omega)]; unfold wrap64; omega
    · refine .inr (.inl ⟨h1, nb _ _ ?_⟩)
      rw [sat_hi _ (by omega)]; unfold wrap64; omega
  · omega
  · exact fun h w => FOf_any (a * b) (by omega) (by omega) w
end Go.Proofs.Ytgbhjbapemaadaa
