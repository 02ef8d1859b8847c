/- umbralaw02.FixTurns, FixSquare: the walks. -/
import Derived.Test.YtgbhjbapemaadaaFW
import Derived.Deep.RegionHeld3
import Derived.BigGuardPart
namespace Go.Proofs.Ytgbhjbapemaadaa
set_option linter.unusedVariables false
open Go.RowKit
attribute [local go_sem] setCell_twice setCell_pair

theorem Turns_core (a b R M : Int) (w : World) (ha : Hid (in64 a)) (hb : Hid (in64 b)) (hz : Hid (in64 0)) (ho : Hid (in64 4294967296))
    (ab : Hid (sat (a + b) = R)) (ba : Hid (sat (b + a) = R)) (mab : Hid (mulF a b = M)) (mba : Hid (mulF b a = M)) (a0 : Hid (sat (a + 0) = a)) (m1 : Hid (mulF a 4294967296 = a)) :
    Calls Try.prog 7 #[.int .i64 a, .int .i64 b] w fun e w' => e = .returned (.bool true) ∧ Below w.heap.size w w' := by
  go_enter Try.func7, Try.ntmps7
  go_wp2_with (fail); go_at_call 18; refine (FAdd_two _ a b R _ ha.out hb.out (by simp [go_sem]) (by simp [go_sem]) ab.out).mono ?_; rintro e w1 ⟨rfl, rfl⟩
  go_wp2_with (fail); go_at_call 18; refine (FAdd_two _ b a R _ hb.out ha.out (by simp [go_sem]) (by simp [go_sem]) ba.out).mono ?_; rintro e w1 ⟨rfl, rfl⟩
  go_wp2_with (fail); go_at_call 23; refine (FMul_two _ a b M _ (by simp) ha.out hb.out (by simp [go_sem]) (by simp [go_sem]) mab.out).mono ?_; rintro e w1 ⟨rfl, hc⟩
  have hB : Below w.heap.size w _ := below_step (by repeat (first | exact Below.refl _ _ | assumption | refine below_drewN ?_ _ | refine Below.drew ?_ | refine Below.alloc ?_ (by first | omega | (simp; done) | (simp; omega)) _ | refine Below.setCell ?_ (by first | (simp; done) | (simp; omega)) _)) hc; have hS := hB.size
  go_wp2_with (fail); go_at_call 23; refine (FMul_two _ b a M _ (by simp) hb.out ha.out (by simp [go_sem]) (by simp [go_sem]) mba.out).mono ?_; rintro e w2 ⟨rfl, hc⟩
  have hB : Below w.heap.size w _ := below_step (by repeat (first | exact Below.refl _ _ | assumption | refine below_drewN ?_ _ | refine Below.drew ?_ | refine Below.alloc ?_ (by first | omega | (simp; done) | (simp; omega)) _ | refine Below.setCell ?_ (by first | (simp; done) | (simp; omega)) _)) hc; have hS := hB.size
  go_wp2_with (fail); go_at_call 18; refine (FAdd_two _ a 0 a _ ha.out hz.out (by simp [go_sem]) (by simp [go_sem]) a0.out).mono ?_; rintro e w1 ⟨rfl, rfl⟩
  go_wp2_with (fail); go_at_call 23; refine (FMul_two _ a 4294967296 a _ (by simp) ha.out ho.out (by simp [go_sem]) (by simp [go_sem]) m1.out).mono ?_; rintro e w3 ⟨rfl, hc⟩
  have hB : Below w.heap.size w _ := below_step (by repeat (first | exact Below.refl _ _ | assumption | refine below_drewN ?_ _ | refine Below.drew ?_ | refine Below.alloc ?_ (by first | omega | (simp; done) | (simp; omega)) _ | refine Below.setCell ?_ (by first | (simp; done) | (simp; omega)) _)) hc; have hS := hB.size
  go_wp2_with (fail); go_at_call 18; refine (FAdd_nil none 0 _).mono ?_; rintro e w1 ⟨rfl, rfl⟩
  go_wp2_with (fail); go_at_call 23; refine (FMul_nil none 0 _).mono ?_; rintro e w1 ⟨rfl, rfl⟩
  go_wp2_with (fail); go_at_call 16; refine (fworks_any _).mono ?_; rintro e w4 ⟨rfl, hc⟩
  have hB : Below w.heap.size w _ := below_step (by repeat (first | exact Below.refl _ _ | assumption | refine below_drewN ?_ _ | refine Below.drew ?_ | refine Below.alloc ?_ (by first | omega | (simp; done) | (simp; omega)) _ | refine Below.setCell ?_ (by first | (simp; done) | (simp; omega)) _)) hc; have hS := hB.size
  go_wp2
  go_ret
  exact ⟨rfl, hB⟩

theorem Turns_walk (a b : Int) (w : World) (ha : in64 a) (hb : in64 b) :
    Calls Try.prog 7 #[.int .i64 a, .int .i64 b] w fun e w' => e = .returned (.bool true) ∧ Below w.heap.size w w' := by
  refine Turns_core a b _ _ w ha hb (by show in64 0; unfold in64; omega) (by show in64 4294967296; unfold in64; omega) rfl (by show sat (b + a) = _; rw [Int.add_comm]) rfl (by show mulF b a = _; unfold mulF; rw [Int.mul_comm]) ?_ ?_
  · show sat (a + 0) = a; rw [Int.add_zero, sat_in a ha.1 ha.2]
  · show mulF a 4294967296 = a; unfold mulF; rw [show a * 4294967296 / 4294967296 = a by omega, sat_in a ha.1 ha.2]

theorem Square_zero (a : Int) (w : World) (h0 : a ≤ 0)
    (sq : Hid (∀ w, Calls Try.prog 27 #[.int .i64 a] w fun e w' => e = .returned (.int .i64 0) ∧ Below w.heap.size w w')) :
    Calls Try.prog 9 #[.int .i64 a] w fun e w' => e = .returned (.bool true) ∧ Below w.heap.size w w' := by
  go_enter Try.func9, Try.ntmps9
  go_wp2_with (fail); go_at_call 27; refine (sq.out _).mono ?_; rintro e w1 ⟨rfl, hc⟩
  have hB : Below w.heap.size w _ := below_step (by repeat (first | exact Below.refl _ _ | assumption | refine below_drewN ?_ _ | refine Below.drew ?_ | refine Below.alloc ?_ (by first | omega | (simp; done) | (simp; omega)) _ | refine Below.setCell ?_ (by first | (simp; done) | (simp; omega)) _)) hc; have hS := hB.size
  go_wp2_with (fail); go_at_call 16; refine (fworks_any _).mono ?_; rintro e w4 ⟨rfl, hc⟩
  have hB : Below w.heap.size w _ := below_step (by repeat (first | exact Below.refl _ _ | assumption | refine below_drewN ?_ _ | refine Below.drew ?_ | refine Below.alloc ?_ (by first | omega | (simp; done) | (simp; omega)) _ | refine Below.setCell ?_ (by first | (simp; done) | (simp; omega)) _)) hc; have hS := hB.size
  go_wp2
  go_ret
  exact ⟨rfl, hB⟩

set_option maxHeartbeats 1000000 in
theorem Square_pos (a s s1 h l h1 l1 h2 l2 : Int) (w : World) (h0 : 0 < a) (p0 : 0 < s) (hs : s ≤ 281474976710656) (e1 : s + 1 = s1)
    (sq : Hid (∀ w, Calls Try.prog 27 #[.int .i64 a] w fun e w' => e = .returned (.int .i64 s) ∧ Below w.heap.size w w'))
    (ma : Hid (∀ w, Calls Try.prog 33 #[.int .i64 a, .int .i64 4294967296] w fun e w' => e = .returned (.agg #[.int .i64 h, .int .u64 l]) ∧ Below w.heap.size w w'))
    (ms : Hid (∀ w, Calls Try.prog 33 #[.int .i64 s, .int .i64 s] w fun e w' => e = .returned (.agg #[.int .i64 h1, .int .u64 l1]) ∧ Below w.heap.size w w'))
    (mt : Hid (∀ w, Calls Try.prog 33 #[.int .i64 s1, .int .i64 s1] w fun e w' => e = .returned (.agg #[.int .i64 h2, .int .u64 l2]) ∧ Below w.heap.size w w'))
    (c1 c2 : Int) (hc1 : c1 ≤ 0) (hc2 : 0 < c2)
    (cs : Hid (∀ w, Calls Try.prog 34 #[.agg #[.int .i64 h1, .int .u64 l1], .agg #[.int .i64 h, .int .u64 l]] w fun e w' => e = .returned (.int .i64 c1) ∧ Below w.heap.size w w'))
    (ct : Hid (∀ w, Calls Try.prog 34 #[.agg #[.int .i64 h2, .int .u64 l2], .agg #[.int .i64 h, .int .u64 l]] w fun e w' => e = .returned (.int .i64 c2) ∧ Below w.heap.size w w')) :
    Calls Try.prog 9 #[.int .i64 a] w fun e w' => e = .returned (.bool true) ∧ Below w.heap.size w w' := by
  have hw : IntKind.i64.wrap s1 = s1 := IntWalk.i64_in _ (by omega)
  go_enter Try.func9, Try.ntmps9
  go_wp2_with (fail); go_at_call 27; refine (sq.out _).mono ?_; rintro e w1 ⟨rfl, hc⟩
  have hB : Below w.heap.size w _ := below_step (by repeat (first | exact Below.refl _ _ | assumption | refine below_drewN ?_ _ | refine Below.drew ?_ | refine Below.alloc ?_ (by first | omega | (simp; done) | (simp; omega)) _ | refine Below.setCell ?_ (by first | (simp; done) | (simp; omega)) _)) hc; have hS := hB.size
  go_wp2_with (fail); go_at_call 33; refine (ma.out _).mono ?_; rintro e w2 ⟨rfl, hc⟩
  have hB : Below w.heap.size w _ := below_step (by repeat (first | exact Below.refl _ _ | assumption | refine below_drewN ?_ _ | refine Below.drew ?_ | refine Below.alloc ?_ (by first | omega | (simp; done) | (simp; omega)) _ | refine Below.setCell ?_ (by first | (simp; done) | (simp; omega)) _)) hc; have hS := hB.size
  go_wp2
  have hz : w2.heap.size < (w2.alloc (.cells #[.int .i64 h, .int .u64 l] 40)).heap.size := by simp
  have k0 : (w2.alloc (.cells #[.int .i64 h, .int .u64 l] 40)).cell? ⟨w2.heap.size, 0, none⟩ = some (.int .i64 h) := by simp [go_sem]
  have k1 : (w2.alloc (.cells #[.int .i64 h, .int .u64 l] 40)).cell? ⟨w2.heap.size, 1, none⟩ = some (.int .u64 l) := by simp [go_sem]
  have hB' : Below w.heap.size w (w2.alloc (.cells #[.int .i64 h, .int .u64 l] 40)) := (by repeat (first | exact Below.refl _ _ | assumption | refine below_drewN ?_ _ | refine Below.drew ?_ | refine Below.alloc ?_ (by first | omega | (simp; done) | (simp; omega)) _ | refine Below.setCell ?_ (by first | (simp; done) | (simp; omega)) _))
  generalize w2.alloc (.cells #[.int .i64 h, .int .u64 l] 40) = v at *
  generalize w2.heap.size = B at *
  clear hS
  have hS := hB'.size
  go_region_held3 (fun w' => w'.cell? ⟨B, 0, none⟩ = some (.int .i64 h) ∧ w'.cell? ⟨B, 1, none⟩ = some (.int .u64 l)) (first | go_keep | (exact And.intro (by assumption) (by assumption))) (first | (go_at_call 33; (with_reducible refine (ms.out _).mono ?_); rintro e w3 ⟨rfl, h3⟩; have za : B < w3.heap.size := (by have := h3.size; (try simp at this); omega); have k0a := h3.cell (p := ⟨B, 0, none⟩) (by first | omega | (simp; done) | (simp; omega)); have k1a := h3.cell (p := ⟨B, 1, none⟩) (by first | omega | (simp; done) | (simp; omega)); simp [go_sem, k0, k1] at k0a k1a; have hB : Below w.heap.size w _ := below_step (by repeat (first | exact Below.refl _ _ | assumption | refine below_drewN ?_ _ | refine Below.drew ?_ | refine Below.alloc ?_ (by first | omega | (simp; done) | (simp; omega)) _ | refine Below.setCell ?_ (by first | (simp; done) | (simp; omega)) _)) h3; have hS := hB.size) | (go_at_call 34; (with_reducible refine (cs.out _).mono ?_); rintro e w4 ⟨rfl, h4⟩; have zb : B < w4.heap.size := (by have := h4.size; (try simp at this); omega); have k0b := h4.cell (p := ⟨B, 0, none⟩) (by first | omega | (simp; done) | (simp; omega)); have k1b := h4.cell (p := ⟨B, 1, none⟩) (by first | omega | (simp; done) | (simp; omega)); simp [go_sem, k0a, k1a] at k0b k1b; have hB : Below w.heap.size w _ := below_step (by repeat (first | exact Below.refl _ _ | assumption | refine below_drewN ?_ _ | refine Below.drew ?_ | refine Below.alloc ?_ (by first | omega | (simp; done) | (simp; omega)) _ | refine Below.setCell ?_ (by first | (simp; done) | (simp; omega)) _)) h4; have hS := hB.size) | (go_at_call 33; (with_reducible refine (mt.out _).mono ?_); rintro e w5 ⟨rfl, h5⟩; have zc : B < w5.heap.size := (by have := h5.size; (try simp at this); omega); have k0c := h5.cell (p := ⟨B, 0, none⟩) (by first | omega | (simp; done) | (simp; omega)); have k1c := h5.cell (p := ⟨B, 1, none⟩) (by first | omega | (simp; done) | (simp; omega)); simp [go_sem, k0b, k1b] at k0c k1c; have hB : Below w.heap.size w _ := below_step (by repeat (first | exact Below.refl _ _ | assumption | refine below_drewN ?_ _ | refine Below.drew ?_ | refine Below.alloc ?_ (by first | omega | (simp; done) | (simp; omega)) _ | refine Below.setCell ?_ (by first | (simp; done) | (simp; omega)) _)) h5; have hS := hB.size) | (go_at_call 34; (with_reducible refine (ct.out _).mono ?_); rintro e w6 ⟨rfl, h6⟩; have zd : B < w6.heap.size := (by have := h6.size; (try simp at this); omega); have k0d := h6.cell (p := ⟨B, 0, none⟩) (by first | omega | (simp; done) | (simp; omega)); have k1d := h6.cell (p := ⟨B, 1, none⟩) (by first | omega | (simp; done) | (simp; omega)); simp [go_sem, k0c, k1c] at k0d k1d; have hB : Below w.heap.size w _ := below_step (by repeat (first | exact Below.refl _ _ | assumption | refine below_drewN ?_ _ | refine Below.drew ?_ | refine Below.alloc ?_ (by first | omega | (simp; done) | (simp; omega)) _ | refine Below.setCell ?_ (by first | (simp; done) | (simp; omega)) _)) h6; have hS := hB.size) | (go_at_call 16; refine (fworks_any _).mono ?_; rintro e w7 ⟨rfl, h7⟩; have ze : B < w7.heap.size := (by have := h7.size; (try simp at this); omega); have k0e := h7.cell (p := ⟨B, 0, none⟩) (by first | omega | (simp; done) | (simp; omega)); have k1e := h7.cell (p := ⟨B, 1, none⟩) (by first | omega | (simp; done) | (simp; omega)); simp [go_sem, k0d, k1d] at k0e k1e; have hB : Below w.heap.size w _ := below_step (by repeat (first | exact Below.refl _ _ | assumption | refine below_drewN ?_ _ | refine Below.drew ?_ | refine Below.alloc ?_ (by first | omega | (simp; done) | (simp; omega)) _ | refine Below.setCell ?_ (by first | (simp; done) | (simp; omega)) _)) h7; have hS := hB.size))
  all_goals go_wp2
  all_goals go_ret
  all_goals exact ⟨rfl, hB⟩

theorem Square_walk (a : Int) (w : World) (ha : in64 a) :
    Calls Try.prog 9 #[.int .i64 a] w fun e w' => e = .returned (.bool true) ∧ Below w.heap.size w w' := by
  obtain ⟨a0, a1⟩ := ha
  by_cases h0 : a ≤ 0
  · refine Square_zero a w h0 ?_
    by_cases hn : a < 0
    · exact fun w => FSqrt_neg a a0 hn w
    · obtain rfl : a = 0 := by omega
      exact fun w => FSqrt_any 0 0 (by omega) (by omega) (by omega) (by omega) (by omega) w
  · obtain ⟨s, s1, s2⟩ := exists_root (a * 4294967296) (by omega)
    have sb := root_bd a s a1 s1
    have sp : 0 < s := by
      refine Nat.pos_of_ne_zero fun h => ?_
      subst h; simp at s2; omega
    refine Square_pos a s (s + 1) _ _ _ _ _ _ w (by omega) (by omega) (by omega) rfl (fun w => FSqrt_any a s (by omega) a1 s1 s2 (by omega) w) (fun w => Mul_any a 4294967296 a0 a1 (by omega) (by omega) w)
      (fun w => Mul_any s s (by omega) (by omega) (by omega) (by omega) w) (fun w => Mul_any (s + 1) (s + 1) (by omega) (by omega) (by omega) (by omega) w) _ _ ?_ ?_ (fun w => Cmp_any _ _ w) (fun w => Cmp_any _ _ w)
    · unfold cmpI
      generalize (s : Int) * s = m at *
      split
      · omega
      · rw [if_neg (by omega)]; omega
    · unfold cmpI
      generalize ((s : Int) + 1) * (s + 1) = m at *
      rw [if_neg (by omega), if_pos (by omega)]; omega
end Go.Proofs.Ytgbhjbapemaadaa
